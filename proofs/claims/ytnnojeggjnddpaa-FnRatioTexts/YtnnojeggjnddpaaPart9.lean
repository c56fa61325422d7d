/- Part 9 of the walks that the proof leans on. -/
import Derived.Test.YtnnojeggjnddpaaPart8
import Derived.Test.YtnnojeggjnddpaaPart3
import Derived.Test.YtnnojeggjnddpaaPart6
import Derived.Lib.Bytealg
import Derived.WalkLawsBesides
import Derived.Lib.Strings
import Derived.Lib.IndexLaws
import Derived.Deep.RegionHeld3
import Derived.Test.YtnnojeggjnddpaaPart2
/- Texts of fractions drawn from a code. -/
namespace Go.Proofs.Ytnnojeggjnddpaa
open Go.RowKit
/-- Some text of at most 400 bytes. -/
def TxtP (w : World) (e : Ending) (w' : World) : Prop := ∃ t : ByteArray, e = .returned (.string t) ∧ t.size ≤ 400 ∧ Below w.heap.size w w'
theorem ra_size {x y : Int} (hx : told x = true) (hy : told y = true) : (strL (if rightB x y = true then raL x y else [])).size ≤ 300 := by
  rw [strL_size]
  split
  · have h1 := txS_le hx
    have h2 := unL_le hy
    unfold txS at h1
    rw [strL_size] at h1 h2
    unfold raL
    rw [List.length_append]
    omega
  · simp
def OneRP (w : World) (e : Ending) (w' : World) : Prop := ∃ x y : Int, e = .returned (.agg #[.int .u64 (ww3 x), .int .u64 (ww2 x), .int .u64 (ww1 x), .int .u64 (ww0 x), .int .u64 (ww3 y), .int .u64 (ww2 y), .int .u64 (ww1 y), .int .u64 (ww0 y)]) ∧ told x = true ∧ told y = true ∧ Below w.heap.size w w'
set_option maxRecDepth 100000 in
set_option maxHeartbeats 8000000 in
theorem drawRatioText_any (ao : Option Addr) (n cap : Nat) (cs : List Int) (w : World) (h : Code w ao n cs) : Calls Try.prog 36 #[.slice ao n cap] w (OneRP w) := by
  have B0 := Blk.new w [.int .u64 0, .int .u64 0, .int .u64 0, .int .u64 0, .int .u64 0, .int .u64 0, .int .u64 0, .int .u64 0] 37 rfl
  rw [show ([.int .u64 0, .int .u64 0, .int .u64 0, .int .u64 0, .int .u64 0, .int .u64 0, .int .u64 0, .int .u64 0] : List Value).toArray = #[.int .u64 0, .int .u64 0, .int .u64 0, .int .u64 0, .int .u64 0, .int .u64 0, .int .u64 0, .int .u64 0] from rfl] at B0
  have HB : Below w.heap.size w (w.alloc (.cells #[.int .u64 0, .int .u64 0, .int .u64 0, .int .u64 0, .int .u64 0, .int .u64 0, .int .u64 0, .int .u64 0] 37)) := (Below.refl _ _).alloc (Nat.le_refl _) _
  replace h := h.below HB
  go_enter Try.func36, Try.ntmps36
  go_wp2_with fail
  refine (open_any ao n cap cs _ h).mono ?_
  rintro e w1 ⟨g, rfl, hG, R, hB⟩
  simp at hG
  have h0 : w.heap.size ≠ g := by omega
  replace B0 := B0.step hB
  replace HB : Below w.heap.size w w1 := HB.trans (hB.mono HB.size)
  have hl := HB.size
  clear h hB
  go_wp2_with fail
  refine (ratio_any g ao n cap cs _ R).mono ?_
  rintro e w2 ⟨_, rfl, ⟨x, y, rfl, tx, ty⟩, R1, K⟩
  replace B0 := B0.kept K h0
  replace HB : Below w.heap.size w w2 := HB.trans (K.below (by omega) hl)
  have dl := B0.lt
  have o0 := B0.c 0 rfl; have f0 := B0.f 0 rfl; have o1 := B0.c 1 rfl; have f1 := B0.f 1 rfl; have o2 := B0.c 2 rfl; have f2 := B0.f 2 rfl; have o3 := B0.c 3 rfl; have f3 := B0.f 3 rfl; have o4 := B0.c 4 rfl; have f4 := B0.f 4 rfl; have o5 := B0.c 5 rfl; have f5 := B0.f 5 rfl; have o6 := B0.c 6 rfl; have f6 := B0.f 6 rfl; have o7 := B0.c 7 rfl; have f7 := B0.f 7 rfl
  clear K R R1
  go_wp2
  refine bodyPost_ret (v := .agg #[.int .u64 (ww3 x), .int .u64 (ww2 x), .int .u64 (ww1 x), .int .u64 (ww0 x), .int .u64 (ww3 y), .int .u64 (ww2 y), .int .u64 (ww1 y), .int .u64 (ww0 y)]) (by simp [results, Try.results36, go_sem, o0, o1, o2, o3, o4, o5, o6, o7]) rfl ?_
  have HBF : Below w.heap.size w _ := ((((((((HB.setCell (p := ⟨w.heap.size, 0, none⟩) (Nat.le_refl _) (.int .u64 (ww3 x))).setCell (p := ⟨w.heap.size, 1, none⟩) (Nat.le_refl _) (.int .u64 (ww2 x))).setCell (p := ⟨w.heap.size, 2, none⟩) (Nat.le_refl _) (.int .u64 (ww1 x))).setCell (p := ⟨w.heap.size, 3, none⟩) (Nat.le_refl _) (.int .u64 (ww0 x))).setCell (p := ⟨w.heap.size, 4, none⟩) (Nat.le_refl _) (.int .u64 (ww3 y))).setCell (p := ⟨w.heap.size, 5, none⟩) (Nat.le_refl _) (.int .u64 (ww2 y))).setCell (p := ⟨w.heap.size, 6, none⟩) (Nat.le_refl _) (.int .u64 (ww1 y))).setCell (p := ⟨w.heap.size, 7, none⟩) (Nat.le_refl _) (.int .u64 (ww0 y)))
  exact ⟨x, y, rfl, tx, ty, HBF⟩
set_option maxRecDepth 100000 in
set_option maxHeartbeats 8000000 in
theorem drawReadRatio_any (ao : Option Addr) (n cap : Nat) (cs : List Int) (w : World) (h : Code w ao n cs) : Calls Try.prog 38 #[.slice ao n cap] w (TxtP w) := by
  go_enter Try.func38, Try.ntmps38
  go_wp2_with fail
  refine (open_any ao n cap cs _ h).mono ?_
  rintro e w1 ⟨g, rfl, hG, R, HB⟩
  have hl := HB.size
  clear h
  go_wp2_with fail
  refine (ratio_any g ao n cap cs _ R).mono ?_
  rintro e w2 ⟨_, rfl, ⟨x, y, rfl, tx, ty⟩, R1, K⟩
  clear R
  have CT := specRatText_det x y tx ty
  have hT : (strL (if rightB x y = true then raL x y else [])).size ≤ 300 := ra_size tx ty
  generalize strL (if rightB x y = true then raL x y else []) = T at *
  go_wp2_with fail
  refine (CT _).mono ?_
  rintro e w3 ⟨rfl, hB⟩
  have R := R1.step hB
  replace K := K.trans (Kept.of hB)
  clear R1 hB CT
  go_wp2_with fail
  refine (below_any 8 (by decide) (by decide) g ao n cap cs _ R).mono ?_
  rintro e w4 ⟨_, rfl, ⟨v, rfl, v0, v1⟩, R4, K4⟩
  replace K := K.trans K4
  clear R K4
  have R := R4
  clear R4
  by_cases hv0 : v = 0
  · subst hv0
    have q1 : ¬ (9223372036854775807 < T.size + 2) := by omega
    have HBF := HB.trans (K.below hG hl)
    clear R K HB
    go_wp2
    go_ret
    exact ⟨_, rfl, by rw [ByteArray.size_append]; show T.size + 2 ≤ 400; omega, HBF⟩
  · have b0 : (v == 0) = false := beq_eq_false_iff_ne.2 hv0
    by_cases hv1 : v = 1
    · subst hv1
      have G := Blk.new w4 [.string ⟨#[47]⟩, .string ⟨#[47, 50]⟩, .string ⟨#[47, 45, 51]⟩, .string ⟨#[47, 48]⟩, .string ⟨#[48]⟩] 9 rfl
      rw [show ([.string ⟨#[47]⟩, .string ⟨#[47, 50]⟩, .string ⟨#[47, 45, 51]⟩, .string ⟨#[47, 48]⟩, .string ⟨#[48]⟩] : List Value).toArray = #[.string ⟨#[47]⟩, .string ⟨#[47, 50]⟩, .string ⟨#[47, 45, 51]⟩, .string ⟨#[47, 48]⟩, .string ⟨#[48]⟩] from rfl] at G
      have hgl := R.lt
      have hgn : w4.heap.size ≠ g := by omega
      replace R := R.alloc (.cells #[.string ⟨#[47]⟩, .string ⟨#[47, 50]⟩, .string ⟨#[47, 45, 51]⟩, .string ⟨#[47, 48]⟩, .string ⟨#[48]⟩] 9)
      replace K := K.alloc (.cells #[.string ⟨#[47]⟩, .string ⟨#[47, 50]⟩, .string ⟨#[47, 45, 51]⟩, .string ⟨#[47, 48]⟩, .string ⟨#[48]⟩] 9)
      go_wp2_with fail
      refine (below_any 5 (by decide) (by decide) g ao n cap cs _ R).mono ?_
      rintro e w6 ⟨_, rfl, ⟨j, rfl, j0, j1⟩, R6, K6⟩
      replace G := G.kept K6 hgn
      replace K := K.trans K6
      obtain ⟨k, rfl⟩ : ∃ k : Nat, j = k := ⟨j.toNat, by omega⟩
      obtain ⟨u, hu, hus⟩ : ∃ u : ByteArray, w6.cell? ⟨w4.heap.size, k, none⟩ = some (.string u) ∧ u.size ≤ 100 := by
        rcases (by omega : k = 0 ∨ k = 1 ∨ k = 2 ∨ k = 3 ∨ k = 4) with rfl | rfl | rfl | rfl | rfl
        · exact ⟨_, G.c 0 rfl, by decide⟩
        · exact ⟨_, G.c 1 rfl, by decide⟩
        · exact ⟨_, G.c 2 rfl, by decide⟩
        · exact ⟨_, G.c 3 rfl, by decide⟩
        · exact ⟨_, G.c 4 rfl, by decide⟩
      have q1 : ¬ (9223372036854775807 < T.size + u.size) := by omega
      have HBF := HB.trans (K.below hG hl)
      clear G R R6 K6 K HB
      go_wp2
      go_ret
      exact ⟨_, rfl, by rw [ByteArray.size_append]; omega, HBF⟩
    · have b1 : (v == 1) = false := beq_eq_false_iff_ne.2 hv1
      by_cases hv2 : v = 2
      · subst hv2
        have G := Blk.new w4 [.string ⟨#[50, 47, 52]⟩, .string ⟨#[45, 49, 47, 50]⟩, .string ⟨#[49, 47, 45, 50]⟩, .string ⟨#[]⟩, .string ⟨#[47]⟩, .string ⟨#[48, 47, 51]⟩, .string ⟨#[51, 47, 48]⟩, .string ⟨#[49, 47, 50, 47, 51]⟩] 9 rfl
        rw [show ([.string ⟨#[50, 47, 52]⟩, .string ⟨#[45, 49, 47, 50]⟩, .string ⟨#[49, 47, 45, 50]⟩, .string ⟨#[]⟩, .string ⟨#[47]⟩, .string ⟨#[48, 47, 51]⟩, .string ⟨#[51, 47, 48]⟩, .string ⟨#[49, 47, 50, 47, 51]⟩] : List Value).toArray = #[.string ⟨#[50, 47, 52]⟩, .string ⟨#[45, 49, 47, 50]⟩, .string ⟨#[49, 47, 45, 50]⟩, .string ⟨#[]⟩, .string ⟨#[47]⟩, .string ⟨#[48, 47, 51]⟩, .string ⟨#[51, 47, 48]⟩, .string ⟨#[49, 47, 50, 47, 51]⟩] from rfl] at G
        have hgl := R.lt
        have hgn : w4.heap.size ≠ g := by omega
        replace R := R.alloc (.cells #[.string ⟨#[50, 47, 52]⟩, .string ⟨#[45, 49, 47, 50]⟩, .string ⟨#[49, 47, 45, 50]⟩, .string ⟨#[]⟩, .string ⟨#[47]⟩, .string ⟨#[48, 47, 51]⟩, .string ⟨#[51, 47, 48]⟩, .string ⟨#[49, 47, 50, 47, 51]⟩] 9)
        replace K := K.alloc (.cells #[.string ⟨#[50, 47, 52]⟩, .string ⟨#[45, 49, 47, 50]⟩, .string ⟨#[49, 47, 45, 50]⟩, .string ⟨#[]⟩, .string ⟨#[47]⟩, .string ⟨#[48, 47, 51]⟩, .string ⟨#[51, 47, 48]⟩, .string ⟨#[49, 47, 50, 47, 51]⟩] 9)
        go_wp2_with fail
        refine (below_any 8 (by decide) (by decide) g ao n cap cs _ R).mono ?_
        rintro e w6 ⟨_, rfl, ⟨j, rfl, j0, j1⟩, R6, K6⟩
        replace G := G.kept K6 hgn
        replace K := K.trans K6
        obtain ⟨k, rfl⟩ : ∃ k : Nat, j = k := ⟨j.toNat, by omega⟩
        obtain ⟨u, hu, hus⟩ : ∃ u : ByteArray, w6.cell? ⟨w4.heap.size, k, none⟩ = some (.string u) ∧ u.size ≤ 100 := by
          rcases (by omega : k = 0 ∨ k = 1 ∨ k = 2 ∨ k = 3 ∨ k = 4 ∨ k = 5 ∨ k = 6 ∨ k = 7) with rfl | rfl | rfl | rfl | rfl | rfl | rfl | rfl
          · exact ⟨_, G.c 0 rfl, by decide⟩
          · exact ⟨_, G.c 1 rfl, by decide⟩
          · exact ⟨_, G.c 2 rfl, by decide⟩
          · exact ⟨_, G.c 3 rfl, by decide⟩
          · exact ⟨_, G.c 4 rfl, by decide⟩
          · exact ⟨_, G.c 5 rfl, by decide⟩
          · exact ⟨_, G.c 6 rfl, by decide⟩
          · exact ⟨_, G.c 7 rfl, by decide⟩
        have q1 : ¬ (9223372036854775807 < T.size + u.size) := by omega
        have HBF := HB.trans (K.below hG hl)
        clear G R R6 K6 K HB
        go_wp2
        go_ret
        exact ⟨_, rfl, by omega, HBF⟩
      · have b2 : (v == 2) = false := beq_eq_false_iff_ne.2 hv2
        have HBF := HB.trans (K.below hG hl)
        clear R K HB
        go_wp2
        go_ret
        exact ⟨_, rfl, by omega, HBF⟩
end Go.Proofs.Ytnnojeggjnddpaa

/- Ten times a number of four words and one more digit. -/
namespace Go.Proofs.Ytnnojeggjnddpaa
open Go.RowKit
theorem ix4 (x0 x1 x2 x3 : Int) (k : Nat) (hk : k < [x0, x1, x2, x3].length) (w : World) : (Instr.index 70 (.agg #[.int .u64 x0, .int .u64 x1, .int .u64 x2, .int .u64 x3]) (.int .i64 k)).run Try.prog w = .ok (.int .u64 [x0, x1, x2, x3][k]) w := by
  match k, hk with
  | 0, _ => exact (show (Instr.index 70 (.agg #[.int .u64 x0, .int .u64 x1, .int .u64 x2, .int .u64 x3]) (.int .i64 ((0 : Nat) : Int))).run Try.prog w = .ok (.int .u64 x0) w by kernel_rfl)
  | 1, _ => exact (show (Instr.index 70 (.agg #[.int .u64 x0, .int .u64 x1, .int .u64 x2, .int .u64 x3]) (.int .i64 ((1 : Nat) : Int))).run Try.prog w = .ok (.int .u64 x1) w by kernel_rfl)
  | 2, _ => exact (show (Instr.index 70 (.agg #[.int .u64 x0, .int .u64 x1, .int .u64 x2, .int .u64 x3]) (.int .i64 ((2 : Nat) : Int))).run Try.prog w = .ok (.int .u64 x2) w by kernel_rfl)
  | 3, _ => exact (show (Instr.index 70 (.agg #[.int .u64 x0, .int .u64 x1, .int .u64 x2, .int .u64 x3]) (.int .i64 ((3 : Nat) : Int))).run Try.prog w = .ok (.int .u64 x3) w by kernel_rfl)
/-- The words ahead of a place, ten times; what is over. -/
structure TfI (xs zs : List Int) (d : Int) (k : Nat) (o : Int) : Prop where
  len : zs.length = 4
  wds : Words zs
  o0 : 0 ≤ o
  o1 : o < 10
  eq : val64 (zs.take k) + pw64 k * o = 10 * val64 (xs.take k) + d
theorem tf_start {xs : List Int} (hl : xs.length = 4) (hx : Words xs) {d : Int} (h0 : 0 ≤ d) (h1 : d < 10) : TfI xs xs d 0 d :=
  ⟨hl, hx, h0, h1, by simp [val64, pw64]⟩
theorem tf_step {xs zs : List Int} {d : Int} {k : Nat} {o : Int} (h : TfI xs zs d k o) (hk : k < xs.length) (hz : k < zs.length) (hx : Word xs[k]) (t : Int) (ht : t = xs[k] * 10 + o) : TfI xs (zs.set k (t % 18446744073709551616)) d (k + 1) (t / 18446744073709551616) := by
  obtain ⟨h1, h2, h3, h4, h5⟩ := h
  unfold Word at hx
  refine ⟨by simpa using h1, words_set h2 k ⟨by omega, by omega⟩, by omega, by omega, ?_⟩
  rw [val64_take (zs.set k (t % 18446744073709551616)) k (by simpa using hz), List.getElem_set_self, val64_take xs k hk, List.take_set_of_le (Nat.le_refl k), pw64]
  have e2 : t = t % 18446744073709551616 + 18446744073709551616 * (t / 18446744073709551616) := by omega
  generalize t / 18446744073709551616 = q at *
  generalize t % 18446744073709551616 = r at *
  generalize xs[k] = x at *
  generalize pw64 k = p at *
  generalize val64 (zs.take k) = a at *
  generalize val64 (xs.take k) = b at *
  clear h1 h2
  grind
theorem tf_arith {x o : Int} (h0 : 0 ≤ o) (h1 : o < 10) : Word (x * 10 % 18446744073709551616) ∧ Word o ∧ (x * 10 % 18446744073709551616 + o) % 18446744073709551616 = (x * 10 + o) % 18446744073709551616 ∧ x * 10 / 18446744073709551616 + (x * 10 % 18446744073709551616 + o) / 18446744073709551616 = (x * 10 + o) / 18446744073709551616 := by
  unfold Word at *
  omega
set_option maxRecDepth 100000 in
set_option maxHeartbeats 1000000 in
theorem tenfold_any (xs : List Int) (d : Int) (hl : xs.length = 4) (hx : Words xs) (h0 : 0 ≤ d) (h1 : d < 10) (hb : 10 * val64 xs + d < 115792089237316195423570985008687907853269984665640564039457584007913129639936) (w : World) : Calls Try.prog 51 #[agg xs, .int .u64 d] w (AggP 4 (10 * val64 xs + d) w) := by
  have HI : Hid (TfI xs xs d 0 d) := tf_start hl hx h0 h1
  have HX : Hid (Words xs) := hx
  have HL : Hid (xs.length = 4) := hl
  have HBD : Hid (10 * val64 xs + d < 115792089237316195423570985008687907853269984665640564039457584007913129639936) := hb
  obtain ⟨x0, x1, x2, x3, hxs⟩ := list4 hl
  have HA : agg xs = .agg #[.int .u64 x0, .int .u64 x1, .int .u64 x2, .int .u64 x3] := by rw [hxs]; rfl
  have AG := ix4 x0 x1 x2 x3
  rw [← hxs] at AG
  rw [HA]
  have HS : Mk w ((w.alloc (.cells #[.int .u64 x0, .int .u64 x1, .int .u64 x2, .int .u64 x3] 70)).alloc (.cells #[.int .u64 0, .int .u64 0, .int .u64 0, .int .u64 0] 70)) (w.heap.size + 1) w.heap.size (List.replicate 4 (.int .u64 0)) xs :=
    ⟨((Below.refl _ _).alloc (Nat.le_refl _) _).alloc (by simp) _, Blk.new _ [.int .u64 0, .int .u64 0, .int .u64 0, .int .u64 0] _ (by simp), by rw [hxs]; exact (Blk.new w [.int .u64 x0, .int .u64 x1, .int .u64 x2, .int .u64 x3] _ rfl).alloc _⟩
  clear hl hx HA hxs hb
  go_enter Try.func51, Try.ntmps51
  go_wp2
  generalize ((w.alloc (.cells #[.int .u64 x0, .int .u64 x1, .int .u64 x2, .int .u64 x3] 70)).alloc (.cells #[.int .u64 0, .int .u64 0, .int .u64 0, .int .u64 0] 70)) = W at *
  go_loopw [5, 13] (fun ov i wr => ∃ (k : Nat) (o : Int) (zs : List Int), k ≤ 4 ∧ i = .int .i64 k ∧ ov = .int .u64 o ∧ TfI xs zs d k o ∧ Mk w wr (w.heap.size + 1) w.heap.size (List.replicate 4 (.int .u64 0)) zs) (fun _ i _ => 4 - (intOf i).toNat)
  case atStart => exact ⟨0, d, _, by omega, rfl, rfl, HI.out, HS⟩
  case round =>
    clear HI HS h0 h1
    obtain ⟨k, o, zs, hk, rfl, rfl, hI, hM⟩ := hrel
    have hlen := hI.len
    by_cases hk4 : k < 4
    · have hkx : k < xs.length := by have := HL.out; omega
      have ag := AG k hkx
      have hz : k < zs.length := by omega
      obtain ⟨q1, q2⟩ := hM.cp k hz
      have hwx : Word xs[k] := words_at HX.out k hkx
      obtain ⟨t1, t2, t3, t4⟩ := tf_arith (x := xs[k]) hI.o0 hI.o1
      obtain ⟨hi, ehi⟩ : ∃ v, xs[k] * 10 / 18446744073709551616 = v := ⟨_, rfl⟩
      obtain ⟨lo, elo⟩ : ∃ v, xs[k] * 10 % 18446744073709551616 = v := ⟨_, rfl⟩
      have M1 := mul64d xs[k] 10 hi lo hwx ⟨by decide, by decide⟩ ehi elo
      rw [elo] at t1 t3 t4
      rw [ehi] at t4
      obtain ⟨n1, en1⟩ : ∃ v, (lo + o) % 18446744073709551616 = v := ⟨_, rfl⟩
      obtain ⟨c1, ec1⟩ : ∃ v, (lo + o) / 18446744073709551616 = v := ⟨_, rfl⟩
      have A1 := add64d lo o n1 c1 t1 t2 en1 ec1
      have R1 := tf_step hI hkx hz hwx _ rfl
      rw [← t3, ← t4, en1, ec1] at R1
      have R2 : Hid (TfI xs (zs.set k n1) d (k + 1) (hi + c1)) := R1
      have d4 : 0 ≤ hi + c1 := R1.o0
      have d5 : hi + c1 < 10 := R1.o1
      have M3 : Hid (Mk w (wr.setCell ⟨w.heap.size, k, none⟩ (.int .u64 n1)) (w.heap.size + 1) w.heap.size (List.replicate 4 (.int .u64 0)) (zs.set k n1)) := hM.set (by omega) (Nat.le_refl _) k hz n1
      have hkI : (k : Int) < 4 := by omega
      clear hI hM t1 t2 t3 t4 ehi elo en1 ec1 R1 AG hwx
      go_wp2_with fail
      refine (M1 _).mono ?_
      rintro e w1 ⟨rfl, rfl⟩
      clear M1
      go_wp2
      go_roundw
      case rel => exact ⟨k + 1, _, _, by omega, by go_num, rfl, R2.out, M3.out⟩
      case measure => simp [intOf]; omega
    · obtain rfl : k = 4 := by omega
      have HV := hI.eq
      have HW := hI.wds
      have ho0 := hI.o0
      obtain ⟨z0, z1, z2, z3, rfl⟩ := list4 hlen
      obtain ⟨c0, f0⟩ := hM.cp 0 (by simp)
      obtain ⟨c1, f1⟩ := hM.cp 1 (by simp)
      obtain ⟨c2, f2⟩ := hM.cp 2 (by simp)
      obtain ⟨c3, f3⟩ := hM.cp 3 (by simp)
      have d0 := hM.r.c 0 rfl; have e0 := hM.r.f 0 rfl
      have d1 := hM.r.c 1 rfl; have e1 := hM.r.f 1 rfl
      have d2 := hM.r.c 2 rfl; have e2 := hM.r.f 2 rfl
      have d3 := hM.r.c 3 rfl; have e3 := hM.r.f 3 rfl
      have HB := hM.below
      simp only [List.getElem_cons_zero, List.getElem_cons_succ] at c0 c1 c2 c3
      have HV2 : Hid (val64 [z0, z1, z2, z3] = 10 * val64 xs + d) := by
        show _ = _
        rw [List.take_of_length_le (by simp), List.take_of_length_le (by rw [HL.out]; omega), show pw64 4 = 115792089237316195423570985008687907853269984665640564039457584007913129639936 by decide] at HV
        have h8 := val64_nonneg HW
        have h9 := HBD.out
        omega
      clear hI hM hlen HV ho0
      go_wp2
      refine bodyPost_ret (v := .agg #[.int .u64 z0, .int .u64 z1, .int .u64 z2, .int .u64 z3]) (by simp [results, Try.results51, go_sem, d0, d1, d2, d3]) rfl ?_
      refine ⟨[z0, z1, z2, z3], rfl, rfl, HW, HV2.out, ?_⟩
      repeat' (refine Below.setCell ?_ (by simp) _)
      exact HB
end Go.Proofs.Ytnnojeggjnddpaa

/- Texts of nine bytes: matrices and masks, on both sides. -/
namespace Go.Proofs.Ytnnojeggjnddpaa
open Go.RowKit
/-- The byte of a text at a place. -/
def bt (s : ByteArray) (i : Nat) : Nat := (s.data.toList.getD i 0).toNat
theorem bt_at {s : ByteArray} {i : Nat} (h : i < s.size) : s[i].toNat = bt s i := by
  have h2 : i < s.data.size := h
  show (s.data[i]).toNat = _
  unfold bt
  rw [List.getD_eq_getElem?_getD, Array.getElem?_toList, Array.getElem?_eq_getElem h2]; rfl
theorem bt_lt (s : ByteArray) (i : Nat) : bt s i < 256 := UInt8.toNat_lt _
/-- That a text has just the bytes of a list. -/
def Bytes (ts : ByteArray) (t : List Nat) : Prop := ∀ n : Nat, n < 256 → (0 ≤ Lib.indexByte ts.data.toList (Int.toNat (n : Int)).toUInt8 ↔ n ∈ t)
set_option maxRecDepth 100000 in
set_option maxHeartbeats 1000000 in
theorem idxB_any (s : ByteArray) (c : Int) (w : World) : Calls Try.prog 126 #[.string s, .int .u8 c] w (VP (.int .i64 (Lib.indexByte s.data.toList c.toNat.toUInt8)) w) := by
  go_enter Try.func126, Try.ntmps126
  go_wp2
  rw [run_callFunc_extern Try.func134 (by kernel_rfl) (by kernel_rfl) (by kernel_rfl) (e := Extern.BytealgIndexByte.indexByte) (by kernel_rfl), Lib.run_indexByteString]
  simp only [Result.andThen]
  rw [Oper.upon_value]
  go_wp2
  go_ret
  exact ⟨rfl, Below.refl _ _⟩
end Go.Proofs.Ytnnojeggjnddpaa

/- Whether a text is a number in decimal, and a text without its sign: the program's. -/
namespace Go.Proofs.Ytnnojeggjnddpaa
open Go.RowKit
theorem tl_data (s : ByteArray) : s.toList = s.data.toList := Lib.toList_data s
theorem tl_btL (s : ByteArray) : btL s = s.toList.map UInt8.toNat := by rw [tl_data]; rfl
theorem btL_getQ {s : ByteArray} {i : Nat} (h : i < s.size) : (btL s)[i]? = some (bt s i) := by
  have h2 : i < s.data.toList.length := h
  unfold btL bt
  rw [List.getElem?_map, List.getD_eq_getElem?_getD, List.getElem?_eq_getElem h2]
  rfl
theorem btL_get {s : ByteArray} {i : Nat} (h : i < (btL s).length) : (btL s)[i] = bt s i := (List.getElem?_eq_some_iff.1 (btL_getQ (by rw [btL_len] at h; exact h))).2
theorem tl_nil {s : ByteArray} : s.toList = [] ↔ btL s = [] := by rw [tl_btL, List.map_eq_nil_iff]
theorem tl_one {s : ByteArray} (c : UInt8) : s.toList = [c] ↔ btL s = [c.toNat] := by
  rw [tl_btL]
  constructor
  · intro h; rw [h]; rfl
  · intro h
    cases hl : s.toList with
    | nil => rw [hl] at h; simp at h
    | cons x l =>
      rw [hl] at h
      cases l with
      | nil => simp only [List.map_cons, List.map_nil, List.cons.injEq, and_true] at h; rw [UInt8.toNat_inj.1 h]
      | cons y m => simp at h
theorem btL_head {s : ByteArray} (h : 0 < s.size) : (btL s).head? = some (bt s 0) := by
  have h2 : 0 < (btL s).length := by rw [btL_len]; exact h
  rw [List.head?_eq_getElem?, List.getElem?_eq_getElem h2, btL_get h2]
theorem btL_mem {s : ByteArray} {P : Nat → Prop} : (∀ b ∈ btL s, P b) ↔ ∀ j, j < s.size → P (bt s j) := by
  rw [← btL_len]
  constructor
  · intro h j hj
    rw [← btL_get hj]
    exact h _ (List.getElem_mem hj)
  · intro h b hb
    obtain ⟨j, hj, rfl⟩ := List.getElem_of_mem hb
    rw [btL_get hj]
    exact h j hj
set_option maxRecDepth 100000 in
set_option maxHeartbeats 1000000 in
theorem isDecimal_any (s : ByteArray) (hm : s.size ≤ 9223372036854775807) (b : Bool) (hb : b = true ↔ DecL (btL s)) (w : World) : Calls Try.prog 50 #[.string s] w (VP (.bool b) w) := by
  have HB : Hid (b = true ↔ DecL (btL s)) := hb
  clear hb
  by_cases h0 : s.toList = []
  · obtain rfl : b = false := by
      cases b
      · rfl
      · exact absurd (tl_nil.1 h0) (HB.out.1 rfl).1
    have e1 : s.toList.isEmpty = true := by rw [h0]; rfl
    clear h0
    go_enter Try.func50, Try.ntmps50
    go_wp2
    go_ret
    exact ⟨rfl, Below.refl _ _⟩
  · have e1 : s.toList.isEmpty = false := by rw [List.isEmpty_eq_false_iff]; exact h0
    have hs : 0 < s.size := by
      rcases Nat.eq_zero_or_pos s.size with h | h
      · exact absurd (tl_nil.2 (List.length_eq_zero_iff.1 (by rw [btL_len]; exact h))) h0
      · exact h
    have hbt := bt_at hs
    have hlt := bt_lt s 0
    by_cases hz : bt s 0 = 48 ∧ ¬ s.toList = [48]
    · obtain ⟨hz0, hz1⟩ := hz
      obtain rfl : b = false := by
        cases b
        · rfl
        · exact absurd ((HB.out.1 rfl).2.1 (by rw [btL_head hs, hz0])) (fun h => hz1 ((tl_one 48).2 h))
      rw [hz0] at hbt
      have e2 : (s.toList == [48]) = false := beq_eq_false_iff_ne.2 hz1
      clear h0 hz1
      go_enter Try.func50, Try.ntmps50
      go_wp2
      go_ret
      exact ⟨rfl, Below.refl _ _⟩
    · have HZ : Hid ((btL s).head? = some 48 → btL s = [48]) := by
        intro h
        rw [btL_head hs] at h
        have h2 : bt s 0 = 48 := by simpa using h
        exact (tl_one 48).1 (Classical.byContradiction fun h3 => hz ⟨h2, h3⟩)
      have hcase : (bt s 0 = 48 ∧ s.toList = [48]) ∨ ¬ bt s 0 = 48 := by
        by_cases h2 : bt s 0 = 48
        · exact Or.inl ⟨h2, Classical.byContradiction fun h3 => hz ⟨h2, h3⟩⟩
        · exact Or.inr h2
      clear hz
      rcases hcase with ⟨h2, h3⟩ | h2
      · have hb0 : ((bt s 0 : Int) == 48) = true := by rw [h2]; rfl
        have e2 : (s.toList == [48]) = true := beq_iff_eq.2 h3
        have H0 : Hid (¬ s.toList = []) := h0
        clear h2 h3 h0
        go_enter Try.func50, Try.ntmps50
        go_wp2
        go_loop [17] (fun i => ∃ c : Nat, c ≤ s.size ∧ i = .int .i64 c ∧ ∀ j, j < c → isD (bt s j)) (fun i => s.size - (intOf i).toNat)
        case atStart => exact ⟨0, by omega, rfl, fun j hj => by omega⟩
        case round =>
          obtain ⟨c, hc, rfl, hI⟩ := hrel
          have HI : Hid (∀ j, j < c → isD (bt s j)) := hI
          clear hI hbt hlt
          by_cases hcs : c < s.size
          · have hbt := bt_at hcs
            have hlt := bt_lt s c
            have hcI : (c : Int) < s.size := by omega
            by_cases hd : isD (bt s c)
            · obtain ⟨hd1, hd2⟩ := hd
              have hd3 : ¬ ((bt s c : Int) < 48) := by omega
              have hd4 : ¬ ((57 : Int) < (bt s c : Int)) := by omega
              go_wp2
              go_round
              case rel => exact ⟨c + 1, by omega, by go_num, fun j hj => by
                by_cases e : j = c
                · rw [e]; exact ⟨hd1, hd2⟩
                · exact HI.out j (by omega)⟩
              case measure => simp [intOf]; omega
            · obtain rfl : b = false := by
                cases b
                · rfl
                · exact absurd (btL_mem.1 (HB.out.1 rfl).2.2 c hcs) hd
              by_cases hd1 : 48 ≤ bt s c
              · have hd3 : ¬ ((bt s c : Int) < 48) := by omega
                have hd4 : (57 : Int) < (bt s c : Int) := by unfold isD at hd; omega
                clear hd
                go_wp2
                go_ret
                exact ⟨rfl, Below.refl _ _⟩
              · have hd3 : (bt s c : Int) < 48 := by omega
                clear hd
                go_wp2
                go_ret
                exact ⟨rfl, Below.refl _ _⟩
          · obtain rfl : c = s.size := by omega
            obtain rfl : b = true := HB.out.2 ⟨fun h => H0.out (tl_nil.2 h), HZ.out, btL_mem.2 HI.out⟩
            go_wp2
            go_ret
            exact ⟨rfl, Below.refl _ _⟩
      · have hb0 : ((bt s 0 : Int) == 48) = false := beq_eq_false_iff_ne.2 (by omega)
        have H0 : Hid (¬ s.toList = []) := h0
        clear h2 h0
        go_enter Try.func50, Try.ntmps50
        go_wp2
        go_loop [17] (fun i => ∃ c : Nat, c ≤ s.size ∧ i = .int .i64 c ∧ ∀ j, j < c → isD (bt s j)) (fun i => s.size - (intOf i).toNat)
        case atStart => exact ⟨0, by omega, rfl, fun j hj => by omega⟩
        case round =>
          obtain ⟨c, hc, rfl, hI⟩ := hrel
          have HI : Hid (∀ j, j < c → isD (bt s j)) := hI
          clear hI hbt hlt
          by_cases hcs : c < s.size
          · have hbt := bt_at hcs
            have hlt := bt_lt s c
            have hcI : (c : Int) < s.size := by omega
            by_cases hd : isD (bt s c)
            · obtain ⟨hd1, hd2⟩ := hd
              have hd3 : ¬ ((bt s c : Int) < 48) := by omega
              have hd4 : ¬ ((57 : Int) < (bt s c : Int)) := by omega
              go_wp2
              go_round
              case rel => exact ⟨c + 1, by omega, by go_num, fun j hj => by
                by_cases e : j = c
                · rw [e]; exact ⟨hd1, hd2⟩
                · exact HI.out j (by omega)⟩
              case measure => simp [intOf]; omega
            · obtain rfl : b = false := by
                cases b
                · rfl
                · exact absurd (btL_mem.1 (HB.out.1 rfl).2.2 c hcs) hd
              by_cases hd1 : 48 ≤ bt s c
              · have hd3 : ¬ ((bt s c : Int) < 48) := by omega
                have hd4 : (57 : Int) < (bt s c : Int) := by unfold isD at hd; omega
                clear hd
                go_wp2
                go_ret
                exact ⟨rfl, Below.refl _ _⟩
              · have hd3 : (bt s c : Int) < 48 := by omega
                clear hd
                go_wp2
                go_ret
                exact ⟨rfl, Below.refl _ _⟩
          · obtain rfl : c = s.size := by omega
            obtain rfl : b = true := HB.out.2 ⟨fun h => H0.out (tl_nil.2 h), HZ.out, btL_mem.2 HI.out⟩
            go_wp2
            go_ret
            exact ⟨rfl, Below.refl _ _⟩
end Go.Proofs.Ytnnojeggjnddpaa

/- A text cut of its sign: the program's. -/
namespace Go.Proofs.Ytnnojeggjnddpaa
open Go.RowKit
theorem ex_head {s : ByteArray} (hs : 0 < s.size) : ((s.extract 0 1).toList == [45]) = decide ((btL s).head? = some 45) := by
  rw [Bool.eq_iff_iff, beq_iff_eq, decide_eq_true_iff, tl_one, btL_extract]
  have h : 0 < (btL s).length := by rw [btL_len]; exact hs
  cases hl : btL s with
  | nil => rw [hl] at h; simp at h
  | cons x t => simp
theorem ex_tail {s : ByteArray} (h : (btL s).head? = some 45) : s.extract 1 s.size = strL (cutM (btL s)) := by
  rw [← strL_btL (s.extract 1 s.size), btL_extract, ← btL_len]
  congr 1
  unfold cutM
  rw [if_pos h, List.drop_one, List.take_of_length_le (by simp)]
set_option maxRecDepth 100000 in
set_option maxHeartbeats 1000000 in
theorem cutPre_any (s : ByteArray) (hm : s.size ≤ 9223372036854775807) (b : Bool) (hb : b = decide ((btL s).head? = some 45)) (w : World) : Calls Try.prog 49 #[.string s, .string ⟨#[45]⟩] w (VP (.tuple #[.string (strL (cutM (btL s))), .bool b]) w) := by
  by_cases h : (btL s).head? = some 45
  · obtain rfl : b = true := by rw [hb]; exact decide_eq_true h
    have hs : 0 < s.size := by
      rw [← btL_len]
      cases hl : btL s with
      | nil => rw [hl] at h; simp at h
      | cons x t => simp
    have e1 := ex_head hs
    rw [← hb] at e1
    have e2 := ex_tail h
    have hs1 : (1 : Int) ≤ s.size := by omega
    clear h hb
    go_enter Try.func49, Try.ntmps49
    go_wp2
    refine bodyPost_ret (v := .tuple #[.string (strL (cutM (btL s))), .bool true]) (by simp [results, Try.results49, go_sem]) rfl ?_
    exact ⟨rfl, Below.refl _ _⟩
  · obtain rfl : b = false := by rw [hb]; exact decide_eq_false h
    have e2 : Hid (strL (cutM (btL s)) = s) := by show _ = _; rw [cutM_pos h, strL_btL]
    rw [e2.out]
    clear e2
    by_cases hs : 0 < s.size
    · have e1 := ex_head hs
      rw [← hb] at e1
      have hs1 : (1 : Int) ≤ s.size := by omega
      clear h hb
      go_enter Try.func49, Try.ntmps49
      go_wp2
      refine bodyPost_ret (v := .tuple #[.string s, .bool false]) (by simp [results, Try.results49, go_sem]) rfl ?_
      exact ⟨rfl, Below.refl _ _⟩
    · have hs1 : ¬ (1 : Int) ≤ s.size := by omega
      clear h hb
      go_enter Try.func49, Try.ntmps49
      go_wp2
      refine bodyPost_ret (v := .tuple #[.string s, .bool false]) (by simp [results, Try.results49, go_sem]) rfl ?_
      exact ⟨rfl, Below.refl _ _⟩
end Go.Proofs.Ytnnojeggjnddpaa

/- A number read from its text: the program's. -/
namespace Go.Proofs.Ytnnojeggjnddpaa
open Go.RowKit
/-- What is told of a text. -/
noncomputable def rdV (l : List Nat) : Value := @ite _ (RdOk l) (Classical.propDecidable _) (tellV (rdI l)) (.tuple #[W4 0, .bool false])
theorem rdV_yes {l : List Nat} (h : RdOk l) : rdV l = tellV (rdI l) := by unfold rdV; rw [if_pos h]
theorem rdV_no {l : List Nat} (h : ¬ RdOk l) : rdV l = .tuple #[W4 0, .bool false] := by unfold rdV; rw [if_neg h]
/-- While digits are read. -/
structure RwI (w wr : World) (g : Nat) (zs : List Int) (n : Nat) : Prop where
  below : Below w.heap.size w wr
  br : Blk wr w.heap.size [.int .u64 0, .int .u64 0, .int .u64 0, .int .u64 0]
  bs : Blk wr g (zs.map (Value.int .u64))
  zl : zs.length = 4
  zw : Words zs
  gl : w.heap.size < g
  eq : val64 zs = (n : Int)
theorem RwI.drew {w wr : World} {g : Nat} {zs : List Int} {n : Nat} (h : RwI w wr g zs n) : RwI w wr.drew g zs n := ⟨h.below.drew, h.br, h.bs, h.zl, h.zw, h.gl, h.eq⟩
theorem RwI.next {w wr w1 : World} {g : Nat} {zs ys : List Int} {n m : Nat} (h : RwI w wr g zs n) (hB : Below wr.heap.size wr w1) {y0 y1 y2 y3 : Int} (hy : ys = [y0, y1, y2, y3]) (yw : Words ys) (yv : val64 ys = (m : Int)) :
    RwI w ((((w1.setCell ⟨g, 0, none⟩ (.int .u64 y0)).setCell ⟨g, 1, none⟩ (.int .u64 y1)).setCell ⟨g, 2, none⟩ (.int .u64 y2)).setCell ⟨g, 3, none⟩ (.int .u64 y3)) g ys m := by
  have hgl := h.gl
  have B1 := h.below.trans (hB.mono h.below.size)
  have BS := h.bs.step hB
  obtain ⟨z0, z1, z2, z3, hz⟩ := list4 h.zl
  rw [hz] at BS
  refine ⟨tell_below B1 (by omega), (h.br.step hB).set4 (by omega), ?_, by rw [hy]; rfl, yw, hgl, yv⟩
  rw [hy]
  exact Blk.stored4g BS _ _ _ _
theorem tellV_form (z : Int) : ∃ y3 y2 y1 y0 b, tellV z = .tuple #[.agg #[.int .u64 y3, .int .u64 y2, .int .u64 y1, .int .u64 y0], .bool b] := by
  unfold tellV
  split <;> exact ⟨_, _, _, _, _, rfl⟩
set_option maxRecDepth 100000 in
set_option maxHeartbeats 2000000 in
theorem implRead_any (s : ByteArray) (hm : s.size ≤ 9223372036854775807) (w : World) : Calls Try.prog 16 #[.string s] w (VP (rdV (btL s)) w) := by
  have CC := cutPre_any s hm _ rfl
  obtain ⟨u, hu⟩ : ∃ u, u = strL (cutM (btL s)) := ⟨_, rfl⟩
  have hul : btL u = cutM (btL s) := by
    rw [hu]
    refine btL_strL fun b hb => btL_lt s b ?_
    unfold cutM at hb
    split at hb
    · exact List.mem_of_mem_tail hb
    · exact hb
  have hus : u.size ≤ 9223372036854775807 := by
    rw [← btL_len, hul]
    have h2 := btL_len s
    unfold cutM
    split
    · rw [List.length_tail]; omega
    · omega
  have CD := fun b hb => isDecimal_any u hus b hb
  rw [← hu] at CC
  have HU : Hid (btL u = cutM (btL s)) := hul
  have HB0 : Hid (Below w.heap.size w (w.alloc (Obj.cells #[.int .u64 0, .int .u64 0, .int .u64 0, .int .u64 0] 26))) := (Below.refl _ _).alloc (Nat.le_refl _) _
  have BR0 : Hid (Blk (w.alloc (Obj.cells #[.int .u64 0, .int .u64 0, .int .u64 0, .int .u64 0] 26)) w.heap.size [.int .u64 0, .int .u64 0, .int .u64 0, .int .u64 0]) := Blk.new w [.int .u64 0, .int .u64 0, .int .u64 0, .int .u64 0] _ rfl
  clear hul hu hm
  by_cases hok : RdOk (btL s)
  · obtain ⟨h1, h2, h3⟩ := hok
    have HR : Hid (rdV (btL s) = tellV (rdI (btL s))) := rdV_yes ⟨h1, h2, h3⟩
    have CD1 := CD true (by rw [HU.out]; exact ⟨fun _ => h1, fun _ => rfl⟩)
    have hl77 : u.size ≤ 77 := by rw [← btL_len, HU.out]; exact h2
    have hl77' : ¬ ((77 : Int) < u.size) := by omega
    obtain ⟨b, hb⟩ : ∃ b, b = decide ((btL s).head? = some 45) := ⟨_, rfl⟩
    rw [← hb] at CC
    have e1 : (b && (u.toList == [48])) = false := by
      cases b
      · rfl
      · simp only [Bool.true_and]
        refine beq_eq_false_iff_ne.2 fun h => h3 ⟨of_decide_eq_true hb.symm, ?_⟩
        rw [← HU.out]
        exact (tl_one 48).1 h
    have HD : Hid (DecL (cutM (btL s))) := h1
    have HBB : Hid (b = decide ((btL s).head? = some 45)) := hb
    clear h1 h2 h3 CD hb
    go_enter Try.func16, Try.ntmps16
    go_wp2_with fail
    generalize (w.alloc (Obj.cells #[.int .u64 0, .int .u64 0, .int .u64 0, .int .u64 0] 26)) = W0 at *
    refine (CC _).mono ?_
    rintro e w1 ⟨rfl, hB⟩
    have BR1 := BR0.out.step hB
    have HB1 := HB0.out.trans (hB.mono HB0.out.size)
    clear BR0 HB0 hB CC
    go_upto_region 2 with fail
    go_cut [28] (fun p wx => p = .bool false ∧ Blk wx w.heap.size [.int .u64 0, .int .u64 0, .int .u64 0, .int .u64 0] ∧ Below w.heap.size w wx)
    case first =>
      cases b
      · go_wp2_with fail
        refine (CD1 _).mono ?_
        rintro e w2 ⟨rfl, hB⟩
        have BR2 := BR1.step hB
        have HB2 := HB1.trans (hB.mono HB1.size)
        clear BR1 HB1 hB CD1
        go_wp2
        go_meet
        exact ⟨congrArg Value.bool (decide_eq_false (by omega)), BR2, HB2⟩
      · simp only [Bool.true_and] at e1
        go_wp2_with fail
        refine (CD1 _).mono ?_
        rintro e w2 ⟨rfl, hB⟩
        have BR2 := BR1.step hB
        have HB2 := HB1.trans (hB.mono HB1.size)
        clear BR1 HB1 hB CD1
        go_wp2
        go_meet
        exact ⟨congrArg Value.bool (decide_eq_false (by omega)), BR2, HB2⟩
    case rest =>
      clear BR1 HB1 CD1 e1
      obtain ⟨hp, BR2, HB2⟩ := hcut
      subst hp
      have HI0 : Hid (RwI w (wc.alloc (Obj.cells #[.int .u64 0, .int .u64 0, .int .u64 0, .int .u64 0] 70)) wc.heap.size [0, 0, 0, 0] 0) :=
        ⟨HB2.alloc HB2.size _, BR2.alloc _, Blk.new _ [.int .u64 0, .int .u64 0, .int .u64 0, .int .u64 0] _ rfl, rfl, words4 wd0 wd0 wd0 wd0, BR2.lt, rfl⟩
      clear BR2 HB2
      rename_i hk
      refine hk _ _ ?_
      go_wp2
      generalize (wc.alloc (Obj.cells #[.int .u64 0, .int .u64 0, .int .u64 0, .int .u64 0] 70)) = W1 at *
      generalize wc.heap.size = g at *
      go_loopw [32] (fun i wr => ∃ (c : Nat) (zs : List Int), c ≤ u.size ∧ i = .int .i64 c ∧ RwI w wr g zs (rdN ((btL u).take c))) (fun i _ => u.size - (intOf i).toNat)
      case atStart => exact ⟨0, _, Nat.zero_le _, rfl, HI0.out⟩
      case round =>
        clear HI0
        obtain ⟨c, zs, hc, rfl, hI⟩ := hrel
        have zl := hI.zl
        have zw := hI.zw
        have hgl := hI.gl
        obtain ⟨y0, y1, y2, y3, hy⟩ := list4 zl
        have BS := hI.bs
        rw [hy] at BS
        obtain ⟨c0, f0, c1, f1, c2, f2, c3, f3⟩ := BS.cf4
        have slt := BS.lt
        have HII : Hid (RwI w wr g zs (rdN ((btL u).take c))) := hI
        by_cases hcs : c < u.size
        · have hbt := bt_at hcs
          have hlt := bt_lt u c
          have hcI : (c : Int) < u.size := by omega
          have hdl : ∀ b ∈ btL u, isD b := by rw [HU.out]; exact HD.out.2.2
          have hcl : c < (btL u).length := by rw [btL_len]; exact hcs
          obtain ⟨hd1, hd2⟩ : isD (bt u c) := by rw [← btL_get hcl]; exact hdl _ (List.getElem_mem hcl)
          obtain ⟨d, hd⟩ : ∃ d, d = bt u c - 48 := ⟨_, rfl⟩
          have hdI : (bt u c : Int) - 48 = d := by omega
          have hnx : Hid (10 * rdN ((btL u).take c) + d = rdN ((btL u).take (c + 1))) := by show _ = _; rw [rdN_take _ _ hcl, btL_get hcl, hd]
          have hn2 : rdN ((btL u).take (c + 1)) < 10 ^ 77 := by
            have h5 := rdN_lt ((btL u).take (c + 1)) (fun b hb => hdl b (List.mem_of_mem_take hb))
            have h6 : 10 ^ ((btL u).take (c + 1)).length ≤ 10 ^ 77 := Nat.pow_le_pow_right (by omega) (by rw [List.length_take]; omega)
            omega
          have CT0 := tenfold_any zs d zl zw (by omega) (by omega) (by rw [hI.eq]; have := hnx.out; omega)
          have CT : ∀ w, Calls Try.prog 51 #[.agg #[.int .u64 y0, .int .u64 y1, .int .u64 y2, .int .u64 y3], .int .u64 d] w (AggP 4 ((rdN ((btL u).take (c + 1)) : Nat) : Int) w) := by
            intro w
            have := CT0 w
            rw [hI.eq, show 10 * ((rdN ((btL u).take c) : Nat) : Int) + (d : Int) = ((rdN ((btL u).take (c + 1)) : Nat) : Int) by have := hnx.out; omega, show agg zs = .agg #[.int .u64 y0, .int .u64 y1, .int .u64 y2, .int .u64 y3] by rw [hy]; rfl] at this
            exact this
          have hd9 : (d : Int) < 10 := by omega
          have hw1 : IntKind.u8.wrap (d : Int) = d := by rw [IntKind.wrap_u8]; omega
          have hw2 : IntKind.u64.wrap (d : Int) = d := wrap_word (by omega) (by omega)
          have BS0 : Hid (Blk wr.drew g [.int .u64 y0, .int .u64 y1, .int .u64 y2, .int .u64 y3]) := BS.drew
          have HJJ : Hid (RwI w wr.drew g zs (rdN ((btL u).take c))) := hI.drew
          clear hI hy CT0 hn2 hdl hd BS HII
          go_wp2
          go_region_with (go_at_call 51; refine (CT _).mono ?_; rintro e w4 ⟨xs, rfl, xl, xw, xv, hB⟩; obtain ⟨s0, s1, s2, s3, hs⟩ := list4 xl; have N1 : Hid (RwI w ((((w4.setCell ⟨g, 0, none⟩ (.int .u64 s0)).setCell ⟨g, 1, none⟩ (.int .u64 s1)).setCell ⟨g, 2, none⟩ (.int .u64 s2)).setCell ⟨g, 3, none⟩ (.int .u64 s3)) g xs (rdN ((btL u).take (c + 1)))) := HJJ.out.next hB hs xw xv; have SA : agg xs = .agg #[.int .u64 s0, .int .u64 s1, .int .u64 s2, .int .u64 s3] := (by rw [hs]; rfl); rw [SA]; obtain ⟨k0, l0, k1, l1, k2, l2, k3, l3⟩ := (show Blk w4 g [.int .u64 y0, .int .u64 y1, .int .u64 y2, .int .u64 y3] from BS0.out.step hB).cf4; have l4 := (show Blk w4 g [.int .u64 y0, .int .u64 y1, .int .u64 y2, .int .u64 y3] from BS0.out.step hB).lt; clear hB hs SA xv xw xl)
          all_goals
            go_wp2
            go_roundw
            case rel => exact ⟨c + 1, _, by omega, by go_num, N1.out⟩
            case measure => simp [intOf]; omega
        · obtain rfl : c = u.size := by omega
          have hv := hI.eq
          rw [← btL_len, List.take_length] at hv
          have h5 : rdN (btL u) < 10 ^ 77 := by
            have h5 := rdN_lt (btL u) (by rw [HU.out]; exact HD.out.2.2)
            have h6 : 10 ^ (btL u).length ≤ 10 ^ 77 := Nat.pow_le_pow_right (by omega) (by rw [btL_len]; omega)
            omega
          obtain ⟨g0, g1, g2, g3⟩ := words4_of (by rw [← hy]; exact zw)
          have hw8 : Words [y0, y1, y2, y3, 0, 0, 0, 0] := words_cons.2 ⟨g0, words_cons.2 ⟨g1, words_cons.2 ⟨g2, words_cons.2 ⟨g3, words4 wd0 wd0 wd0 wd0⟩⟩⟩⟩
          have hv8 : val64 [y0, y1, y2, y3, 0, 0, 0, 0] = (rdN (btL u) : Int) := by
            rw [← hv, hy]
            simp only [val64]
            omega
          have CS := signedL_any y0 y1 y2 y3 0 0 0 0 b hw8 (by rw [hv8]; omega)
          have ez : (if b = true then -val64 [y0, y1, y2, y3, 0, 0, 0, 0] else val64 [y0, y1, y2, y3, 0, 0, 0, 0]) = rdI (btL s) := by
            rw [hv8, HU.out, HBB.out]
            unfold rdI
            by_cases h : (btL s).head? = some 45
            · rw [if_pos h, if_pos (decide_eq_true h)]
            · rw [if_neg h, if_neg (by simpa using h)]
          rw [ez] at CS
          have BR := hI.br
          have HB := hI.below
          have BR1 := BR.alloc (Obj.cells #[.int .u64 y0, .int .u64 y1, .int .u64 y2, .int .u64 y3, .int .u64 0, .int .u64 0, .int .u64 0, .int .u64 0] 82)
          have HB1 := HB.alloc HB.size (Obj.cells #[.int .u64 y0, .int .u64 y1, .int .u64 y2, .int .u64 y3, .int .u64 0, .int .u64 0, .int .u64 0, .int .u64 0] 82)
          have BR2 : Hid (Blk (wr.alloc (Obj.cells #[.int .u64 y0, .int .u64 y1, .int .u64 y2, .int .u64 y3, .int .u64 0, .int .u64 0, .int .u64 0, .int .u64 0] 82)) w.heap.size [.int .u64 0, .int .u64 0, .int .u64 0, .int .u64 0]) := BR1
          have HB2 : Hid (Below w.heap.size w (wr.alloc (Obj.cells #[.int .u64 y0, .int .u64 y1, .int .u64 y2, .int .u64 y3, .int .u64 0, .int .u64 0, .int .u64 0, .int .u64 0] 82))) := HB1
          clear hI hv BR HB BR1 HB1 hy BS hv8 ez h5
          go_wp2_with fail
          generalize (wr.alloc (Obj.cells #[.int .u64 y0, .int .u64 y1, .int .u64 y2, .int .u64 y3, .int .u64 0, .int .u64 0, .int .u64 0, .int .u64 0] 82)) = W5 at *
          refine (CS _).mono ?_
          rintro e w6 ⟨q0, q1, q2, q3, q4, q5, q6, q7, rfl, qw, qz, hB⟩
          have BR6 := BR2.out.step hB
          have HB6 := HB2.out.trans (hB.mono HB2.out.size)
          clear BR2 HB2 hB CS c0 c1 c2 c3 f0 f1 f2 f3
          have CT := tellWide_det q0 q1 q2 q3 q4 q5 q6 q7 qw _ qz
          obtain ⟨t3, t2, t1, t0, tb, ht⟩ := tellV_form (rdI (btL s))
          have HT : Hid (tellV (rdI (btL s)) = .tuple #[.agg #[.int .u64 t3, .int .u64 t2, .int .u64 t1, .int .u64 t0], .bool tb]) := ht
          rw [ht] at CT
          go_wp2_with fail
          refine (CT _).mono ?_
          rintro e w7 ⟨rfl, hB⟩
          have BR7 := BR6.step hB
          have HB7 := HB6.trans (hB.mono HB6.size)
          clear BR6 HB6 hB CT ht
          obtain ⟨d0, e0, d1, e1, d2, e2, d3, e3⟩ := BR7.cf4
          have dl := BR7.lt
          go_wp2
          refine bodyPost_ret (v := .tuple #[.agg #[.int .u64 t3, .int .u64 t2, .int .u64 t1, .int .u64 t0], .bool tb]) (by simp [results, Try.results16, go_sem, d0, d1, d2, d3]) rfl ?_
          exact ⟨by rw [HR.out, HT.out], tell_below HB7 (Nat.le_refl _)⟩
  · have HR : Hid (rdV (btL s) = .tuple #[W4 0, .bool false]) := rdV_no hok
    obtain ⟨b, hb⟩ : ∃ b, b = decide ((btL s).head? = some 45) := ⟨_, rfl⟩
    rw [← hb] at CC
    by_cases h1 : DecL (cutM (btL s))
    · have CD1 := CD true (by rw [HU.out]; exact ⟨fun _ => h1, fun _ => rfl⟩)
      by_cases h2 : u.size ≤ 77
      · have h3 : (btL s).head? = some 45 ∧ cutM (btL s) = [48] := Classical.byContradiction fun h3 => hok ⟨h1, by rw [← HU.out, btL_len]; exact h2, h3⟩
        obtain rfl : b = true := by rw [hb]; exact decide_eq_true h3.1
        have e1 : (u.toList == [48]) = true := beq_iff_eq.2 ((tl_one 48).2 (by rw [HU.out]; exact h3.2))
        have e2 : ¬ ((77 : Int) < u.size) := by omega
        clear hok h1 h3 hb CD
        go_enter Try.func16, Try.ntmps16
        go_wp2_with fail
        generalize (w.alloc (Obj.cells #[.int .u64 0, .int .u64 0, .int .u64 0, .int .u64 0] 26)) = W0 at *
        refine (CC _).mono ?_
        rintro e w1 ⟨rfl, hB⟩
        have BR1 := BR0.out.step hB
        have HB1 := HB0.out.trans (hB.mono HB0.out.size)
        clear BR0 HB0 hB CC
        go_wp2_with fail
        refine (CD1 _).mono ?_
        rintro e w2 ⟨rfl, hB⟩
        have BR2 := BR1.step hB
        have HB2 := HB1.trans (hB.mono HB1.size)
        clear BR1 HB1 hB CD1
        obtain ⟨d0, e0, d1, e1, d2, e2, d3, e3⟩ := BR2.cf4
        have dl := BR2.lt
        go_wp2
        refine bodyPost_ret (v := .tuple #[.agg #[.int .u64 0, .int .u64 0, .int .u64 0, .int .u64 0], .bool false]) (by simp [results, Try.results16, go_sem, d0, d1, d2, d3]) rfl ?_
        exact ⟨by rw [HR.out]; rfl, tell_below HB2 (Nat.le_refl _)⟩
      · have e2 : (77 : Int) < u.size := by omega
        clear hok h1 hb CD
        go_enter Try.func16, Try.ntmps16
        go_wp2_with fail
        generalize (w.alloc (Obj.cells #[.int .u64 0, .int .u64 0, .int .u64 0, .int .u64 0] 26)) = W0 at *
        refine (CC _).mono ?_
        rintro e w1 ⟨rfl, hB⟩
        have BR1 := BR0.out.step hB
        have HB1 := HB0.out.trans (hB.mono HB0.out.size)
        clear BR0 HB0 hB CC
        go_wp2_with fail
        refine (CD1 _).mono ?_
        rintro e w2 ⟨rfl, hB⟩
        have BR2 := BR1.step hB
        have HB2 := HB1.trans (hB.mono HB1.size)
        clear BR1 HB1 hB CD1
        obtain ⟨d0, e0, d1, e1, d2, e2, d3, e3⟩ := BR2.cf4
        have dl := BR2.lt
        go_wp2
        refine bodyPost_ret (v := .tuple #[.agg #[.int .u64 0, .int .u64 0, .int .u64 0, .int .u64 0], .bool false]) (by simp [results, Try.results16, go_sem, d0, d1, d2, d3]) rfl ?_
        exact ⟨by rw [HR.out]; rfl, tell_below HB2 (Nat.le_refl _)⟩
    · have CD1 := CD false (by rw [HU.out]; exact ⟨fun h => Bool.noConfusion h, fun h => absurd h h1⟩)
      clear hok h1 hb CD
      go_enter Try.func16, Try.ntmps16
      go_wp2_with fail
      generalize (w.alloc (Obj.cells #[.int .u64 0, .int .u64 0, .int .u64 0, .int .u64 0] 26)) = W0 at *
      refine (CC _).mono ?_
      rintro e w1 ⟨rfl, hB⟩
      have BR1 := BR0.out.step hB
      have HB1 := HB0.out.trans (hB.mono HB0.out.size)
      clear BR0 HB0 hB CC
      go_wp2_with fail
      refine (CD1 _).mono ?_
      rintro e w2 ⟨rfl, hB⟩
      have BR2 := BR1.step hB
      have HB2 := HB1.trans (hB.mono HB1.size)
      clear BR1 HB1 hB CD1
      obtain ⟨d0, e0, d1, e1, d2, e2, d3, e3⟩ := BR2.cf4
      have dl := BR2.lt
      go_wp2
      refine bodyPost_ret (v := .tuple #[.agg #[.int .u64 0, .int .u64 0, .int .u64 0, .int .u64 0], .bool false]) (by simp [results, Try.results16, go_sem, d0, d1, d2, d3]) rfl ?_
      exact ⟨by rw [HR.out]; rfl, tell_below HB2 (Nat.le_refl _)⟩
end Go.Proofs.Ytnnojeggjnddpaa

/- Fractions and points read from their texts: the reckoning. -/
namespace Go.Proofs.Ytnnojeggjnddpaa
theorem first_one {c : Nat} : ∀ {a a' b b' : List Nat}, c ∉ a → c ∉ a' → a ++ c :: b = a' ++ c :: b' → a = a' ∧ b = b'
  | [], [], _, _, _, _, h => by simpa using h
  | [], x :: t, _, _, _, h2, h => by
    simp only [List.nil_append, List.cons_append, List.cons.injEq] at h
    exact absurd (by rw [h.1]; exact List.mem_cons_self) h2
  | x :: t, [], _, _, h1, _, h => by
    simp only [List.nil_append, List.cons_append, List.cons.injEq] at h
    exact absurd (by rw [← h.1]; exact List.mem_cons_self) h1
  | x :: t, y :: r, _, _, h1, h2, h => by
    simp only [List.cons_append, List.cons.injEq] at h
    obtain ⟨e1, e2⟩ := first_one (fun h3 => h1 (List.mem_cons_of_mem _ h3)) (fun h3 => h2 (List.mem_cons_of_mem _ h3)) h.2
    exact ⟨by rw [h.1, e1], e2⟩
theorem txL_mem {z : Int} {b : Nat} (h : b ∈ txL z) : b = 45 ∨ isD b := by
  rcases List.mem_append.1 h with h | h
  · split at h
    · exact .inl (List.mem_singleton.1 h)
    · simp at h
  · exact .inr (dgs_isD _ b h)
theorem txL_47 (z : Int) : 47 ∉ txL z := by
  intro h
  have := txL_mem h
  unfold isD at this
  omega
/-- What stands ahead of the stroke and what stands under it are told by the whole. -/
theorem un_one {a a' : List Nat} {d d' : Int} (h1 : 47 ∉ a) (h2 : 47 ∉ a') (h : a ++ unL d = a' ++ unL d') : a = a' ∧ d = d' := by
  by_cases hd : d = 1 <;> by_cases hd' : d' = 1
  · rw [hd, hd', unL_one, List.append_nil, List.append_nil] at h
    exact ⟨h, by rw [hd, hd']⟩
  · rw [hd, unL_one, List.append_nil, unL_not hd'] at h
    exact absurd (by rw [h]; simp) h1
  · rw [hd', unL_one, List.append_nil, unL_not hd] at h
    exact absurd (by rw [← h]; simp) h2
  · rw [unL_not hd, unL_not hd'] at h
    obtain ⟨e1, e2⟩ := first_one h1 h2 h
    exact ⟨e1, tx_inj e2⟩
theorem rd_cases (l : List Nat) : (∃ z, told z = true ∧ l = txL z ∧ rdV l = .tuple #[W4 z, .bool true]) ∨ ((∀ z, told z = true → l ≠ txL z) ∧ rdV l = .tuple #[W4 0, .bool false]) := by
  by_cases h : RdOk l
  · have h1 := rd_tx h
    cases ht : told (rdI l)
    · refine .inr ⟨fun z hz he => ?_, ?_⟩
      · rw [he, (tx_rd (told77 hz)).2] at ht
        rw [hz] at ht
        exact Bool.noConfusion ht
      · rw [rdV_yes h]; unfold tellV; rw [ht]; rfl
    · exact .inl ⟨rdI l, ht, h1.symm, by rw [rdV_yes h]; unfold tellV; rw [ht]; rfl⟩
  · exact .inr ⟨fun z hz he => h (by rw [he]; exact (tx_rd (told77 hz)).1), rdV_no h⟩
/-- That bytes are these two numbers, as a fraction is written. -/
def RrOk (l : List Nat) (x y : Int) : Prop := told x = true ∧ told y = true ∧ rightB x y = true ∧ l = raL x y
theorem rr_one {l : List Nat} {x y x' y' : Int} (h : RrOk l x y) (h' : RrOk l x' y') : x = x' ∧ y = y' := by
  obtain ⟨_, _, _, e⟩ := h
  obtain ⟨_, _, _, e'⟩ := h'
  rw [e] at e'
  obtain ⟨e1, e2⟩ := un_one (txL_47 _) (txL_47 _) e'
  exact ⟨tx_inj e1, e2⟩
/-- What is told of a text of a fraction. -/
noncomputable def rrV (l : List Nat) : Value := @dite _ (∃ p : Int × Int, RrOk l p.1 p.2) (Classical.propDecidable _) (fun h => .tuple #[QV h.choose.1 h.choose.2, .bool true]) (fun _ => .tuple #[QV 0 0, .bool false])
theorem rrV_yes {l : List Nat} {x y : Int} (h : RrOk l x y) : rrV l = .tuple #[QV x y, .bool true] := by
  have hx : ∃ p : Int × Int, RrOk l p.1 p.2 := ⟨(x, y), h⟩
  unfold rrV
  rw [dif_pos hx]
  obtain ⟨e1, e2⟩ := rr_one hx.choose_spec h
  rw [e1, e2]
theorem rrV_no {l : List Nat} (h : ∀ x y, ¬ RrOk l x y) : rrV l = .tuple #[QV 0 0, .bool false] := by
  unfold rrV
  rw [dif_neg (fun ⟨p, hp⟩ => h _ _ hp)]
end Go.Proofs.Ytnnojeggjnddpaa

/- A text cut at a byte: the reckoning, and strings.Cut. -/
namespace Go.Proofs.Ytnnojeggjnddpaa
open Go.RowKit
/-- What stands ahead of a byte, and behind it. -/
def cutA (c : Nat) (l : List Nat) : List Nat := l.takeWhile (fun b => b != c)
def cutB (c : Nat) (l : List Nat) : List Nat := (l.dropWhile (fun b => b != c)).tail
theorem cut_not {c : Nat} : ∀ {l : List Nat}, c ∉ l → cutA c l = l ∧ cutB c l = []
  | [], _ => ⟨rfl, rfl⟩
  | x :: t, h => by
    have h1 : (x != c) = true := by
      rw [bne_iff_ne]
      rintro rfl
      exact h List.mem_cons_self
    obtain ⟨e1, e2⟩ := cut_not (c := c) (l := t) fun h2 => h (List.mem_cons_of_mem _ h2)
    unfold cutA cutB at *
    rw [List.takeWhile_cons_of_pos (p := fun b => b != c) h1, List.dropWhile_cons_of_pos (p := fun b => b != c) h1, e1]
    exact ⟨rfl, e2⟩
theorem cut_in {c : Nat} : ∀ {l : List Nat}, c ∈ l → l = cutA c l ++ c :: cutB c l ∧ c ∉ cutA c l
  | [], h => by simp at h
  | x :: t, h => by
    by_cases hx : x = c
    · subst hx
      unfold cutA cutB
      simp
    · have h1 : (x != c) = true := bne_iff_ne.2 hx
      have h2 : c ∈ t := by
        rcases List.mem_cons.1 h with h | h
        · exact absurd h.symm hx
        · exact h
      obtain ⟨e1, e2⟩ := cut_in h2
      unfold cutA cutB at *
      rw [List.takeWhile_cons_of_pos (p := fun b => b != c) h1, List.dropWhile_cons_of_pos (p := fun b => b != c) h1]
      refine ⟨by rw [List.cons_append, ← e1], fun h3 => ?_⟩
      rcases List.mem_cons.1 h3 with h3 | h3
      · exact hx h3.symm
      · exact e2 h3
theorem cut_len (c : Nat) (l : List Nat) : (cutA c l).length ≤ l.length := (List.takeWhile_sublist _).length_le
/-- Where a byte stands first. -/
def ixC (c : Nat) (l : List Nat) : Int := if c ∈ l then ((cutA c l).length : Int) else -1
theorem ix_cut (c : UInt8) : ∀ l : List UInt8, Lib.indexByte l c = ixC c.toNat (l.map UInt8.toNat)
  | [] => by simp [Lib.indexByte, ixC]
  | b :: t => by
    have ih := ix_cut c t
    unfold Lib.indexByte
    by_cases hb : b = c
    · subst hb
      unfold ixC cutA
      simp
    · have h1 : (b == c) = false := beq_eq_false_iff_ne.2 hb
      have h2 : b.toNat ≠ c.toNat := fun h => hb (UInt8.toNat_inj.1 h)
      have h3 : (b.toNat != c.toNat) = true := bne_iff_ne.2 h2
      rw [h1]
      simp only [Bool.false_eq_true, if_false]
      rw [ih]
      unfold ixC
      by_cases hm : c.toNat ∈ t.map UInt8.toNat
      · have h4 : ((((cutA c.toNat (t.map UInt8.toNat)).length : Int)) == -1) = false := beq_eq_false_iff_ne.2 (by omega)
        have h5 : c.toNat ∈ (b :: t).map UInt8.toNat := by rw [List.map_cons]; exact List.mem_cons_of_mem _ hm
        simp only [if_pos hm, h4, if_pos h5, Bool.false_eq_true, if_false]
        unfold cutA
        rw [List.map_cons, List.takeWhile_cons_of_pos (p := fun x => x != c.toNat) h3]
        simp
      · have h5 : c.toNat ∉ (b :: t).map UInt8.toNat := by
          rw [List.map_cons]
          intro h
          rcases List.mem_cons.1 h with h | h
          · exact h2 h.symm
          · exact hm h
        simp only [if_neg hm, if_neg h5]
        rfl
theorem cut_ex {s : ByteArray} {c : Nat} (h : c ∈ btL s) : s.extract 0 (cutA c (btL s)).length = strL (cutA c (btL s)) ∧ s.extract ((cutA c (btL s)).length + 1) s.size = strL (cutB c (btL s)) := by
  obtain ⟨e, _⟩ := cut_in h
  obtain ⟨a, ha⟩ : ∃ a, a = cutA c (btL s) := ⟨_, rfl⟩
  obtain ⟨b, hb⟩ : ∃ b, b = cutB c (btL s) := ⟨_, rfl⟩
  rw [← ha, ← hb] at e ⊢
  constructor
  · rw [← strL_btL (s.extract 0 a.length), btL_extract, e]
    simp
  · rw [← strL_btL (s.extract (a.length + 1) s.size), btL_extract, ← btL_len, e]
    congr 1
    rw [show a ++ c :: b = (a ++ [c]) ++ b by simp, List.drop_left' (by simp), List.take_of_length_le (by simp; omega)]
theorem ix_bt (s : ByteArray) (c : UInt8) : Lib.indexByte s.data.toList c = ixC c.toNat (btL s) := ix_cut c _
set_option maxRecDepth 100000 in
set_option maxHeartbeats 1000000 in
theorem index1_any (s : ByteArray) (c : UInt8) (hm : s.size ≤ 9223372036854775807) (w : World) : Calls Try.prog 116 #[.string s, .string ⟨#[c]⟩] w (VP (.int .i64 (ixC c.toNat (btL s))) w) := by
  have C := fun w => idxB_any s c.toNat w
  have hc : ((c.toNat : Int)).toNat.toUInt8 = c := by simp
  rw [hc, ix_bt] at C
  by_cases h : s = ⟨#[c]⟩
  · have e0 : ixC c.toNat (btL s) = 0 := by rw [h]; unfold ixC cutA btL; simp
    rw [e0]
    subst h
    go_enter Try.func116, Try.ntmps116
    go_wp2
    go_ret
    exact ⟨rfl, Below.refl _ _⟩
  · have e1 : ([c] == s.toList) = false := beq_eq_false_iff_ne.2 fun h1 => h (by
      rw [tl_data] at h1
      apply ByteArray.ext
      apply Array.ext'
      exact h1.symm)
    clear h hc
    go_enter Try.func116, Try.ntmps116
    go_wp2_with fail
    refine (C _).mono ?_
    rintro e w1 ⟨rfl, hB⟩
    go_wp2
    go_ret
    exact ⟨rfl, hB⟩
set_option maxRecDepth 100000 in
set_option maxHeartbeats 1000000 in
theorem cutL_any (s : ByteArray) (c : UInt8) (hm : s.size ≤ 9223372036854775807) (w : World) : Calls Try.prog 99 #[.string s, .string ⟨#[c]⟩] w (VP (.tuple #[.string (strL (cutA c.toNat (btL s))), .string (strL (cutB c.toNat (btL s))), .bool (decide (c.toNat ∈ btL s))]) w) := by
  have C := index1_any s c hm
  by_cases h : c.toNat ∈ btL s
  · rw [show ixC c.toNat (btL s) = (cutA c.toNat (btL s)).length by unfold ixC; rw [if_pos h]] at C
    obtain ⟨x1, x2⟩ := cut_ex h
    rw [decide_eq_true h]
    have h1 : (cutA c.toNat (btL s)).length + 1 ≤ s.size := by
      have h2 := congrArg List.length (cut_in h).1
      rw [btL_len, List.length_append, List.length_cons] at h2
      omega
    generalize (cutA c.toNat (btL s)).length = k at *
    generalize strL (cutA c.toNat (btL s)) = A at *
    generalize strL (cutB c.toNat (btL s)) = B at *
    clear h
    have i1 : (0 : Int) ≤ k := by omega
    have i2 : (k : Int) ≤ s.size := by omega
    have i3 : (k : Int) + 1 ≤ s.size := by omega
    have i4 : IntKind.i64.wrap ((k : Int) + 1) = k + 1 := by rw [IntKind.wrap_i64]; omega
    have i5 : ((k : Int) + 1).toNat = k + 1 := by omega
    go_enter Try.func99, Try.ntmps99
    go_wp2_with fail
    refine (C _).mono ?_
    rintro e w1 ⟨rfl, hB⟩
    go_wp2
    go_region
    go_wp2
    refine bodyPost_ret (v := .tuple #[.string A, .string B, .bool true]) (by simp [results, Try.results99, go_sem]) rfl ?_
    exact ⟨rfl, hB.drew⟩
  · rw [show ixC c.toNat (btL s) = -1 by unfold ixC; rw [if_neg h]] at C
    obtain ⟨x1, x2⟩ := cut_not h
    rw [decide_eq_false h, x1, x2, strL_btL, show strL [] = ⟨#[]⟩ from rfl]
    clear x1 x2 h
    go_enter Try.func99, Try.ntmps99
    go_wp2_with fail
    refine (C _).mono ?_
    rintro e w1 ⟨rfl, hB⟩
    go_wp2
    refine bodyPost_ret (v := .tuple #[.string s, .string ⟨#[]⟩, .bool false]) (by simp [results, Try.results99, go_sem]) rfl ?_
    exact ⟨rfl, hB⟩
set_option maxRecDepth 100000 in
set_option maxHeartbeats 1000000 in
theorem cut_any (s : ByteArray) (c : UInt8) (hm : s.size ≤ 9223372036854775807) (w : World) : Calls Try.prog 65 #[.string s, .string ⟨#[c]⟩] w (VP (.tuple #[.string (strL (cutA c.toNat (btL s))), .string (strL (cutB c.toNat (btL s))), .bool (decide (c.toNat ∈ btL s))]) w) := by
  have C := cutL_any s c hm
  generalize strL (cutA c.toNat (btL s)) = A at *
  generalize strL (cutB c.toNat (btL s)) = B at *
  generalize decide (c.toNat ∈ btL s) = q at *
  go_enter Try.func65, Try.ntmps65
  go_wp2_with fail
  refine (C _).mono ?_
  rintro e w1 ⟨rfl, hB⟩
  go_wp2
  refine bodyPost_ret (v := .tuple #[.string A, .string B, .bool q]) (by simp [results, Try.results65, go_sem]) rfl ?_
  exact ⟨rfl, hB⟩
end Go.Proofs.Ytnnojeggjnddpaa

/- A region that draws its order, by a condition that every operation keeps, whichever comes up: no order is walked. -/
namespace Go.Proofs.Ytnnojeggjnddpaa
variable {P : Program} {ops : Array Oper} {Q : Exit → Act → World → Prop} {md : Region.Mode}
def open_ (l : Array Bool) : Nat := l.toList.countP (fun b => !b)
theorem open_set {l : Array Bool} {i : Nat} (h : l.getD i true = false) : open_ (l.setIfInBounds i true) + 1 = open_ l := by
  obtain ⟨xs⟩ := l
  have hi : i < xs.length := by
    rcases Nat.lt_or_ge i xs.length with h' | h'
    · exact h'
    · simp [Array.getD, Nat.not_lt.2 h'] at h
  have hv : xs[i] = false := by simpa [Array.getD, hi] using h
  have hp : 0 < xs.countP (fun b => !b) := List.countP_pos_iff.2 ⟨xs[i], List.getElem_mem hi, by simp [hv]⟩
  simp only [open_, List.setIfInBounds_toArray, List.countP_set hi, hv]
  simp
  omega
theorem wpAny_inv (J : Array Bool → Act → World → Prop) (hs : ∀ l a w i o, J l a w → l.getD i true = false → ops[i]? = some o → (∀ e ∈ o.after, Region.binds md e = true → l.getD e.on false = true) → wpOp P ops Q i (J (l.setIfInBounds i true)) a w)
    (hd : ∀ l a w, J l a w → Region.ready md ops l = [] → Q .normal a w) : ∀ (fuel : Nat) (l : Array Bool) (a : Act) (w : World), open_ l ≤ fuel → J l a w → wpAny P md ops Q fuel l a w := by
  intro fuel
  induction fuel with
  | zero =>
    intro l a w hf hJ
    have hr : Region.ready md ops l = [] := by
      rw [List.eq_nil_iff_forall_not_mem]
      intro i hi
      have := open_set (mem_ready.1 hi).1
      omega
    exact ⟨hr, hd l a w hJ hr⟩
  | succ fuel ih =>
    intro l a w hf hJ
    refine ⟨fun hr => hd l a w hJ hr, fun i hi => ?_⟩
    obtain ⟨h0, o, ho, hall⟩ := mem_ready.1 hi
    exact wpOp_mono (fun a' w' h' => ih _ a' w' (by have := open_set h0; omega) h') (hs l a w i o hJ h0 ho hall)
theorem wp_region_inv {id : Nat} {a : Act} {w : World} (hm : P.follows .mixedOrders = true) (J : Array Bool → Act → World → Prop)
    (h0 : J (Array.replicate ops.size false) a { w with drawn := w.drawn + 1 })
    (hs : ∀ l a w i o, J l a w → l.getD i true = false → ops[i]? = some o → (∀ e ∈ o.after, Region.binds .any e = true → l.getD e.on false = true) → wpOp P ops Q i (J (l.setIfInBounds i true)) a w)
    (hd : ∀ l a w, J l a w → Region.ready .any ops l = [] → Q .normal a w) : (Code.region id ops true).wp P Q a w :=
  wp_region_any hm (wpAny_inv J hs hd _ _ _ _ (by
    unfold open_
    refine Nat.le_trans List.countP_le_length ?_
    simp) h0)
/-- The operations of a list, each of which waits for none but those ahead of it. -/
def waits (md : Region.Mode) (ops : Array Oper) : List Nat → List Nat → Bool
  | _, [] => true
  | acc, i :: r => ((ops[i]?).map (fun o => o.after.all (fun e => !Region.binds md e || acc.contains e.on))).getD false && waits md ops (i :: acc) r
/-- Where none is ready, all of such a list have come up. -/
theorem listed_of {l : Array Bool} (hr : Region.ready md ops l = []) : ∀ (r acc : List Nat), (∀ k ∈ acc, l.getD k false = true) → waits md ops acc r = true → (∀ k ∈ r, k < l.size) → ∀ k ∈ r, l.getD k false = true
  | [], _, _, _, _ => fun k hk => by simp at hk
  | i :: r, acc, ha, hw, hz => by
    simp only [waits, Bool.and_eq_true] at hw
    obtain ⟨hw1, hw2⟩ := hw
    have hi : l.getD i false = true := by
      cases ho : ops[i]? with
      | none => rw [ho] at hw1; simp at hw1
      | some o =>
        rw [ho] at hw1
        have hall : ∀ e ∈ o.after, Region.binds md e = true → l.getD e.on false = true := fun e he hb => by
          have h2 : o.after.all (fun e => !Region.binds md e || acc.contains e.on) = true := by simpa using hw1
          rw [Array.all_eq_true'] at h2
          have h3 := h2 e he
          rw [hb] at h3
          exact ha _ (by simpa using h3)
        have hz' := hz i (by simp)
        by_cases hc : l.getD i true = false
        · have : i ∈ Region.ready md ops l := mem_ready.2 ⟨hc, o, ho, hall⟩
          rw [hr] at this
          simp at this
        · simpa [Array.getD, hz'] using hc
    intro k hk
    rcases List.mem_cons.1 hk with rfl | hk
    · exact hi
    · exact listed_of hr r (i :: acc) (fun k hk => by
        rcases List.mem_cons.1 hk with rfl | hk
        · exact hi
        · exact ha k hk) hw2 (fun k hk => hz k (by simp [hk])) k hk
/-- One operation that is not guarded: what it does when it is carried out. -/
theorem wpOp_of {i : Nat} {o : Oper} {a : Act} {w : World} {K : Act → World → Prop} (ho : ops[i]? = some o) (hg : o.guard = none) (h : o.wp P a w K Q) : wpOp P ops Q i K a w := by
  unfold wpOp
  simp only [ho]
  have hw : Region.wanted o (yielded ops a.tmps) = true := by unfold Region.wanted; rw [hg]
  rw [if_pos hw]
  exact .inl h
/-- A frame that differs from another one at the told slots alone is that one with these slots put. -/
theorem tmps_fold : ∀ (D : List Nat) (t s : Array Value), t.size = s.size → (∀ d, d ∉ D → t[d]? = s[d]?) → t = D.foldl (fun u d => u.setIfInBounds d (t.getD d undef)) s
  | [], t, s, _, h => Array.ext_getElem? (fun d => h d (by simp))
  | d :: D, t, s, hz, h => by
    rw [List.foldl_cons]
    refine tmps_fold D t _ (by simpa using hz) (fun e he => ?_)
    by_cases hed : e = d
    · subst hed
      rcases Nat.lt_or_ge e t.size with h' | h'
      · simp [Array.getD, h', ← hz]
      · simp [← hz, h']
    · rw [Array.getElem?_setIfInBounds_ne (fun hh => hed hh.symm)]
      exact h e (by simp [hed, he])
theorem put_getD_ne {a : Act} {d e : Nat} {v : Value} (h : d ≠ e) : (a.put (some d) v).tmps.getD e undef = a.tmps.getD e undef := by
  simp [Act.put, Array.getD_eq_getD_getElem?, Array.getElem?_setIfInBounds_ne h]
theorem put_getD_same {a : Act} {d : Nat} {v : Value} (h : d < a.tmps.size) : (a.put (some d) v).tmps.getD d undef = v := by
  simp [Act.put, Array.getD_eq_getD_getElem?, h]
end Go.Proofs.Ytnnojeggjnddpaa

/- Operations that are guarded, in a region that is taken by a condition. -/
namespace Go.Proofs.Ytnnojeggjnddpaa
variable {P : Program} {ops : Array Oper} {Q : Exit → Act → World → Prop}
theorem yielded_of {j d : Nat} {o : Oper} {t : Array Value} {b : Bool} (ho : ops[j]? = some o) (hd : o.dst = some d) (ht : t.getD d undef = .bool b) : yielded ops t j = some b := by
  have h : t[d]? = some (.bool b) := by
    rcases Nat.lt_or_ge d t.size with h | h
    · simpa [Array.getD, h] using ht
    · simp [Array.getD, Nat.not_lt.2 h, undef] at ht
  unfold yielded
  rw [ho]
  simp only [Option.bind_some, hd]
  rw [h]
theorem wpOp_off {i k d : Nat} {b : Bool} {o ok : Oper} {a : Act} {w : World} {K : Act → World → Prop} (ho : ops[i]? = some o) (hg : o.guard = some (k, b)) (hk : ops[k]? = some ok) (hd : ok.dst = some d) (ht : a.tmps.getD d undef = .bool (!b)) (h : K (a.put o.dst undef) w) : wpOp P ops Q i K a w := by
  unfold wpOp
  simp only [ho]
  have hw : Region.wanted o (yielded ops a.tmps) = false := by
    unfold Region.wanted
    rw [hg]
    simp only [yielded_of hk hd ht]
    cases b <;> rfl
  rw [hw]
  exact h
end Go.Proofs.Ytnnojeggjnddpaa

/- A region that draws its order, by what each slot holds once its operation has come up: the general form. -/
namespace Go.Proofs.Ytnnojeggjnddpaa
open Go.RowKit
variable {P : Program} {ops : Array Oper}
/-- No slot is written by two operations. -/
def distS : List (Option Nat) → Bool
  | [] => true
  | none :: r => distS r
  | some d :: r => !(r.contains (some d)) && distS r
theorem distS_inj : ∀ (S : List (Option Nat)) (i j d : Nat), distS S = true → S[i]? = some (some d) → S[j]? = some (some d) → i = j
  | [], i, _, _, _, h, _ => by simp at h
  | o :: r, i, j, d, hd, hi, hj => by
    have hr : distS r = true := by
      cases o with
      | none => exact hd
      | some d' => simp only [distS, Bool.and_eq_true] at hd; exact hd.2
    have hno : ∀ k, o = some d → r[k]? = some (some d) → False := fun k ho hk => by
      subst ho
      simp only [distS, Bool.and_eq_true, Bool.not_eq_true'] at hd
      have hm : some d ∈ r := List.mem_of_getElem? hk
      rw [← List.contains_iff_mem, hd.1] at hm
      cases hm
    match i, j with
    | 0, 0 => rfl
    | 0, j + 1 => exact (hno j (by simpa using hi) (by simpa using hj)).elim
    | i + 1, 0 => exact (hno i (by simpa using hj) (by simpa using hi)).elim
    | i + 1, j + 1 => exact congrArg (· + 1) (distS_inj r i j d hr (by simpa using hi) (by simpa using hj))
/-- What every operation keeps. -/
def InvQ (B : Nat) (S : List (Option Nat)) (V : Nat → Value → World → Prop) (w0 : World) (a0 : Act) (l : Array Bool) (a : Act) (W : World) : Prop :=
  l.size = S.length ∧ a.tmps.size = a0.tmps.size ∧ a.defers = a0.defers ∧ (∀ e, some e ∉ S → a.tmps[e]? = a0.tmps[e]?) ∧ Below B w0 W ∧ (∀ j d, l.getD j false = true → S[j]? = some (some d) → V j (a.tmps.getD d undef) W) ∧ (∀ j, l.getD j false = true → S[j]? = some none → V j undef W)
theorem getD_set_q {l : Array Bool} {i j : Nat} (h : (l.setIfInBounds i true).getD j false = true) (hne : j ≠ i) : l.getD j false = true := by
  rw [getD_set_ne false (Ne.symm hne)] at h
  exact h
theorem InvQ.put {B : Nat} {S : List (Option Nat)} {V : Nat → Value → World → Prop} {w0 : World} {a0 : Act} {l : Array Bool} {a : Act} {W W' : World} (h : InvQ B S V w0 a0 l a W) (hS : distS S = true) (i d : Nat) (hi : S[i]? = some (some d)) (hlt : d < a0.tmps.size)
    (hW : Below B w0 W') (hT : ∀ j v, V j v W → V j v W') (v : Value) (hv : V i v W') : InvQ B S V w0 a0 (l.setIfInBounds i true) (a.put (some d) v) W' := by
  obtain ⟨h1, h2, h3, h4, h5, h6, h7⟩ := h
  refine ⟨by simpa using h1, by simpa [Act.put] using h2, h3, fun e he => ?_, hW, fun j d' hj hd' => ?_, fun j hj hn => ?_⟩
  · have hne : d ≠ e := fun hh => he (hh ▸ List.mem_of_getElem? hi)
    simp only [Act.put]
    rw [Array.getElem?_setIfInBounds_ne hne]
    exact h4 e he
  · by_cases hji : j = i
    · subst hji
      rw [hi] at hd'
      cases hd'
      rw [put_getD_same (by omega)]
      exact hv
    · have hne : d ≠ d' := fun hh => hji (distS_inj S j i d hS (hh ▸ hd') hi)
      rw [put_getD_ne hne]
      exact hT _ _ (h6 j d' (getD_set_q hj hji) hd')
  · have hji : j ≠ i := fun hh => by subst hh; rw [hi] at hn; cases hn
    exact hT _ _ (h7 j (getD_set_q hj hji) hn)
theorem InvQ.world {B : Nat} {S : List (Option Nat)} {V : Nat → Value → World → Prop} {w0 : World} {a0 : Act} {l : Array Bool} {a : Act} {W W' : World} (h : InvQ B S V w0 a0 l a W) (i : Nat) (hi : S[i]? = some none)
    (hW : Below B w0 W') (hT : ∀ j v, V j v W → V j v W') (hv : V i undef W') : InvQ B S V w0 a0 (l.setIfInBounds i true) a W' := by
  obtain ⟨h1, h2, h3, h4, h5, h6, h7⟩ := h
  refine ⟨by simpa using h1, h2, h3, h4, hW, fun j d hj hd => ?_, fun j hj hn => ?_⟩
  · have hji : j ≠ i := fun hh => by subst hh; rw [hi] at hd; cases hd
    exact hT _ _ (h6 j d (getD_set_q hj hji) hd)
  · by_cases hji : j = i
    · subst hji; exact hv
    · exact hT _ _ (h7 j (getD_set_q hj hji) hn)
/-- A block of so many cells. -/
def BlkN (W : World) (g n : Nat) : Prop := ∃ vs : List Value, vs.length = n ∧ Blk W g vs
theorem BlkN.step {W W' : World} {g n : Nat} (h : BlkN W g n) (hB : Below W.heap.size W W') : BlkN W' g n := by
  obtain ⟨vs, h1, h2⟩ := h
  exact ⟨vs, h1, h2.step hB⟩
theorem Blk.setA {W : World} {g : Nat} {vs : List Value} (h : Blk W g vs) (j : Nat) (u : Value) : Blk (W.setCell ⟨g, j, none⟩ u) g (vs.set j u) := by
  rcases Nat.lt_or_ge j vs.length with hj | hj
  · exact h.setI j hj u
  · refine ⟨by simpa [World.setCell] using h.1, fun i v hi => ?_⟩
    rw [List.set_eq_of_length_le hj] at hi
    have hne : i ≠ j := fun e => by
      subst e
      rw [List.getElem?_eq_none hj] at hi
      cases hi
    exact ⟨(World.cell?_setCell_other _ _ _ _ (by simp)).trans (h.c i hi), by simp [go_sem, h.f i hi]⟩
theorem BlkN.set {W : World} {g n : Nat} (h : BlkN W g n) (g' j : Nat) (u : Value) : BlkN (W.setCell ⟨g', j, none⟩ u) g n := by
  obtain ⟨vs, h1, h2⟩ := h
  by_cases hg : g = g'
  · subst hg
    exact ⟨vs.set j u, by simpa using h1, h2.setA j u⟩
  · exact ⟨vs, h1, h2.setO (p := ⟨g', j, none⟩) hg u⟩
end Go.Proofs.Ytnnojeggjnddpaa

/- The last region of cutUnder where no number stands under the stroke. -/
namespace Go.Proofs.Ytnnojeggjnddpaa
open Go.RowKit
def VtrS (A : ByteArray) (R _g : Nat) (y3 y2 y1 y0 : Int) (_B : Nat) : Nat → Value → World → Prop
  | 0, v, _ => v = .string A
  | 1, v, _ => v = .agg #[.int .u64 y3, .int .u64 y2, .int .u64 y1, .int .u64 y0]
  | 2, v, _ => v = .bool false
  | 3, v, _ => v = .bool false
  | 4, v, _ => v = undef
  | 5, v, _ => v = undef
  | 6, v, _ => v = undef
  | 7, v, _ => v = .bool false
  | 8, v, _ => v = .string A
  | 9, _, W => Blk W R [.int .u64 y3, .int .u64 y2, .int .u64 y1, .int .u64 y0]
  | 10, v, _ => v = .bool false
  | _, _, _ => True
theorem VtrS.mono {A : ByteArray} {R g : Nat} {y3 y2 y1 y0 : Int} {B j : Nat} {v : Value} {W W2 : World} (hB : Below W.heap.size W W2) (h : VtrS A R g y3 y2 y1 y0 B j v W) : VtrS A R g y3 y2 y1 y0 B j v W2 := by
  unfold VtrS at *
  split <;> simp only at h <;> first | exact h | exact h.step hB | trivial
theorem VtrS.put {A : ByteArray} {R g : Nat} {y3 y2 y1 y0 : Int} {B j : Nat} {v : Value} {W W2 : World} (hR : Blk W2 R [.int .u64 y3, .int .u64 y2, .int .u64 y1, .int .u64 y0]) (h : VtrS A R g y3 y2 y1 y0 B j v W) : VtrS A R g y3 y2 y1 y0 B j v W2 := by
  unfold VtrS at *
  split <;> simp only at h <;> first | exact h | exact hR | trivial
def StrS (_A : ByteArray) (R g : Nat) (y3 y2 y1 y0 : Int) (W : World) : Prop := Blk W g [.int .u64 y3, .int .u64 y2, .int .u64 y1, .int .u64 y0] ∧ ∃ u0 u1 u2 u3, Blk W R [u0, u1, u2, u3]
def JtrS (A : ByteArray) (R g : Nat) (y3 y2 y1 y0 : Int) (w0 : World) (a0 : Act) (l : Array Bool) (a : Act) (W : World) : Prop := InvQ (R) [some 25, some 26, some 27, some 28, some 29, some 30, some 31, some 32, some 2, none, some 4] (VtrS A R g y3 y2 y1 y0 (R)) w0 a0 l a W ∧ StrS A R g y3 y2 y1 y0 W
set_option maxRecDepth 100000 in
set_option maxHeartbeats 4000000 in
theorem trS {Q : Exit → Act → World → Prop} {A : ByteArray} {R g : Nat} {y3 y2 y1 y0 : Int}  {w0 : World} {a0 : Act} {idq : Nat} {t0 t1 t2 t3 t4 t5 t6 t7 t8 t9 t10 : TypeId} {q0 q1 q2 q3 q4 q5 q6 q7 q8 q9 q10 : String}
    (hne : g ≠ R) (h5 : a0.tmps[5]? = some (.string A)) (h8 : a0.tmps[8]? = some (.pointer (some ⟨g, 0, none⟩))) (h9 : a0.tmps[9]? = some (.bool false)) (h3 : a0.tmps[3]? = some (.pointer (some ⟨R, 0, none⟩)))  (hz : a0.tmps.size = 33) (hs0 : StrS A R g y3 y2 y1 y0 w0.drew)
    (hQ : ∀ aq W, aq.tmps.size = a0.tmps.size → aq.defers = a0.defers → (∀ e, e ∉ ([25, 26, 27, 28, 29, 30, 31, 32, 2, 4] : List Nat) → aq.tmps[e]? = a0.tmps[e]?) → VtrS A R g y3 y2 y1 y0 (R) 8 (aq.tmps.getD 2 undef) W → VtrS A R g y3 y2 y1 y0 (R) 9 undef W → VtrS A R g y3 y2 y1 y0 (R) 10 (aq.tmps.getD 4 undef) W → Below (R) w0 W → StrS A R g y3 y2 y1 y0 W → Q .normal aq W) :
    (Code.region idq #[{ dst := some 25, op := Op.move (Operand.tmp 5), type := t0, pos := q0, after := #[], guard := none },
    { dst := some 26, op := Op.load 26 (Operand.tmp 8), type := t1, pos := q1, after := #[{ on := 8, ground := Ground.gcOnly Departure.lateStores }], guard := none },
    { dst := some 27, op := Op.move (Operand.tmp 9), type := t2, pos := q2, after := #[], guard := none },
    { dst := some 28, op := Op.move (Operand.tmp 27), type := t3, pos := q3, after := #[{ on := 2, ground := Ground.data }], guard := none },
    { dst := some 29, op := Op.load 26 (Operand.tmp 8), type := t4, pos := q4, after := #[{ on := 3, ground := Ground.guard }, { on := 9, ground := Ground.gcOnly Departure.lateStores }], guard := some (3, true) },
    { dst := some 30, op := Op.call { callee := Callee.value (Operand.func 95), args := #[Operand.const (Value.int IntKind.i64 1)], argTypes := #[2] }, type := t5, pos := q5, after := #[{ on := 3, ground := Ground.chain }, { on := 3, ground := Ground.guard }], guard := some (3, true) },
    { dst := some 31, op := Op.binOp BinOp.neq 26 (Operand.tmp 29) (Operand.tmp 30) 26, type := t6, pos := q6, after := #[{ on := 4, ground := Ground.data }, { on := 5, ground := Ground.data }, { on := 3, ground := Ground.guard }, { on := 9, ground := Ground.gcOnly Departure.lateStores }], guard := some (3, true) },
    { dst := some 32, op := Op.pick (Operand.tmp 28) (Operand.tmp 31) (Operand.const (Value.bool false)), type := t7, pos := q7, after := #[{ on := 3, ground := Ground.data }, { on := 6, ground := Ground.data }, { on := 9, ground := Ground.gcOnly Departure.lateStores }], guard := none },
    { dst := some 2, op := Op.assign (Operand.tmp 25), type := t8, pos := q8, after := #[{ on := 0, ground := Ground.data }, { on := 5, ground := Ground.chain }, { on := 0, ground := Ground.phase }, { on := 1, ground := Ground.textOnly Departure.lateStores }, { on := 2, ground := Ground.textOnly Departure.lateStores }, { on := 3, ground := Ground.textOnly Departure.lateStores }, { on := 4, ground := Ground.textOnly Departure.lateStores }, { on := 5, ground := Ground.textOnly Departure.lateStoresUnsure }, { on := 6, ground := Ground.textOnly Departure.lateStores }, { on := 7, ground := Ground.textOnly Departure.lateStores }], guard := none },
    { dst := none, op := Op.store 26 (Operand.tmp 3) (Operand.tmp 26), type := t9, pos := q9, after := #[{ on := 1, ground := Ground.data }, { on := 8, ground := Ground.chain }, { on := 0, ground := Ground.phase }, { on := 1, ground := Ground.phase }, { on := 2, ground := Ground.textOnly Departure.lateStores }, { on := 3, ground := Ground.textOnly Departure.lateStores }, { on := 4, ground := Ground.textOnly Departure.lateStores }, { on := 5, ground := Ground.textOnly Departure.lateStoresUnsure }, { on := 6, ground := Ground.textOnly Departure.lateStores }, { on := 7, ground := Ground.textOnly Departure.lateStores }, { on := 8, ground := Ground.phase }], guard := none },
    { dst := some 4, op := Op.assign (Operand.tmp 32), type := t10, pos := q10, after := #[{ on := 7, ground := Ground.data }, { on := 9, ground := Ground.chain }, { on := 0, ground := Ground.phase }, { on := 1, ground := Ground.phase }, { on := 2, ground := Ground.phase }, { on := 3, ground := Ground.phase }, { on := 4, ground := Ground.phase }, { on := 5, ground := Ground.phase }, { on := 6, ground := Ground.phase }, { on := 7, ground := Ground.phase }, { on := 8, ground := Ground.phase }, { on := 9, ground := Ground.phase }], guard := none }] true).wp Try.prog Q a0 w0 := by
  have hS : distS [some 25, some 26, some 27, some 28, some 29, some 30, some 31, some 32, some 2, none, some 4] = true := rfl
  refine wp_region_inv (by kernel_rfl) (JtrS A R g y3 y2 y1 y0 w0 a0) ⟨⟨rfl, rfl, rfl, fun _ _ => rfl, (Below.refl _ w0).drew, fun j d hj => ?_, fun j hj => ?_⟩, hs0⟩ ?_ ?_
  · exfalso
    rw [Array.getD_eq_getD_getElem?, Array.getElem?_replicate] at hj
    split at hj <;> simp at hj
  · exfalso
    rw [Array.getD_eq_getD_getElem?, Array.getElem?_replicate] at hj
    split at hj <;> simp at hj
  · intro lq aq W iq oq ⟨hJ, hs⟩ hl ho hall
    have hJ2 := hJ
    obtain ⟨z1, z2, z3, z4, z5, z6, z7⟩ := hJ
    obtain ⟨sa, u0, u1, u2, u3, sb⟩ := hs
    have c0 := sa.c 0 rfl; have r0 := sb.c 0 rfl; have s0 := sb.f 0 rfl
    have c1 := sa.c 1 rfl; have r1 := sb.c 1 rfl; have s1 := sb.f 1 rfl
    have c2 := sa.c 2 rfl; have r2 := sb.c 2 rfl; have s2 := sb.f 2 rfl
    have c3 := sa.c 3 rfl; have r3 := sb.c 3 rfl; have s3 := sb.f 3 rfl
    have rl := sb.lt
    have hs : StrS A R g y3 y2 y1 y0 W := ⟨sa, u0, u1, u2, u3, sb⟩
    have g5 : aq.tmps.getD 5 undef = .string A := by rw [Array.getD_eq_getD_getElem?, z4 5 (by decide), h5]; rfl
    have g8 : aq.tmps.getD 8 undef = .pointer (some ⟨g, 0, none⟩) := by rw [Array.getD_eq_getD_getElem?, z4 8 (by decide), h8]; rfl
    have g9 : aq.tmps.getD 9 undef = .bool false := by rw [Array.getD_eq_getD_getElem?, z4 9 (by decide), h9]; rfl
    have g3 : aq.tmps.getD 3 undef = .pointer (some ⟨R, 0, none⟩) := by rw [Array.getD_eq_getD_getElem?, z4 3 (by decide), h3]; rfl
    match iq, ho with
    | 0, ho =>
      cases ho
      refine wpOp_of rfl rfl ?_
      have hK := fun (v : Value) (W2 : World) hW hT hv (hs : StrS A R g y3 y2 y1 y0 W2) => show (JtrS A R g y3 y2 y1 y0 w0 a0) (lq.setIfInBounds 0 true) (aq.put (some 25) v) W2 from ⟨hJ2.put hS 0 25 rfl (by omega) (W' := W2) hW hT v hv, hs⟩
      clear ho hall hl hQ
      generalize (JtrS A R g y3 y2 y1 y0 w0 a0) (lq.setIfInBounds 0 true) = K at hK ⊢
      clear hJ2 hS z1 z2 z3 z4 z6 z7
      go_simp
      exact hK _ _ z5 (fun _ _ h => h) rfl hs
    | 1, ho =>
      cases ho
      refine wpOp_of rfl rfl ?_
      have hK := fun (v : Value) (W2 : World) hW hT hv (hs : StrS A R g y3 y2 y1 y0 W2) => show (JtrS A R g y3 y2 y1 y0 w0 a0) (lq.setIfInBounds 1 true) (aq.put (some 26) v) W2 from ⟨hJ2.put hS 1 26 rfl (by omega) (W' := W2) hW hT v hv, hs⟩
      clear ho hall hl hQ
      generalize (JtrS A R g y3 y2 y1 y0 w0 a0) (lq.setIfInBounds 1 true) = K at hK ⊢
      clear hJ2 hS z1 z2 z3 z4 z6 z7
      go_simp
      exact hK _ _ z5 (fun _ _ h => h) rfl hs
    | 2, ho =>
      cases ho
      refine wpOp_of rfl rfl ?_
      have hK := fun (v : Value) (W2 : World) hW hT hv (hs : StrS A R g y3 y2 y1 y0 W2) => show (JtrS A R g y3 y2 y1 y0 w0 a0) (lq.setIfInBounds 2 true) (aq.put (some 27) v) W2 from ⟨hJ2.put hS 2 27 rfl (by omega) (W' := W2) hW hT v hv, hs⟩
      clear ho hall hl hQ
      generalize (JtrS A R g y3 y2 y1 y0 w0 a0) (lq.setIfInBounds 2 true) = K at hK ⊢
      clear hJ2 hS z1 z2 z3 z4 z6 z7
      go_simp
      exact hK _ _ z5 (fun _ _ h => h) rfl hs
    | 3, ho =>
      cases ho
      refine wpOp_of rfl rfl ?_
      have f2 : (aq.tmps.getD 27 undef) = .bool false := z6 2 27 (hall { on := 2, ground := Ground.data } (by simp) rfl) rfl
      have hK := fun (v : Value) (W2 : World) hW hT hv (hs : StrS A R g y3 y2 y1 y0 W2) => show (JtrS A R g y3 y2 y1 y0 w0 a0) (lq.setIfInBounds 3 true) (aq.put (some 28) v) W2 from ⟨hJ2.put hS 3 28 rfl (by omega) (W' := W2) hW hT v hv, hs⟩
      clear ho hall hl hQ
      generalize (JtrS A R g y3 y2 y1 y0 w0 a0) (lq.setIfInBounds 3 true) = K at hK ⊢
      clear hJ2 hS z1 z2 z3 z4 z6 z7
      go_simp
      exact hK _ _ z5 (fun _ _ h => h) rfl hs
    | 4, ho =>
      cases ho
      have fg : aq.tmps.getD 28 undef = .bool false := z6 3 28 (hall { on := 3, ground := Ground.guard } (by simp) rfl) rfl
      refine wpOp_off rfl rfl rfl rfl fg ?_
      exact ⟨hJ2.put hS 4 29 rfl (by omega) z5 (fun _ _ h => h) undef rfl, hs⟩
    | 5, ho =>
      cases ho
      have fg : aq.tmps.getD 28 undef = .bool false := z6 3 28 (hall { on := 3, ground := Ground.guard } (by simp) rfl) rfl
      refine wpOp_off rfl rfl rfl rfl fg ?_
      exact ⟨hJ2.put hS 5 30 rfl (by omega) z5 (fun _ _ h => h) undef rfl, hs⟩
    | 6, ho =>
      cases ho
      have fg : aq.tmps.getD 28 undef = .bool false := z6 3 28 (hall { on := 3, ground := Ground.guard } (by simp) rfl) rfl
      refine wpOp_off rfl rfl rfl rfl fg ?_
      exact ⟨hJ2.put hS 6 31 rfl (by omega) z5 (fun _ _ h => h) undef rfl, hs⟩
    | 7, ho =>
      cases ho
      refine wpOp_of rfl rfl ?_
      have f3 : (aq.tmps.getD 28 undef) = .bool false := z6 3 28 (hall { on := 3, ground := Ground.data } (by simp) rfl) rfl
      have f6 : (aq.tmps.getD 31 undef) = undef := z6 6 31 (hall { on := 6, ground := Ground.data } (by simp) rfl) rfl
      have hK := fun (v : Value) (W2 : World) hW hT hv (hs : StrS A R g y3 y2 y1 y0 W2) => show (JtrS A R g y3 y2 y1 y0 w0 a0) (lq.setIfInBounds 7 true) (aq.put (some 32) v) W2 from ⟨hJ2.put hS 7 32 rfl (by omega) (W' := W2) hW hT v hv, hs⟩
      clear ho hall hl hQ
      generalize (JtrS A R g y3 y2 y1 y0 w0 a0) (lq.setIfInBounds 7 true) = K at hK ⊢
      clear hJ2 hS z1 z2 z3 z4 z6 z7
      go_simp
      exact hK _ _ z5 (fun _ _ h => h) rfl hs
    | 8, ho =>
      cases ho
      refine wpOp_of rfl rfl ?_
      have f0 : (aq.tmps.getD 25 undef) = .string A := z6 0 25 (hall { on := 0, ground := Ground.data } (by simp) rfl) rfl
      have hK := fun (v : Value) (W2 : World) hW hT hv (hs : StrS A R g y3 y2 y1 y0 W2) => show (JtrS A R g y3 y2 y1 y0 w0 a0) (lq.setIfInBounds 8 true) (aq.put (some 2) v) W2 from ⟨hJ2.put hS 8 2 rfl (by omega) (W' := W2) hW hT v hv, hs⟩
      clear ho hall hl hQ
      generalize (JtrS A R g y3 y2 y1 y0 w0 a0) (lq.setIfInBounds 8 true) = K at hK ⊢
      clear hJ2 hS z1 z2 z3 z4 z6 z7
      go_simp
      exact hK _ _ z5 (fun _ _ h => h) rfl hs
    | 9, ho =>
      cases ho
      refine wpOp_of rfl rfl ?_
      have f1 : (aq.tmps.getD 26 undef) = .agg #[.int .u64 y3, .int .u64 y2, .int .u64 y1, .int .u64 y0] := z6 1 26 (hall { on := 1, ground := Ground.data } (by simp) rfl) rfl
      have hK := fun (W2 : World) hW hT hv (hs : StrS A R g y3 y2 y1 y0 W2) => show (JtrS A R g y3 y2 y1 y0 w0 a0) (lq.setIfInBounds 9 true) aq W2 from ⟨hJ2.world 9 rfl (W' := W2) hW hT hv, hs⟩
      clear ho hall hl hQ
      generalize (JtrS A R g y3 y2 y1 y0 w0 a0) (lq.setIfInBounds 9 true) = K at hK ⊢
      clear hJ2 hS z1 z2 z3 z4 z6 z7
      have nb : Blk ((((W.setCell ⟨R, 0, none⟩ (.int .u64 y3)).setCell ⟨R, 1, none⟩ (.int .u64 y2)).setCell ⟨R, 2, none⟩ (.int .u64 y1)).setCell ⟨R, 3, none⟩ (.int .u64 y0)) R [.int .u64 y3, .int .u64 y2, .int .u64 y1, .int .u64 y0] := Blk.stored4g sb _ _ _ _
      have ns : StrS A R g y3 y2 y1 y0 ((((W.setCell ⟨R, 0, none⟩ (.int .u64 y3)).setCell ⟨R, 1, none⟩ (.int .u64 y2)).setCell ⟨R, 2, none⟩ (.int .u64 y1)).setCell ⟨R, 3, none⟩ (.int .u64 y0)) := ⟨sa.set4 hne, _, _, _, _, nb⟩
      have nB : Below R w0 ((((W.setCell ⟨R, 0, none⟩ (.int .u64 y3)).setCell ⟨R, 1, none⟩ (.int .u64 y2)).setCell ⟨R, 2, none⟩ (.int .u64 y1)).setCell ⟨R, 3, none⟩ (.int .u64 y0)) := by
        repeat' (refine Below.setCell ?_ (by exact Nat.le_refl _) _)
        exact z5
      go_simp
      exact hK _ nB (fun j v h => VtrS.put nb h) nb ns
    | 10, ho =>
      cases ho
      refine wpOp_of rfl rfl ?_
      have f7 : (aq.tmps.getD 32 undef) = .bool false := z6 7 32 (hall { on := 7, ground := Ground.data } (by simp) rfl) rfl
      have hK := fun (v : Value) (W2 : World) hW hT hv (hs : StrS A R g y3 y2 y1 y0 W2) => show (JtrS A R g y3 y2 y1 y0 w0 a0) (lq.setIfInBounds 10 true) (aq.put (some 4) v) W2 from ⟨hJ2.put hS 10 4 rfl (by omega) (W' := W2) hW hT v hv, hs⟩
      clear ho hall hl hQ
      generalize (JtrS A R g y3 y2 y1 y0 w0 a0) (lq.setIfInBounds 10 true) = K at hK ⊢
      clear hJ2 hS z1 z2 z3 z4 z6 z7
      go_simp
      exact hK _ _ z5 (fun _ _ h => h) rfl hs
    | iq + 11, ho => simp at ho
  · intro lq aq W ⟨hJ, hs⟩ hr
    obtain ⟨z1, z2, z3, z4, z5, z6, z7⟩ := hJ
    have hl := listed_of hr [0, 2, 3, 5, 8, 1, 9, 4, 6, 7, 10] [] (by simp) (by kernel_rfl) (by rw [z1]; decide)
    exact hQ aq W z2 z3 (fun e he => z4 e (by simpa using he)) (z6 8 2 (hl 8 (by simp)) rfl) (z7 9 (hl 9 (by simp)) rfl) (z6 10 4 (hl 10 (by simp)) rfl) z5 hs
end Go.Proofs.Ytnnojeggjnddpaa
