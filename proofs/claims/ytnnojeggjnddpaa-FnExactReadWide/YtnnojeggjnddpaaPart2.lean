/- Part 2 of the walks that the proof leans on. -/
import Derived.Test.YtnnojeggjnddpaaPart1
import Derived.Deep.RegionHeld3
import Derived.Deep.RegionWith
import Derived.Deep.DeepCutAuto
import Derived.Deep.QuietTactic
import Derived.BigQuiet
import Derived.Laws.BitsLemmas
import Derived.Shelf.Bits.Mul64
import Derived.Lib.Bytealg
import Derived.WalkLawsBesides
/- The walk of the sum of digits. -/
namespace Go.Proofs.Ytnnojeggjnddpaa
open Go.RowKit
structure AddI (w wr : World) (xs ys : List Int) (k c : Nat) (cv : Int) (zs : List Int) : Prop where
  len : zs.length = k
  dig : Dig zs
  eq : val zs + cv * pw k = val (xs.take k) + val (ys.take k)
  own : wr.ownsRow w.heap.size 112 1 (.slice (some ⟨w.heap.size, 0, none⟩) k c) k (zs.map (Value.int .u32))
  below : Below w.heap.size w wr
theorem add_eq (xs ys zs : List Int) (k : Nat) (hl : zs.length = k) (cv x : Int) (eq : val zs + cv * pw k = val (xs.take k) + val (ys.take k)) (hx : x = cv + xs.getD k 0 + ys.getD k 0) :
    val (zs ++ [x % 4294967296]) + x / 4294967296 * pw (k + 1) = val (xs.take (k + 1)) + val (ys.take (k + 1)) := by
  rw [val_snoc, hl, val_take_getD, val_take_getD, pw]
  have e1 : pw k * (x % 4294967296) + x / 4294967296 * (4294967296 * pw k) = pw k * x := by
    have : x = x % 4294967296 + 4294967296 * (x / 4294967296) := by omega
    generalize x / 4294967296 = q at *
    generalize x % 4294967296 = r at *
    subst this
    grind
  have e2 : pw k * x = cv * pw k + pw k * xs.getD k 0 + pw k * ys.getD k 0 := by rw [hx]; grind
  omega
theorem add_step {w wr w2 : World} {xs ys : List Int} {k c : Nat} {cv : Int} {zs : List Int} (hI : AddI w wr xs ys k c cv zs) (x : Int) (hx : x = cv + xs.getD k 0 + ys.getD k 0) {o : Obj}
    (hown : w2.ownsRow w.heap.size 112 1 (.slice (some ⟨w.heap.size, 0, none⟩) (k + 1) c) (k + 1) (zs.map (Value.int .u32) ++ [.int .u32 (x % 4294967296)]))
    (hgrow : (wr.alloc o).grownBy w2 (some w.heap.size)) : AddI w w2 xs ys (k + 1) c (x / 4294967296) (zs ++ [x % 4294967296]) := by
  refine ⟨by simp [hI.len], dig_append.2 ⟨hI.dig, dig_cons.2 ⟨⟨by omega, by omega⟩, dig_nil⟩⟩, add_eq xs ys zs k hI.len cv x hI.eq hx, by simpa using hown, ?_⟩
  have hs := hI.below.size
  refine (hI.below.alloc hs o).grown hgrow (by simp; omega) ?_
  intro j hj
  cases hj
  exact Nat.le_refl _
/-- A slice of at most so many digits that stand for the number z. -/
def DigleP (k : Nat) (z : Int) (w : World) (e : Ending) (w' : World) : Prop :=
  ∃ (ao : Option Addr) (n cap : Nat) (zs : List Int), e = .returned (.slice ao n cap) ∧ zs.length = n ∧ n ≤ cap ∧ n ≤ k ∧ Dig zs ∧ val zs = z ∧ Rd w' ao zs ∧ Below w.heap.size w w'
theorem add_done {w wr : World} {n : Nat} {xs ys : List Int} {zs : List Int} (hI : AddI w wr xs ys n (n + 1) 0 zs) (hx : xs.length = n) (hy : ys.length ≤ n) :
    DigleP (n + 1) (val xs + val ys) w (.returned (.slice (some ⟨w.heap.size, 0, none⟩) n (n + 1))) wr := by
  refine ⟨_, n, n + 1, zs, rfl, hI.len, by omega, by omega, hI.dig, ?_, Rd.own hI.own hI.len, hI.below⟩
  have := hI.eq
  rw [val_take_all xs n (by omega), val_take_all ys n hy] at this
  simpa using this
theorem add_done1 {w wr w2 : World} {n : Nat} {xs ys : List Int} {cv : Int} {zs : List Int} (hI : AddI w wr xs ys n (n + 1) cv zs) (h0 : 0 ≤ cv) (h1 : cv < 4294967296) (hx : xs.length = n) (hy : ys.length ≤ n) {o : Obj}
    (hown : w2.ownsRow w.heap.size 112 1 (.slice (some ⟨w.heap.size, 0, none⟩) (n + 1) (n + 1)) (n + 1) (zs.map (Value.int .u32) ++ [.int .u32 cv])) (hgrow : (wr.alloc o).grownBy w2 (some w.heap.size)) :
    DigleP (n + 1) (val xs + val ys) w (.returned (.slice (some ⟨w.heap.size, 0, none⟩) (n + 1) (n + 1))) w2 := by
  have hl : (zs ++ [cv]).length = n + 1 := by simp [hI.len]
  refine ⟨_, n + 1, n + 1, zs ++ [cv], rfl, hl, Nat.le_refl _, Nat.le_refl _, dig_append.2 ⟨hI.dig, dig_cons.2 ⟨⟨h0, h1⟩, dig_nil⟩⟩, ?_, Rd.own (by simpa using hown) hl, ?_⟩
  · have := hI.eq
    rw [val_take_all xs n (by omega), val_take_all ys n hy] at this
    rw [val_snoc, hI.len, Int.mul_comm, this]
  · have hs := hI.below.size
    refine (hI.below.alloc hs o).grown hgrow (by simp; omega) ?_
    intro j hj
    cases hj
    exact Nat.le_refl _
set_option maxRecDepth 100000 in
set_option maxHeartbeats 1000000 in
/-- The first one is not the shorter. -/
theorem addAbs_ge (ao bo : Option Addr) (n m ca cb : Nat) (xs ys : List Int) (w : World) (hx : xs.length = n) (hy : ys.length = m) (dx : Dig xs) (dy : Dig ys) (rx : Rd w ao xs) (ry : Rd w bo ys) (hm : n ≤ 1000000) (hnm : m ≤ n) :
    Calls Try.prog 111 #[.slice ao n ca, .slice bo m cb] w (DigleP (n + 1) (val xs + val ys) w) := by
  obtain ⟨i0, hi, hz0, hz1, hz2⟩ := info_parts Try.info88
  have HX : Hid (xs.length = n) := hx
  have HY : Hid (ys.length = m) := hy
  have HDX : Hid (Dig xs) := dx
  have HDY : Hid (Dig ys) := dy
  have HRX : Hid (Rd w ao xs) := rx
  have HRY : Hid (Rd w bo ys) := ry
  have hnm' : ¬ n < m := by omega
  clear rx ry dx dy hx hy
  go_enter Try.func111, Try.ntmps111
  go_wp2_with (at_make; refine wpList_make_own _ rfl _ _ 64 rfl w.heap.size 112 i0 (.int .u32 0) 1 Try.underlying64 hi hz0 hz1 _ _ _ (n + 1) rfl rfl (by omega) (by rw [hz2]; omega) (by unfold maxLen; omega) (Nat.le_refl _) ?_)
  intro w1 hown hgrow
  have HS : AddI w w1 xs ys 0 (n + 1) 0 [] := ⟨rfl, dig_nil, by simp [val], hown, (Below.refl _ _).grown hgrow (Nat.le_refl _) (by simp)⟩
  clear hown hgrow
  go_wp2
  go_loopw [5, 6, 7] (fun o c i wr => ∃ (k : Nat) (cv : Int) (zs : List Int), k ≤ n ∧ i = .int .i64 k ∧ 0 ≤ cv ∧ cv ≤ 1 ∧ c = .int .u64 cv ∧ o = .slice (some ⟨w.heap.size, 0, none⟩) k (n + 1) ∧ AddI w wr xs ys k (n + 1) cv zs) (fun _ _ i _ => n - (intOf i).toNat)
  case atStart => exact ⟨0, 0, [], Nat.zero_le _, rfl, by decide, by decide, rfl, rfl, HS⟩
  case round =>
    obtain ⟨k, cv, zs, hk, rfl, hc0, hc1, rfl, rfl, hI⟩ := hrel
    clear HS
    by_cases hkn : k < n
    · have hkx : k < xs.length := by have := HX.out; omega
      obtain ⟨b, off, rfl, hbl, hcx0⟩ := HRX.out k hkx
      have hcx := (hI.below.cell (p := ⟨b, off + k, none⟩) hbl).trans hcx0
      clear hcx0
      obtain ⟨hx0, hx1⟩ := dig_at HDX.out k hkx
      by_cases hkm : k < m
      · have hky : k < ys.length := by have := HY.out; omega
        obtain ⟨b', off', rfl, hbl', hcy0⟩ := HRY.out k hky
        have hcy := (hI.below.cell (p := ⟨b', off' + k, none⟩) hbl').trans hcy0
        clear hcy0
        obtain ⟨hy0, hy1⟩ := dig_at HDY.out k hky
        go_wp2_with (at_builtin; refine wpList_append_fits _ rfl _ _ 64 rfl w.heap.size 112 i0 1 Try.underlying64 hi hz1 w.heap.size k (n + 1) _ rfl (hI.own.alloc _) ⟨wr.heap.size, 0, none⟩ 1 1 [.int .u32 ((cv + xs[k] + ys[k]) % 4294967296)] rfl rfl (cell_one_new _ _ _) (one_cell _ _) (by omega) ?_)
        intro w2 hown2 hgrow2
        go_wp2
        go_roundw
        case rel => exact ⟨k + 1, (cv + xs[k] + ys[k]) / 4294967296, _, by omega, by go_num, by omega, by omega, rfl, rfl, add_step hI _ (by simp [List.getD, hkx, hky]) hown2 hgrow2⟩
        case measure => simp [intOf]; omega
      · have hky : ¬ k < ys.length := by have := HY.out; omega
        go_wp2_with (at_builtin; refine wpList_append_fits _ rfl _ _ 64 rfl w.heap.size 112 i0 1 Try.underlying64 hi hz1 w.heap.size k (n + 1) _ rfl (hI.own.alloc _) ⟨wr.heap.size, 0, none⟩ 1 1 [.int .u32 ((cv + xs[k]) % 4294967296)] rfl rfl (cell_one_new _ _ _) (one_cell _ _) (by omega) ?_)
        intro w2 hown2 hgrow2
        go_wp2
        go_roundw
        case rel => exact ⟨k + 1, (cv + xs[k]) / 4294967296, _, by omega, by go_num, by omega, by omega, rfl, rfl, add_step hI _ (by simp [List.getD, hkx, hky]) hown2 hgrow2⟩
        case measure => simp [intOf]; omega
    · obtain rfl : k = n := by omega
      by_cases hcp : 0 < cv
      · obtain rfl : cv = 1 := by omega
        go_wp2_with (at_builtin; refine wpList_append_fits _ rfl _ _ 64 rfl w.heap.size 112 i0 1 Try.underlying64 hi hz1 w.heap.size k (k + 1) _ rfl (hI.own.alloc _) ⟨wr.heap.size, 0, none⟩ 1 1 [.int .u32 1] rfl rfl (cell_one_new _ _ _) (one_cell _ _) (by omega) ?_)
        intro w2 hown2 hgrow2
        go_wp2
        go_ret
        exact add_done1 hI (by omega) (by omega) HX.out (by have := HY.out; omega) hown2 hgrow2
      · obtain rfl : cv = 0 := by omega
        go_wp2
        go_ret
        exact add_done hI HX.out (by have := HY.out; omega)
set_option maxRecDepth 100000 in
set_option maxHeartbeats 1000000 in
/-- The first one is the shorter. -/
theorem addAbs_lt (ao bo : Option Addr) (n m ca cb : Nat) (xs ys : List Int) (w : World) (hx : xs.length = n) (hy : ys.length = m) (dx : Dig xs) (dy : Dig ys) (rx : Rd w ao xs) (ry : Rd w bo ys) (hm : n ≤ 1000000) (hnm : m < n) :
    Calls Try.prog 111 #[.slice bo m cb, .slice ao n ca] w (DigleP (n + 1) (val xs + val ys) w) := by
  obtain ⟨i0, hi, hz0, hz1, hz2⟩ := info_parts Try.info88
  have HX : Hid (xs.length = n) := hx
  have HY : Hid (ys.length = m) := hy
  have HDX : Hid (Dig xs) := dx
  have HDY : Hid (Dig ys) := dy
  have HRX : Hid (Rd w ao xs) := rx
  have HRY : Hid (Rd w bo ys) := ry
  clear rx ry dx dy hx hy
  go_enter Try.func111, Try.ntmps111
  go_wp2_with (at_make; refine wpList_make_own _ rfl _ _ 64 rfl w.heap.size 112 i0 (.int .u32 0) 1 Try.underlying64 hi hz0 hz1 _ _ _ (n + 1) rfl rfl (by omega) (by rw [hz2]; omega) (by unfold maxLen; omega) (Nat.le_refl _) ?_)
  intro w1 hown hgrow
  have HS : AddI w w1 xs ys 0 (n + 1) 0 [] := ⟨rfl, dig_nil, by simp [val], hown, (Below.refl _ _).grown hgrow (Nat.le_refl _) (by simp)⟩
  clear hown hgrow
  go_wp2
  go_loopw [5, 6, 7] (fun o c i wr => ∃ (k : Nat) (cv : Int) (zs : List Int), k ≤ n ∧ i = .int .i64 k ∧ 0 ≤ cv ∧ cv ≤ 1 ∧ c = .int .u64 cv ∧ o = .slice (some ⟨w.heap.size, 0, none⟩) k (n + 1) ∧ AddI w wr xs ys k (n + 1) cv zs) (fun _ _ i _ => n - (intOf i).toNat)
  case atStart => exact ⟨0, 0, [], Nat.zero_le _, rfl, by decide, by decide, rfl, rfl, HS⟩
  case round =>
    obtain ⟨k, cv, zs, hk, rfl, hc0, hc1, rfl, rfl, hI⟩ := hrel
    clear HS
    by_cases hkn : k < n
    · have hkx : k < xs.length := by have := HX.out; omega
      obtain ⟨b, off, rfl, hbl, hcx0⟩ := HRX.out k hkx
      have hcx := (hI.below.cell (p := ⟨b, off + k, none⟩) hbl).trans hcx0
      clear hcx0
      obtain ⟨hx0, hx1⟩ := dig_at HDX.out k hkx
      by_cases hkm : k < m
      · have hky : k < ys.length := by have := HY.out; omega
        obtain ⟨b', off', rfl, hbl', hcy0⟩ := HRY.out k hky
        have hcy := (hI.below.cell (p := ⟨b', off' + k, none⟩) hbl').trans hcy0
        clear hcy0
        obtain ⟨hy0, hy1⟩ := dig_at HDY.out k hky
        go_wp2_with (at_builtin; refine wpList_append_fits _ rfl _ _ 64 rfl w.heap.size 112 i0 1 Try.underlying64 hi hz1 w.heap.size k (n + 1) _ rfl (hI.own.alloc _) ⟨wr.heap.size, 0, none⟩ 1 1 [.int .u32 ((cv + xs[k] + ys[k]) % 4294967296)] rfl rfl (cell_one_new _ _ _) (one_cell _ _) (by omega) ?_)
        intro w2 hown2 hgrow2
        go_wp2
        go_roundw
        case rel => exact ⟨k + 1, (cv + xs[k] + ys[k]) / 4294967296, _, by omega, by go_num, by omega, by omega, rfl, rfl, add_step hI _ (by simp [List.getD, hkx, hky]) hown2 hgrow2⟩
        case measure => simp [intOf]; omega
      · have hky : ¬ k < ys.length := by have := HY.out; omega
        go_wp2_with (at_builtin; refine wpList_append_fits _ rfl _ _ 64 rfl w.heap.size 112 i0 1 Try.underlying64 hi hz1 w.heap.size k (n + 1) _ rfl (hI.own.alloc _) ⟨wr.heap.size, 0, none⟩ 1 1 [.int .u32 ((cv + xs[k]) % 4294967296)] rfl rfl (cell_one_new _ _ _) (one_cell _ _) (by omega) ?_)
        intro w2 hown2 hgrow2
        go_wp2
        go_roundw
        case rel => exact ⟨k + 1, (cv + xs[k]) / 4294967296, _, by omega, by go_num, by omega, by omega, rfl, rfl, add_step hI _ (by simp [List.getD, hkx, hky]) hown2 hgrow2⟩
        case measure => simp [intOf]; omega
    · obtain rfl : k = n := by omega
      by_cases hcp : 0 < cv
      · obtain rfl : cv = 1 := by omega
        go_wp2_with (at_builtin; refine wpList_append_fits _ rfl _ _ 64 rfl w.heap.size 112 i0 1 Try.underlying64 hi hz1 w.heap.size k (k + 1) _ rfl (hI.own.alloc _) ⟨wr.heap.size, 0, none⟩ 1 1 [.int .u32 1] rfl rfl (cell_one_new _ _ _) (one_cell _ _) (by omega) ?_)
        intro w2 hown2 hgrow2
        go_wp2
        go_ret
        exact add_done1 hI (by omega) (by omega) HX.out (by have := HY.out; omega) hown2 hgrow2
      · obtain rfl : cv = 0 := by omega
        go_wp2
        go_ret
        exact add_done hI HX.out (by have := HY.out; omega)
theorem addAbs_any (ao bo : Option Addr) (n m ca cb k : Nat) (xs ys : List Int) (w : World) (hx : xs.length = n) (hy : ys.length = m) (dx : Dig xs) (dy : Dig ys) (rx : Rd w ao xs) (ry : Rd w bo ys) (h1 : n ≤ k) (h2 : m ≤ k) (hk : k ≤ 1000000) :
    Calls Try.prog 111 #[.slice ao n ca, .slice bo m cb] w (DigleP (k + 1) (val xs + val ys) w) := by
  by_cases hnm : m ≤ n
  · refine (addAbs_ge ao bo n m ca cb xs ys w hx hy dx dy rx ry (by omega) hnm).mono ?_
    rintro e w' ⟨a, l, c, zs, he, g1, g2, g3, g⟩
    exact ⟨a, l, c, zs, he, g1, g2, by omega, g⟩
  · refine (addAbs_lt bo ao m n cb ca ys xs w hy hx dy dx ry rx (by omega) (by omega)).mono ?_
    rintro e w' ⟨a, l, c, zs, he, g1, g2, g3, g4, g5, g6, g7⟩
    exact ⟨a, l, c, zs, he, g1, g2, by omega, g4, by rw [g5, Int.add_comm], g6, g7⟩
end Go.Proofs.Ytnnojeggjnddpaa

/- The walks of negation, sum, difference and comparison of numbers. -/
namespace Go.Proofs.Ytnnojeggjnddpaa
open Go.RowKit
/-- What is kept of two boxed numbers and of the result's cell. -/
structure Two (w W : World) (A0 A1 B0 B1 : Value) : Prop where
  a0 : W.cell? ⟨w.heap.size, 0, none⟩ = some A0
  a1 : W.cell? ⟨w.heap.size, 1, none⟩ = some A1
  b0 : W.cell? ⟨w.heap.size + 1, 0, none⟩ = some B0
  b1 : W.cell? ⟨w.heap.size + 1, 1, none⟩ = some B1
  r0 : W.cell? ⟨w.heap.size + 1 + 1, 0, none⟩ = some (.bool false)
  r1 : W.cell? ⟨w.heap.size + 1 + 1, 1, none⟩ = some (.slice none 0 0)
  f0 : W.frozen? ⟨w.heap.size + 1 + 1, 0, none⟩ = false
  f1 : W.frozen? ⟨w.heap.size + 1 + 1, 1, none⟩ = false
  sz : w.heap.size + 1 + 1 < W.heap.size
  below : Below w.heap.size w W
theorem two_start (w : World) (A0 A1 B0 B1 : Value) : Two w (((w.alloc (Obj.cells #[A0, A1] 66)).alloc (Obj.cells #[B0, B1] 66)).alloc (Obj.cells #[Value.bool false, Value.slice none 0 0] 66)) A0 A1 B0 B1 :=
  ⟨by simp [go_sem], by simp [go_sem], by simp [go_sem], by simp [go_sem], by simp [go_sem], by simp [go_sem], by simp [go_sem], by simp [go_sem], by simp, (((Below.refl _ _).alloc (Nat.le_refl _) _).alloc (by simp) _).alloc (by simp; omega) _⟩
theorem Two.step {w W W' : World} {A0 A1 B0 B1 : Value} (h : Two w W A0 A1 B0 B1) (hb : Below W.heap.size W W') : Two w W' A0 A1 B0 B1 := by
  have hs := h.sz
  have hc := fun b o (hl : b < W.heap.size) => hb.cell (p := ⟨b, o, none⟩) hl
  have hf := fun b o (hl : b < W.heap.size) => hb.frozen (p := ⟨b, o, none⟩) hl
  exact ⟨(hc _ _ (by omega)).trans h.a0, (hc _ _ (by omega)).trans h.a1, (hc _ _ (by omega)).trans h.b0, (hc _ _ (by omega)).trans h.b1, (hc _ _ hs).trans h.r0, (hc _ _ hs).trans h.r1, (hf _ _ hs).trans h.f0, (hf _ _ hs).trans h.f1,
    Nat.lt_of_lt_of_le hs hb.size, h.below.trans (hb.mono h.below.size)⟩
theorem Two.drew {w W : World} {A0 A1 B0 B1 : Value} (h : Two w W A0 A1 B0 B1) : Two w W.drew A0 A1 B0 B1 := ⟨h.a0, h.a1, h.b0, h.b1, h.r0, h.r1, h.f0, h.f1, h.sz, h.below.drew⟩
theorem two_keep {w W : World} {u v : Value} (a o : Nat) {c : Value} (ha : a ≠ w.heap.size + 1 + 1) (hc : W.cell? ⟨a, o, none⟩ = some c) :
    ((W.setCell ⟨w.heap.size + 1 + 1, 0, none⟩ u).setCell ⟨w.heap.size + 1 + 1, 1, none⟩ v).cell? ⟨a, o, none⟩ = some c := by
  have hn : ∀ j, (⟨w.heap.size + 1 + 1, j, none⟩ : Addr) ≠ ⟨a, o, none⟩ := by intro j e; simp only [Addr.mk.injEq] at e; exact ha e.1.symm
  rw [World.cell?_setCell_other _ _ _ _ (hn 1), World.cell?_setCell_other _ _ _ _ (hn 0)]
  exact hc
theorem abs_add {x y : Int} (h : decide (x < 0) = decide (y < 0)) : ((x.natAbs : Int) + y.natAbs) = ((x + y).natAbs : Int) := by
  have : (x < 0) ↔ (y < 0) := by simpa using h
  omega
theorem sign_add {x y : Int} {s : Bool} (h1 : s = decide (x < 0)) (h : decide (x < 0) = decide (y < 0)) : x + y ≠ 0 → s = decide (x + y < 0) := by
  intro hz
  rw [h1]
  have : (x < 0) ↔ (y < 0) := by simpa using h
  rw [decide_eq_decide]; omega
theorem abs_sub {x y : Int} {s t : Bool} (hs : s = decide (x < 0)) (ht : t = decide (y < 0)) (hne : s ≠ t) (h : (y.natAbs : Int) ≤ x.natAbs) : ((x.natAbs : Int) - y.natAbs) = ((x + y).natAbs : Int) ∧ (x + y ≠ 0 → s = decide (x + y < 0)) := by
  have : ¬ ((x < 0) ↔ (y < 0)) := by intro h'; apply hne; rw [hs, ht, decide_eq_decide]; exact h'
  constructor
  · omega
  · intro hz; rw [hs, decide_eq_decide]; omega
theorem num_ret' {w w3 : World} {s : Bool} {ao : Option Addr} {n cap : Nat} {ds : List Int} {z : Int} {k R : Nat} {b0 : Bool} {a0 : Option Addr} {n0 c0 : Nat} (hR : w.heap.size ≤ R) (h0 : w3.cell? ⟨R, 0, none⟩ = some (.bool b0)) (h1 : w3.cell? ⟨R, 1, none⟩ = some (.slice a0 n0 c0))
    (h : IsNum w3 s ao n cap ds z k) (hb : Below w.heap.size w w3) {w4 : World} (hw : w4 = ((w3.setCell ⟨R, 0, none⟩ (.bool s)).setCell ⟨R, 1, none⟩ (.slice ao n cap)).drew ∨ w4 = (w3.setCell ⟨R, 0, none⟩ (.bool s)).setCell ⟨R, 1, none⟩ (.slice ao n cap) := by first | exact Or.inl rfl | exact Or.inr rfl) :
    NumP k z w (.returned (.agg #[.bool s, .slice ao n cap])) w4 := by
  obtain ⟨s', ao', n', cap', ds', e, hN, hB⟩ := num_ret hR h0 h1 h hb
  rcases hw with rfl | rfl
  · exact ⟨s', ao', n', cap', ds', e, ⟨hN.neg, hN.len, hN.cap, hN.rd, hN.nrm, hN.val, hN.le⟩, hB.drew⟩
  · exact ⟨s', ao', n', cap', ds', e, hN, hB⟩
def Nn (z : Int) : Prop := 0 ≤ z
def Ng (z : Int) : Prop := z < 0
set_option maxRecDepth 100000 in
set_option maxHeartbeats 1000000 in
theorem add_same (s : Bool) (ao bo : Option Addr) (n m ca cb k : Nat) (xs ys : List Int) (x y : Int) (w : World) (hx : IsNum w s ao n ca xs x k) (hy : IsNum w s bo m cb ys y k) (hk : k ≤ 1000000) :
    Calls Try.prog 81 #[.agg #[.bool s, .slice ao n ca], .agg #[.bool s, .slice bo m cb]] w (NumP (k + 1) (x + y) w) := by
  have hss : (s == s) = true := by simp
  have hsg : decide (x < 0) = decide (y < 0) := hx.neg.symm.trans hy.neg
  have HV : Hid (val xs + val ys = ((x + y).natAbs : Int) ∧ (x + y ≠ 0 → s = decide (x + y < 0))) := ⟨by rw [hx.val, hy.val]; exact abs_add hsg, sign_add hx.neg hsg⟩
  have HX : Hid (xs.length = n) := hx.len
  have HY : Hid (ys.length = m) := hy.len
  have hnk := hx.le
  have hmk := hy.le
  have dx := hx.nrm.1
  have dy := hy.nrm.1
  have T0 := two_start w (.bool s) (.slice ao n ca) (.bool s) (.slice bo m cb)
  have rx := hx.rd.below T0.below (Nat.le_refl _)
  have ry := hy.rd.below T0.below (Nat.le_refl _)
  clear hsg hx hy
  go_enter Try.func81, Try.ntmps81
  go_wp2
  generalize ((w.alloc (Obj.cells #[Value.bool s, Value.slice ao n ca] 66)).alloc (Obj.cells #[Value.bool s, Value.slice bo m cb] 66)).alloc (Obj.cells #[Value.bool false, Value.slice none 0 0] 66) = W at *
  go_region_held3 (fun w' => w'.cell? ⟨w.heap.size, 0, none⟩ = some (.bool s) ∧ w'.cell? ⟨w.heap.size, 1, none⟩ = some (.slice ao n ca) ∧ w'.cell? ⟨w.heap.size + 1, 1, none⟩ = some (.slice bo m cb)) (first | exact ⟨two_keep _ _ (by omega) T2.a0, two_keep _ _ (by omega) T2.a1, two_keep _ _ (by omega) T2.b1⟩ | exact ⟨T2.a0, T2.a1, T2.b1⟩ | exact ⟨T1.a0, T1.a1, T1.b1⟩ | exact ⟨T0.a0, T0.a1, T0.b1⟩)
    (first
      | (go_at_call 111; refine (addAbs_any ao bo n m ca cb k xs ys _ HX.out HY.out dx dy (by exact rx) (by exact ry) hnk hmk hk).mono ?_; rintro e w1 ⟨ao1, n1, c1, zs, rfl, p1, p2, p3, p4, p5, p6, p7⟩; have T1 := T0.drew.step p7; clear p7)
      | (go_at_call 76; refine (trim_any s _ _ _ zs _ p1 p2 p4 p6 (by omega)).mono ?_; rintro e w2 ⟨neg', ao', n', cap', ds', rfl, k1, k2, k3, k4, k5, k6, k7, k8⟩; have T2 := T1.step k8; have HN := num_of (z := x + y) (k := k + 1) k1 k2 (by omega) k4 (k5.trans p5) (k6.trans (by rw [p5])) k7 HV.out.1 HV.out.2; have c0 := T2.r0; have c1 := T2.r1; have f0 := T2.f0; have f1 := T2.f1; clear k1 k2 k3 k4 k5 k6 k7 k8))
  all_goals go_wp2
  all_goals refine bodyPost_ret (v := .agg #[.bool neg', .slice ao' n' cap']) (by simp [results, Try.results81, go_sem, c0, c1]) rfl ?_
  all_goals exact num_ret' (by omega) c0 c1 HN T2.below
set_option maxRecDepth 100000 in
set_option maxHeartbeats 1000000 in
theorem add_ge (s t : Bool) (hst : s ≠ t) (ao bo : Option Addr) (n m ca cb k : Nat) (xs ys : List Int) (x y : Int) (w : World) (hx : IsNum w s ao n ca xs x k) (hy : IsNum w t bo m cb ys y k) (hk : k ≤ 1000000) (hle : val ys ≤ val xs) :
    Calls Try.prog 81 #[.agg #[.bool s, .slice ao n ca], .agg #[.bool t, .slice bo m cb]] w (NumP (k + 1) (x + y) w) := by
  have hss : (s == t) = false := by simpa using hst
  have HV : Hid (val xs - val ys = ((x + y).natAbs : Int) ∧ (x + y ≠ 0 → s = decide (x + y < 0))) := by have := hle; rw [hx.val, hy.val] at this ⊢; exact abs_sub hx.neg hy.neg hst this
  have HX : Hid (xs.length = n) := hx.len
  have HY : Hid (ys.length = m) := hy.len
  have hnk := hx.le
  have hmk := hy.le
  have NX := hx.nrm
  have NY := hy.nrm
  have HLE : Hid (val ys ≤ val xs) := hle
  have T0 := two_start w (.bool s) (.slice ao n ca) (.bool t) (.slice bo m cb)
  have rx := hx.rd.below T0.below (Nat.le_refl _)
  have ry := hy.rd.below T0.below (Nat.le_refl _)
  have hcc : Nn (cmpI (val xs) (val ys)) := by show 0 ≤ _; unfold cmpI; split <;> (try split) <;> omega
  clear hx hy hst hle
  go_enter Try.func81, Try.ntmps81
  go_wp2_with fail
  generalize ((w.alloc (Obj.cells #[Value.bool s, Value.slice ao n ca] 66)).alloc (Obj.cells #[Value.bool t, Value.slice bo m cb] 66)).alloc (Obj.cells #[Value.bool false, Value.slice none 0 0] 66) = W0 at *
  refine (cmpAbs_any ao bo n m ca cb xs ys _ HX.out HY.out NX NY rx ry (by omega) (by omega)).mono ?_
  rintro e W ⟨rfl, hB⟩
  have T := T0.step hB
  have rx := rx.below hB (Nat.le_refl _)
  have ry := ry.below hB (Nat.le_refl _)
  generalize cmpI (val xs) (val ys) = cc at *
  have hcc : 0 ≤ cc := hcc
  clear T0 hB
  have T0 := T
  clear T
  go_wp2
  go_region_held3 (fun w' => w'.cell? ⟨w.heap.size, 0, none⟩ = some (.bool s) ∧ w'.cell? ⟨w.heap.size, 1, none⟩ = some (.slice ao n ca) ∧ w'.cell? ⟨w.heap.size + 1, 1, none⟩ = some (.slice bo m cb)) (first | exact ⟨two_keep _ _ (by omega) T2.a0, two_keep _ _ (by omega) T2.a1, two_keep _ _ (by omega) T2.b1⟩ | exact ⟨T2.a0, T2.a1, T2.b1⟩ | exact ⟨T1.a0, T1.a1, T1.b1⟩ | exact ⟨T0.a0, T0.a1, T0.b1⟩)
    (first
      | (go_at_call 77; refine (subAbs_any ao bo n m ca cb xs ys _ HX.out HY.out NX.1 NY.1 (by exact rx) (by exact ry) (by omega) (by omega) HLE.out).mono ?_; rintro e w1 ⟨ao1, c1, zs, rfl, p1, p2, p4, p5, p6, p7⟩; have T1 := T0.drew.step p7; clear p7)
      | (go_at_call 76; refine (trim_any s _ _ _ zs _ p1 p2 p4 p6 (by omega)).mono ?_; rintro e w2 ⟨neg', ao', n', cap', ds', rfl, k1, k2, k3, k4, k5, k6, k7, k8⟩; have T2 := T1.step k8; have HN := num_of (z := x + y) (k := k + 1) k1 k2 (by omega) k4 (k5.trans p5) (k6.trans (by rw [p5])) k7 HV.out.1 HV.out.2; have c0 := T2.r0; have c1 := T2.r1; have f0 := T2.f0; have f1 := T2.f1; clear k1 k2 k3 k4 k5 k6 k7 k8))
  all_goals go_wp2
  all_goals refine bodyPost_ret (v := .agg #[.bool neg', .slice ao' n' cap']) (by simp [results, Try.results81, go_sem, c0, c1]) rfl ?_
  all_goals exact num_ret' (by omega) c0 c1 HN T2.below
set_option maxRecDepth 100000 in
set_option maxHeartbeats 1000000 in
theorem add_lt (s t : Bool) (hst : s ≠ t) (ao bo : Option Addr) (n m ca cb k : Nat) (xs ys : List Int) (x y : Int) (w : World) (hx : IsNum w s ao n ca xs x k) (hy : IsNum w t bo m cb ys y k) (hk : k ≤ 1000000) (hle : val xs < val ys) :
    Calls Try.prog 81 #[.agg #[.bool s, .slice ao n ca], .agg #[.bool t, .slice bo m cb]] w (NumP (k + 1) (x + y) w) := by
  have hss : (s == t) = false := by simpa using hst
  have HV : Hid (val ys - val xs = ((x + y).natAbs : Int) ∧ (x + y ≠ 0 → t = decide (x + y < 0))) := by have := hle; rw [hx.val, hy.val] at this ⊢; have h := abs_sub hy.neg hx.neg (fun e => hst e.symm) (by omega); rw [Int.add_comm y x] at h; exact h
  have HX : Hid (xs.length = n) := hx.len
  have HY : Hid (ys.length = m) := hy.len
  have hnk := hx.le
  have hmk := hy.le
  have NX := hx.nrm
  have NY := hy.nrm
  have HLE : Hid (val xs < val ys) := hle
  have T0 := two_start w (.bool s) (.slice ao n ca) (.bool t) (.slice bo m cb)
  have rx := hx.rd.below T0.below (Nat.le_refl _)
  have ry := hy.rd.below T0.below (Nat.le_refl _)
  have hcc : Ng (cmpI (val xs) (val ys)) := by show _ < 0; rw [cmpI_lt hle]; decide
  clear hx hy hst hle
  go_enter Try.func81, Try.ntmps81
  go_wp2_with fail
  generalize ((w.alloc (Obj.cells #[Value.bool s, Value.slice ao n ca] 66)).alloc (Obj.cells #[Value.bool t, Value.slice bo m cb] 66)).alloc (Obj.cells #[Value.bool false, Value.slice none 0 0] 66) = W0 at *
  refine (cmpAbs_any ao bo n m ca cb xs ys _ HX.out HY.out NX NY rx ry (by omega) (by omega)).mono ?_
  rintro e W ⟨rfl, hB⟩
  have T := T0.step hB
  have rx := rx.below hB (Nat.le_refl _)
  have ry := ry.below hB (Nat.le_refl _)
  generalize cmpI (val xs) (val ys) = cc at *
  have hcc : ¬ 0 ≤ cc := by have : cc < 0 := hcc; omega
  clear T0 hB
  have T0 := T
  clear T
  go_wp2
  go_region_held3 (fun w' => w'.cell? ⟨w.heap.size + 1, 0, none⟩ = some (.bool t) ∧ w'.cell? ⟨w.heap.size + 1, 1, none⟩ = some (.slice bo m cb) ∧ w'.cell? ⟨w.heap.size, 1, none⟩ = some (.slice ao n ca)) (first | exact ⟨two_keep _ _ (by omega) T2.b0, two_keep _ _ (by omega) T2.b1, two_keep _ _ (by omega) T2.a1⟩ | exact ⟨T2.b0, T2.b1, T2.a1⟩ | exact ⟨T1.b0, T1.b1, T1.a1⟩ | exact ⟨T0.b0, T0.b1, T0.a1⟩)
    (first
      | (go_at_call 77; refine (subAbs_any bo ao m n cb ca ys xs _ HY.out HX.out NY.1 NX.1 (by exact ry) (by exact rx) (by omega) (by omega) (Int.le_of_lt HLE.out)).mono ?_; rintro e w1 ⟨ao1, c1, zs, rfl, p1, p2, p4, p5, p6, p7⟩; have T1 := T0.drew.step p7; clear p7)
      | (go_at_call 76; refine (trim_any t _ _ _ zs _ p1 p2 p4 p6 (by omega)).mono ?_; rintro e w2 ⟨neg', ao', n', cap', ds', rfl, k1, k2, k3, k4, k5, k6, k7, k8⟩; have T2 := T1.step k8; have HN := num_of (z := x + y) (k := k + 1) k1 k2 (by omega) k4 (k5.trans p5) (k6.trans (by rw [p5])) k7 HV.out.1 HV.out.2; have c0 := T2.r0; have c1 := T2.r1; have f0 := T2.f0; have f1 := T2.f1; clear k1 k2 k3 k4 k5 k6 k7 k8))
  all_goals go_wp2
  all_goals refine bodyPost_ret (v := .agg #[.bool neg', .slice ao' n' cap']) (by simp [results, Try.results81, go_sem, c0, c1]) rfl ?_
  all_goals exact num_ret' (by omega) c0 c1 HN T2.below
theorem add_any (s t : Bool) (ao bo : Option Addr) (n m ca cb k : Nat) (xs ys : List Int) (x y : Int) (w : World) (hx : IsNum w s ao n ca xs x k) (hy : IsNum w t bo m cb ys y k) (hk : k ≤ 1000000) :
    Calls Try.prog 81 #[.agg #[.bool s, .slice ao n ca], .agg #[.bool t, .slice bo m cb]] w (NumP (k + 1) (x + y) w) := by
  by_cases hst : s = t
  · subst hst
    exact add_same s ao bo n m ca cb k xs ys x y w hx hy hk
  · by_cases hle : val ys ≤ val xs
    · exact add_ge s t hst ao bo n m ca cb k xs ys x y w hx hy hk hle
    · exact add_lt s t hst ao bo n m ca cb k xs ys x y w hx hy hk (by omega)
end Go.Proofs.Ytnnojeggjnddpaa

/- The walks of negation, difference and comparison of numbers. -/
namespace Go.Proofs.Ytnnojeggjnddpaa
open Go.RowKit
theorem IsNum.drew {w : World} {s : Bool} {ao : Option Addr} {n cap : Nat} {ds : List Int} {z : Int} {k : Nat} (h : IsNum w s ao n cap ds z k) : IsNum w.drew s ao n cap ds z k := ⟨h.neg, h.len, h.cap, h.rd, h.nrm, h.val, h.le⟩
theorem IsNum.negated {w : World} {s : Bool} {ao : Option Addr} {n cap : Nat} {ds : List Int} {z : Int} {k : Nat} (h : IsNum w s ao n cap ds z k) (hz : z ≠ 0) : IsNum w (!s) ao n cap ds (-z) k :=
  ⟨by rw [h.neg]; by_cases h' : z < 0 <;> simp [h'] <;> omega, h.len, h.cap, h.rd, h.nrm, by rw [h.val]; omega, h.le⟩
set_option maxRecDepth 100000 in
set_option maxHeartbeats 400000 in
theorem neg_any (s : Bool) (ao : Option Addr) (n cap : Nat) (ds : List Int) (z : Int) (k : Nat) (w : World) (h : IsNum w s ao n cap ds z k) :
    Calls Try.prog 83 #[.agg #[.bool s, .slice ao n cap]] w (NumP k (-z) w) := by
  have h1 := h.zero
  have hB : ∀ o o', Below w.heap.size w ((w.alloc o).alloc o') := fun o o' => ((Below.refl _ _).alloc (Nat.le_refl _) o).alloc (by simp) o'
  by_cases hz : z = 0
  · subst hz
    have hn := h1.2 rfl
    subst hn
    have HH : Hid (IsNum w s ao 0 cap ds 0 k) := h
    clear h1 h
    go_enter Try.func83, Try.ntmps83
    go_wp2
    refine bodyPost_ret (v := .agg #[.bool s, .slice ao 0 cap]) (by simp [results, Try.results83, go_sem]) rfl ?_
    exact ⟨s, ao, 0, cap, ds, rfl, by simpa using HH.out.below (hB _ _), hB _ _⟩
  · have hn : ((n : Int) == 0) = false := beq_eq_false_iff_ne.2 (by have := fun h => hz (h1.1 h); omega)
    have HH : Hid (IsNum w (!s) ao n cap ds (-z) k) := h.negated hz
    clear h1 h
    go_enter Try.func83, Try.ntmps83
    go_wp2
    refine bodyPost_ret (v := .agg #[.bool (!s), .slice ao n cap]) (by simp [results, Try.results83, go_sem]) rfl ?_
    exact ⟨!s, ao, n, cap, ds, rfl, HH.out.below (hB _ _), hB _ _⟩
end Go.Proofs.Ytnnojeggjnddpaa

/- The walk of four words made from a number that is not below 0. -/
namespace Go.Proofs.Ytnnojeggjnddpaa
open Go.RowKit
set_option maxRecDepth 100000 in
set_option maxHeartbeats 4000000 in
theorem toW_pos (ao : Option Addr) (n cap : Nat) (ds : List Int) (z : Int) (k : Nat) (w : World) (hz0 : 0 ≤ z) (h : IsNum w false ao n cap ds z k) (hk : k ≤ 1000000) :
    Calls Try.prog 48 #[.agg #[.bool false, .slice ao n cap]] w (TellP z w) := by
  have HL : Hid (ds.length = n) := h.len
  have HD : Hid (Dig ds) := h.nrm.1
  have hm : n ≤ 1000000 := by have := h.le; omega
  go_enter Try.func48, Try.ntmps48
  go_wp2_with fail
  refine (bits_any ao n cap ds _ h.len h.nrm ((h.rd.below ((Below.refl _ _).alloc (Nat.le_refl _) _) (Nat.le_refl _)).below ((Below.refl _ _).alloc (Nat.le_refl _) _) (Nat.le_refl _)) (by have := h.le; omega)).mono ?_
  rintro e w1 ⟨b, rfl, hb, hB⟩
  have HR : Hid (Rd w1 ao ds) := ((h.rd.below ((Below.refl _ _).alloc (Nat.le_refl _) _) (Nat.le_refl _)).below ((Below.refl _ _).alloc (Nat.le_refl _) _) (Nat.le_refl _)).below hB (Nat.le_refl _)
  obtain ⟨c0, c1, c2, c3, f0, f1, f2, f3, hz, hB2⟩ := res4' (R := w.heap.size + 1) (by simp) (hB.mono (by simp))
  have HB : Hid (Below w.heap.size w w1) := ((Below.refl _ _).alloc (Nat.le_refl _) _).trans (hB2.mono (by simp))
  have hv := h.val
  have hbl := bits_le hb 255
  rw [two255, hv] at hbl
  clear hB hB2 h hb
  by_cases hb5 : b ≤ 255
  · have hmk := make8
    have HU : Hid (val ds < pw 8) := by show _ < _; have := hbl.1 hb5; rw [hv, pw8]; omega
    have HS : Hid (TellOk (val ds) z) := Or.inl ⟨hz0, by have := hbl.1 hb5; omega, by rw [hv]; omega⟩
    clear hv hbl
    go_wp2_with fail
    go_loopw [6] (fun i wr => ∃ k : Nat, k ≤ 8 ∧ k ≤ n ∧ i = .int .i64 k ∧ ToI w1 wr w1.heap.size ds k) (fun i _ => 8 - (intOf i).toNat)
    case atStart => exact ⟨0, by omega, Nat.zero_le _, rfl, toI_start w1 ds⟩
    case round =>
      obtain ⟨k, hk8, hkn, rfl, hI⟩ := hrel
      by_cases h8 : k < 8
      · by_cases hn : k < n
        · have hkx : k < ds.length := by have := HL.out; omega
          obtain ⟨b', off, rfl, hbl, hcx0⟩ := HR.out k hkx
          have hcx := (hI.below.cell (p := ⟨b', off + k, none⟩) hbl).trans hcx0
          clear hcx0
          obtain ⟨hx0, hx1⟩ := dig_at HD.out k hkx
          have hfr := hI.own.frozenAt k
          obtain ⟨v0, hc0⟩ := toI_cell hI k h8
          have R := toI_step hI h8 hkx
          clear hI
          have hbn : b' ≠ w1.heap.size := by omega
          go_wp2
          go_roundw
          case rel => exact ⟨k + 1, by omega, by omega, by go_num, R⟩
          case measure => simp [intOf]; omega
        · obtain rfl : k = n := by omega
          have HC := toI_cells hI (Or.inr HL.out)
          have HBB : Hid (Below w.heap.size w wr) := HB.out.trans (hI.below.mono HB.out.size)
          obtain ⟨g0, g1, g2, g3, q0, q1, q2, q3⟩ := toI_res hI hz c0 c1 c2 c3 f0 f1 f2 f3
          clear hI c0 c1 c2 c3 f0 f1 f2 f3
          have hne : w.heap.size + 1 ≠ w1.heap.size := by omega
          obtain ⟨y0, hy0⟩ : ∃ y, y = ds.getD 0 0 := ⟨_, rfl⟩
          obtain ⟨y1, hy1⟩ : ∃ y, y = ds.getD 1 0 := ⟨_, rfl⟩
          obtain ⟨y2, hy2⟩ : ∃ y, y = ds.getD 2 0 := ⟨_, rfl⟩
          obtain ⟨y3, hy3⟩ : ∃ y, y = ds.getD 3 0 := ⟨_, rfl⟩
          obtain ⟨y4, hy4⟩ : ∃ y, y = ds.getD 4 0 := ⟨_, rfl⟩
          obtain ⟨y5, hy5⟩ : ∃ y, y = ds.getD 5 0 := ⟨_, rfl⟩
          obtain ⟨y6, hy6⟩ : ∃ y, y = ds.getD 6 0 := ⟨_, rfl⟩
          obtain ⟨y7, hy7⟩ : ∃ y, y = ds.getD 7 0 := ⟨_, rfl⟩
          have e0 := HC 0 (by omega); have e1 := HC 1 (by omega); have e2 := HC 2 (by omega); have e3 := HC 3 (by omega); have e4 := HC 4 (by omega); have e5 := HC 5 (by omega); have e6 := HC 6 (by omega); have e7 := HC 7 (by omega)
          have b0 := dig_getD HD.out 0; have b1 := dig_getD HD.out 1; have b2 := dig_getD HD.out 2; have b3 := dig_getD HD.out 3; have b4 := dig_getD HD.out 4; have b5 := dig_getD HD.out 5; have b6 := dig_getD HD.out 6; have b7 := dig_getD HD.out 7
          have HW := uw_of_digits HD.out HU.out
          rw [← hy0] at e0 b0 HW; rw [← hy1] at e1 b1 HW; rw [← hy2] at e2 b2 HW; rw [← hy3] at e3 b3 HW; rw [← hy4] at e4 b4 HW; rw [← hy5] at e5 b5 HW; rw [← hy6] at e6 b6 HW; rw [← hy7] at e7 b7 HW
          have o0 := or_hi y0 y1 b0 b1; have o1 := or_hi y2 y3 b2 b3; have o2 := or_hi y4 y5 b4 b5; have o3 := or_hi y6 y7 b6 b7
          have d0 := word_of_digits b0 b1; have d1 := word_of_digits b2 b3; have d2 := word_of_digits b4 b5; have d3 := word_of_digits b6 b7
          obtain ⟨x0, hx0⟩ : ∃ x, x = y0 + y1 * 4294967296 := ⟨_, rfl⟩
          obtain ⟨x1, hx1⟩ : ∃ x, x = y2 + y3 * 4294967296 := ⟨_, rfl⟩
          obtain ⟨x2, hx2⟩ : ∃ x, x = y4 + y5 * 4294967296 := ⟨_, rfl⟩
          obtain ⟨x3, hx3⟩ : ∃ x, x = y6 + y7 * 4294967296 := ⟨_, rfl⟩
          rw [← hx0] at o0 d0 HW; rw [← hx1] at o1 d1 HW; rw [← hx2] at o2 d2 HW; rw [← hx3] at o3 d3 HW
          have HW2 : Hid (uw x3 x2 x1 x0 = val ds) := HW
          clear HC HW hx0 hx1 hx2 hx3 hy0 hy1 hy2 hy3 hy4 hy5 hy6 hy7 b0 b1 b2 b3 b4 b5 b6 b7
          go_wp2
          go_region_held3 (fun w' => w'.cell? ⟨w1.heap.size, 0, none⟩ = some (.int .u64 y0) ∧ w'.cell? ⟨w1.heap.size, 1, none⟩ = some (.int .u64 y1) ∧ w'.cell? ⟨w1.heap.size, 2, none⟩ = some (.int .u64 y2) ∧ w'.cell? ⟨w1.heap.size, 3, none⟩ = some (.int .u64 y3) ∧ w'.cell? ⟨w1.heap.size, 4, none⟩ = some (.int .u64 y4) ∧ w'.cell? ⟨w1.heap.size, 5, none⟩ = some (.int .u64 y5) ∧ w'.cell? ⟨w1.heap.size, 6, none⟩ = some (.int .u64 y6) ∧ w'.cell? ⟨w1.heap.size, 7, none⟩ = some (.int .u64 y7)) (first | exact ⟨e0, e1, e2, e3, e4, e5, e6, e7⟩ | exact keep8 hne e0 e1 e2 e3 e4 e5 e6 e7) (fail)
          all_goals go_wp2
          all_goals refine bodyPost_ret (v := .tuple #[.agg #[.int .u64 x3, .int .u64 x2, .int .u64 x1, .int .u64 x0], .bool true]) (by simp [results, Try.results48, go_sem, g0, g1, g2, g3]) rfl ?_
          all_goals exact tell_ok d3 d2 d1 d0 HW2.out HS.out (by first | exact (tell_below HBB.out (Nat.le_succ _)).drew | exact tell_below HBB.out (Nat.le_succ _))
      · obtain rfl : k = 8 := by omega
        have HC := toI_cells hI (Or.inl rfl)
        have HBB : Hid (Below w.heap.size w wr) := HB.out.trans (hI.below.mono HB.out.size)
        obtain ⟨g0, g1, g2, g3, q0, q1, q2, q3⟩ := toI_res hI hz c0 c1 c2 c3 f0 f1 f2 f3
        clear hI c0 c1 c2 c3 f0 f1 f2 f3
        have hne : w.heap.size + 1 ≠ w1.heap.size := by omega
        obtain ⟨y0, hy0⟩ : ∃ y, y = ds.getD 0 0 := ⟨_, rfl⟩
        obtain ⟨y1, hy1⟩ : ∃ y, y = ds.getD 1 0 := ⟨_, rfl⟩
        obtain ⟨y2, hy2⟩ : ∃ y, y = ds.getD 2 0 := ⟨_, rfl⟩
        obtain ⟨y3, hy3⟩ : ∃ y, y = ds.getD 3 0 := ⟨_, rfl⟩
        obtain ⟨y4, hy4⟩ : ∃ y, y = ds.getD 4 0 := ⟨_, rfl⟩
        obtain ⟨y5, hy5⟩ : ∃ y, y = ds.getD 5 0 := ⟨_, rfl⟩
        obtain ⟨y6, hy6⟩ : ∃ y, y = ds.getD 6 0 := ⟨_, rfl⟩
        obtain ⟨y7, hy7⟩ : ∃ y, y = ds.getD 7 0 := ⟨_, rfl⟩
        have e0 := HC 0 (by omega); have e1 := HC 1 (by omega); have e2 := HC 2 (by omega); have e3 := HC 3 (by omega); have e4 := HC 4 (by omega); have e5 := HC 5 (by omega); have e6 := HC 6 (by omega); have e7 := HC 7 (by omega)
        have b0 := dig_getD HD.out 0; have b1 := dig_getD HD.out 1; have b2 := dig_getD HD.out 2; have b3 := dig_getD HD.out 3; have b4 := dig_getD HD.out 4; have b5 := dig_getD HD.out 5; have b6 := dig_getD HD.out 6; have b7 := dig_getD HD.out 7
        have HW := uw_of_digits HD.out HU.out
        rw [← hy0] at e0 b0 HW; rw [← hy1] at e1 b1 HW; rw [← hy2] at e2 b2 HW; rw [← hy3] at e3 b3 HW; rw [← hy4] at e4 b4 HW; rw [← hy5] at e5 b5 HW; rw [← hy6] at e6 b6 HW; rw [← hy7] at e7 b7 HW
        have o0 := or_hi y0 y1 b0 b1; have o1 := or_hi y2 y3 b2 b3; have o2 := or_hi y4 y5 b4 b5; have o3 := or_hi y6 y7 b6 b7
        have d0 := word_of_digits b0 b1; have d1 := word_of_digits b2 b3; have d2 := word_of_digits b4 b5; have d3 := word_of_digits b6 b7
        obtain ⟨x0, hx0⟩ : ∃ x, x = y0 + y1 * 4294967296 := ⟨_, rfl⟩
        obtain ⟨x1, hx1⟩ : ∃ x, x = y2 + y3 * 4294967296 := ⟨_, rfl⟩
        obtain ⟨x2, hx2⟩ : ∃ x, x = y4 + y5 * 4294967296 := ⟨_, rfl⟩
        obtain ⟨x3, hx3⟩ : ∃ x, x = y6 + y7 * 4294967296 := ⟨_, rfl⟩
        rw [← hx0] at o0 d0 HW; rw [← hx1] at o1 d1 HW; rw [← hx2] at o2 d2 HW; rw [← hx3] at o3 d3 HW
        have HW2 : Hid (uw x3 x2 x1 x0 = val ds) := HW
        clear HC HW hx0 hx1 hx2 hx3 hy0 hy1 hy2 hy3 hy4 hy5 hy6 hy7 b0 b1 b2 b3 b4 b5 b6 b7
        go_wp2
        go_region_held3 (fun w' => w'.cell? ⟨w1.heap.size, 0, none⟩ = some (.int .u64 y0) ∧ w'.cell? ⟨w1.heap.size, 1, none⟩ = some (.int .u64 y1) ∧ w'.cell? ⟨w1.heap.size, 2, none⟩ = some (.int .u64 y2) ∧ w'.cell? ⟨w1.heap.size, 3, none⟩ = some (.int .u64 y3) ∧ w'.cell? ⟨w1.heap.size, 4, none⟩ = some (.int .u64 y4) ∧ w'.cell? ⟨w1.heap.size, 5, none⟩ = some (.int .u64 y5) ∧ w'.cell? ⟨w1.heap.size, 6, none⟩ = some (.int .u64 y6) ∧ w'.cell? ⟨w1.heap.size, 7, none⟩ = some (.int .u64 y7)) (first | exact ⟨e0, e1, e2, e3, e4, e5, e6, e7⟩ | exact keep8 hne e0 e1 e2 e3 e4 e5 e6 e7) (fail)
        all_goals go_wp2
        all_goals refine bodyPost_ret (v := .tuple #[.agg #[.int .u64 x3, .int .u64 x2, .int .u64 x1, .int .u64 x0], .bool true]) (by simp [results, Try.results48, go_sem, g0, g1, g2, g3]) rfl ?_
        all_goals exact tell_ok d3 d2 d1 d0 HW2.out HS.out (by first | exact (tell_below HBB.out (Nat.le_succ _)).drew | exact tell_below HBB.out (Nat.le_succ _))
  · have HT : Hid (told z = false) := by show _ = _; unfold told; rw [decide_eq_false_iff_not]; have := fun h => hb5 (hbl.2 h); omega
    clear hv hbl HR
    go_wp2_with fail
    refine bodyPost_ret (v := .tuple #[.agg #[.int .u64 0, .int .u64 0, .int .u64 0, .int .u64 0], .bool false]) (by simp [results, Try.results48, go_sem, c0, c1, c2, c3]) rfl ?_
    exact ⟨tell_below HB.out (Nat.le_succ _), Or.inr ⟨HT.out, rfl⟩⟩
end Go.Proofs.Ytnnojeggjnddpaa

/- The walk of four words made from a number below 0. -/
namespace Go.Proofs.Ytnnojeggjnddpaa
open Go.RowKit
set_option maxRecDepth 100000 in
set_option maxHeartbeats 4000000 in
theorem toW_neg (ao : Option Addr) (n cap : Nat) (ds0 : List Int) (z : Int) (k : Nat) (w : World) (hz0 : z < 0) (h : IsNum w true ao n cap ds0 z k) (hk : k ≤ 1000000) :
    Calls Try.prog 48 #[.agg #[.bool true, .slice ao n cap]] w (TellP z w) := by
  have hm0 : n ≤ 1000000 := by have := h.le; omega
  go_enter Try.func48, Try.ntmps48
  go_wp2_with fail
  refine (left_any _ 1 1 255 [1] _ rfl (dig_cons.2 ⟨by omega, dig_nil⟩) (Rd.lit _ (by simp) rfl (by simp [maxLen])) (by omega) (by omega)).mono ?_
  rintro e wa ⟨ao1, n1, cap1, zs1, rfl, k1, k2, k3, k4, k5, k6, k7⟩
  have hRd0 : Rd wa ao ds0 := (((h.rd.below ((Below.refl _ _).alloc (Nat.le_refl _) _) (Nat.le_refl _)).below ((Below.refl _ _).alloc (Nat.le_refl _) _) (Nat.le_refl _)).below ((Below.refl _ _).alloc (Nat.le_refl _) _) (Nat.le_refl _)).below k7 (Nat.le_refl _)
  have hA : Below (w.heap.size + 2) ((w.alloc (Obj.cells #[Value.bool true, Value.slice ao n cap] 66)).alloc (Obj.cells #[Value.int IntKind.u64 0, Value.int IntKind.u64 0, Value.int IntKind.u64 0, Value.int IntKind.u64 0] 26)) wa :=
    ((Below.refl _ _).alloc (by simp) _).trans (k7.mono (by simp))
  rw [pw255] at k5
  have k3' : n1 ≤ 9 := k3
  clear k7 k3
  go_wp2_with fail
  refine (cmpAbs_any ao ao1 n n1 cap cap1 ds0 zs1 _ h.len k1 h.nrm k4 hRd0 k6 hm0 (by omega)).mono ?_
  rintro e wb ⟨rfl, hB⟩
  have hRd1 := hRd0.below hB (Nat.le_refl _)
  have hA1 := hA.trans (hB.mono (by have := hA.size; simp at this ⊢; omega))
  have hL0 := h.len
  have hD0 := h.nrm.1
  have hv0 := h.val
  have HV0 : Hid (val ds0 = (z.natAbs : Int)) := hv0
  rw [k5, hv0]
  clear k1 k2 k4 k5 k6 hRd0 hA hB h hv0
  by_cases hb5 : (z.natAbs : Int) ≤ 57896044618658097711785492504343953926634992332820282019728792003956564819968
  · have hcmp : ¬ 0 < cmpI (z.natAbs : Int) 57896044618658097711785492504343953926634992332820282019728792003956564819968 := by unfold cmpI; split <;> (try split) <;> omega
    generalize cmpI (z.natAbs : Int) 57896044618658097711785492504343953926634992332820282019728792003956564819968 = cc at hcmp ⊢
    have hmk := make8
    go_wp2_with fail
    refine (left_any _ 1 1 256 [1] _ rfl (dig_cons.2 ⟨by omega, dig_nil⟩) (Rd.lit _ (by simp) rfl (by simp [maxLen])) (by omega) (by omega)).mono ?_
    rintro e wc ⟨ao2, n2, cap2, zs2, rfl, k1, k2, k3, k4, k5, k6, k7⟩
    have hRd2 := (hRd1.below ((Below.refl _ _).alloc (Nat.le_refl _) _) (Nat.le_refl _)).below k7 (Nat.le_refl _)
    have hA2 := (hA1.alloc (by have := hA1.size; simp at this; omega) _).trans (k7.mono (by have := hA1.size; simp at this ⊢; omega))
    have k3' : n2 ≤ 10 := k3
    rw [pw256] at k5
    clear k7 k3
    go_wp2_with fail
    refine (subAbs_any ao2 ao n2 n cap2 cap zs2 ds0 _ k1 hL0 k4.1 hD0 k6 hRd2 (by omega) hm0 (by rw [k5, HV0.out]; omega)).mono ?_
    rintro e w1 ⟨ao3, cap3, ds, rfl, m1, m2, m3, m4, m5, m6⟩
    have hA3 := hA2.trans (m6.mono (by have := hA2.size; simp at this ⊢; omega))
    obtain ⟨c0, c1, c2, c3, f0, f1, f2, f3, hz, hB2⟩ := res4' (R := w.heap.size + 1) (by simp) (hA3.mono (by simp))
    have HB : Hid (Below w.heap.size w w1) := ((Below.refl _ _).alloc (Nat.le_refl _) _).trans (hB2.mono (by simp))
    have HL : Hid (ds.length = n2) := m1
    have HD : Hid (Dig ds) := m3
    have HR : Hid (Rd w1 ao3 ds) := m5
    rw [k5, HV0.out] at m4
    have HU : Hid (val ds < pw 8) := by show _ < _; rw [m4, pw8]; omega
    have HS : Hid (TellOk (val ds) z) := Or.inr ⟨hz0, by omega, by rw [m4]; omega⟩
    clear k1 k2 k4 k5 k6 hRd1 hRd2 hA1 hA2 hA3 hB2 m1 m2 m3 m4 m5 m6 hL0 hD0 HV0
    go_wp2_with fail
    go_loopw [6] (fun i wr => ∃ k : Nat, k ≤ 8 ∧ k ≤ n2 ∧ i = .int .i64 k ∧ ToI w1 wr w1.heap.size ds k) (fun i _ => 8 - (intOf i).toNat)
    case atStart => exact ⟨0, by omega, Nat.zero_le _, rfl, toI_start w1 ds⟩
    case round =>
      obtain ⟨k, hk8, hkn, rfl, hI⟩ := hrel
      by_cases h8 : k < 8
      · by_cases hn : k < n2
        · have hkx : k < ds.length := by have := HL.out; omega
          obtain ⟨b', off, rfl, hbl, hcx0⟩ := HR.out k hkx
          have hcx := (hI.below.cell (p := ⟨b', off + k, none⟩) hbl).trans hcx0
          clear hcx0
          obtain ⟨hx0, hx1⟩ := dig_at HD.out k hkx
          have hfr := hI.own.frozenAt k
          obtain ⟨v0, hc0⟩ := toI_cell hI k h8
          have R := toI_step hI h8 hkx
          clear hI
          have hbn : b' ≠ w1.heap.size := by omega
          go_wp2
          go_roundw
          case rel => exact ⟨k + 1, by omega, by omega, by go_num, R⟩
          case measure => simp [intOf]; omega
        · obtain rfl : k = n2 := by omega
          have HC := toI_cells hI (Or.inr HL.out)
          have HBB : Hid (Below w.heap.size w wr) := HB.out.trans (hI.below.mono HB.out.size)
          obtain ⟨g0, g1, g2, g3, q0, q1, q2, q3⟩ := toI_res hI hz c0 c1 c2 c3 f0 f1 f2 f3
          clear hI c0 c1 c2 c3 f0 f1 f2 f3
          have hne : w.heap.size + 1 ≠ w1.heap.size := by omega
          obtain ⟨y0, hy0⟩ : ∃ y, y = ds.getD 0 0 := ⟨_, rfl⟩
          obtain ⟨y1, hy1⟩ : ∃ y, y = ds.getD 1 0 := ⟨_, rfl⟩
          obtain ⟨y2, hy2⟩ : ∃ y, y = ds.getD 2 0 := ⟨_, rfl⟩
          obtain ⟨y3, hy3⟩ : ∃ y, y = ds.getD 3 0 := ⟨_, rfl⟩
          obtain ⟨y4, hy4⟩ : ∃ y, y = ds.getD 4 0 := ⟨_, rfl⟩
          obtain ⟨y5, hy5⟩ : ∃ y, y = ds.getD 5 0 := ⟨_, rfl⟩
          obtain ⟨y6, hy6⟩ : ∃ y, y = ds.getD 6 0 := ⟨_, rfl⟩
          obtain ⟨y7, hy7⟩ : ∃ y, y = ds.getD 7 0 := ⟨_, rfl⟩
          have e0 := HC 0 (by omega); have e1 := HC 1 (by omega); have e2 := HC 2 (by omega); have e3 := HC 3 (by omega); have e4 := HC 4 (by omega); have e5 := HC 5 (by omega); have e6 := HC 6 (by omega); have e7 := HC 7 (by omega)
          have b0 := dig_getD HD.out 0; have b1 := dig_getD HD.out 1; have b2 := dig_getD HD.out 2; have b3 := dig_getD HD.out 3; have b4 := dig_getD HD.out 4; have b5 := dig_getD HD.out 5; have b6 := dig_getD HD.out 6; have b7 := dig_getD HD.out 7
          have HW := uw_of_digits HD.out HU.out
          rw [← hy0] at e0 b0 HW; rw [← hy1] at e1 b1 HW; rw [← hy2] at e2 b2 HW; rw [← hy3] at e3 b3 HW; rw [← hy4] at e4 b4 HW; rw [← hy5] at e5 b5 HW; rw [← hy6] at e6 b6 HW; rw [← hy7] at e7 b7 HW
          have o0 := or_hi y0 y1 b0 b1; have o1 := or_hi y2 y3 b2 b3; have o2 := or_hi y4 y5 b4 b5; have o3 := or_hi y6 y7 b6 b7
          have d0 := word_of_digits b0 b1; have d1 := word_of_digits b2 b3; have d2 := word_of_digits b4 b5; have d3 := word_of_digits b6 b7
          obtain ⟨x0, hx0⟩ : ∃ x, x = y0 + y1 * 4294967296 := ⟨_, rfl⟩
          obtain ⟨x1, hx1⟩ : ∃ x, x = y2 + y3 * 4294967296 := ⟨_, rfl⟩
          obtain ⟨x2, hx2⟩ : ∃ x, x = y4 + y5 * 4294967296 := ⟨_, rfl⟩
          obtain ⟨x3, hx3⟩ : ∃ x, x = y6 + y7 * 4294967296 := ⟨_, rfl⟩
          rw [← hx0] at o0 d0 HW; rw [← hx1] at o1 d1 HW; rw [← hx2] at o2 d2 HW; rw [← hx3] at o3 d3 HW
          have HW2 : Hid (uw x3 x2 x1 x0 = val ds) := HW
          clear HC HW hx0 hx1 hx2 hx3 hy0 hy1 hy2 hy3 hy4 hy5 hy6 hy7 b0 b1 b2 b3 b4 b5 b6 b7
          go_wp2
          go_region_held3 (fun w' => w'.cell? ⟨w1.heap.size, 0, none⟩ = some (.int .u64 y0) ∧ w'.cell? ⟨w1.heap.size, 1, none⟩ = some (.int .u64 y1) ∧ w'.cell? ⟨w1.heap.size, 2, none⟩ = some (.int .u64 y2) ∧ w'.cell? ⟨w1.heap.size, 3, none⟩ = some (.int .u64 y3) ∧ w'.cell? ⟨w1.heap.size, 4, none⟩ = some (.int .u64 y4) ∧ w'.cell? ⟨w1.heap.size, 5, none⟩ = some (.int .u64 y5) ∧ w'.cell? ⟨w1.heap.size, 6, none⟩ = some (.int .u64 y6) ∧ w'.cell? ⟨w1.heap.size, 7, none⟩ = some (.int .u64 y7)) (first | exact ⟨e0, e1, e2, e3, e4, e5, e6, e7⟩ | exact keep8 hne e0 e1 e2 e3 e4 e5 e6 e7) (fail)
          all_goals go_wp2
          all_goals refine bodyPost_ret (v := .tuple #[.agg #[.int .u64 x3, .int .u64 x2, .int .u64 x1, .int .u64 x0], .bool true]) (by simp [results, Try.results48, go_sem, g0, g1, g2, g3]) rfl ?_
          all_goals exact tell_ok d3 d2 d1 d0 HW2.out HS.out (by first | exact (tell_below HBB.out (Nat.le_succ _)).drew | exact tell_below HBB.out (Nat.le_succ _))
      · obtain rfl : k = 8 := by omega
        have HC := toI_cells hI (Or.inl rfl)
        have HBB : Hid (Below w.heap.size w wr) := HB.out.trans (hI.below.mono HB.out.size)
        obtain ⟨g0, g1, g2, g3, q0, q1, q2, q3⟩ := toI_res hI hz c0 c1 c2 c3 f0 f1 f2 f3
        clear hI c0 c1 c2 c3 f0 f1 f2 f3
        have hne : w.heap.size + 1 ≠ w1.heap.size := by omega
        obtain ⟨y0, hy0⟩ : ∃ y, y = ds.getD 0 0 := ⟨_, rfl⟩
        obtain ⟨y1, hy1⟩ : ∃ y, y = ds.getD 1 0 := ⟨_, rfl⟩
        obtain ⟨y2, hy2⟩ : ∃ y, y = ds.getD 2 0 := ⟨_, rfl⟩
        obtain ⟨y3, hy3⟩ : ∃ y, y = ds.getD 3 0 := ⟨_, rfl⟩
        obtain ⟨y4, hy4⟩ : ∃ y, y = ds.getD 4 0 := ⟨_, rfl⟩
        obtain ⟨y5, hy5⟩ : ∃ y, y = ds.getD 5 0 := ⟨_, rfl⟩
        obtain ⟨y6, hy6⟩ : ∃ y, y = ds.getD 6 0 := ⟨_, rfl⟩
        obtain ⟨y7, hy7⟩ : ∃ y, y = ds.getD 7 0 := ⟨_, rfl⟩
        have e0 := HC 0 (by omega); have e1 := HC 1 (by omega); have e2 := HC 2 (by omega); have e3 := HC 3 (by omega); have e4 := HC 4 (by omega); have e5 := HC 5 (by omega); have e6 := HC 6 (by omega); have e7 := HC 7 (by omega)
        have b0 := dig_getD HD.out 0; have b1 := dig_getD HD.out 1; have b2 := dig_getD HD.out 2; have b3 := dig_getD HD.out 3; have b4 := dig_getD HD.out 4; have b5 := dig_getD HD.out 5; have b6 := dig_getD HD.out 6; have b7 := dig_getD HD.out 7
        have HW := uw_of_digits HD.out HU.out
        rw [← hy0] at e0 b0 HW; rw [← hy1] at e1 b1 HW; rw [← hy2] at e2 b2 HW; rw [← hy3] at e3 b3 HW; rw [← hy4] at e4 b4 HW; rw [← hy5] at e5 b5 HW; rw [← hy6] at e6 b6 HW; rw [← hy7] at e7 b7 HW
        have o0 := or_hi y0 y1 b0 b1; have o1 := or_hi y2 y3 b2 b3; have o2 := or_hi y4 y5 b4 b5; have o3 := or_hi y6 y7 b6 b7
        have d0 := word_of_digits b0 b1; have d1 := word_of_digits b2 b3; have d2 := word_of_digits b4 b5; have d3 := word_of_digits b6 b7
        obtain ⟨x0, hx0⟩ : ∃ x, x = y0 + y1 * 4294967296 := ⟨_, rfl⟩
        obtain ⟨x1, hx1⟩ : ∃ x, x = y2 + y3 * 4294967296 := ⟨_, rfl⟩
        obtain ⟨x2, hx2⟩ : ∃ x, x = y4 + y5 * 4294967296 := ⟨_, rfl⟩
        obtain ⟨x3, hx3⟩ : ∃ x, x = y6 + y7 * 4294967296 := ⟨_, rfl⟩
        rw [← hx0] at o0 d0 HW; rw [← hx1] at o1 d1 HW; rw [← hx2] at o2 d2 HW; rw [← hx3] at o3 d3 HW
        have HW2 : Hid (uw x3 x2 x1 x0 = val ds) := HW
        clear HC HW hx0 hx1 hx2 hx3 hy0 hy1 hy2 hy3 hy4 hy5 hy6 hy7 b0 b1 b2 b3 b4 b5 b6 b7
        go_wp2
        go_region_held3 (fun w' => w'.cell? ⟨w1.heap.size, 0, none⟩ = some (.int .u64 y0) ∧ w'.cell? ⟨w1.heap.size, 1, none⟩ = some (.int .u64 y1) ∧ w'.cell? ⟨w1.heap.size, 2, none⟩ = some (.int .u64 y2) ∧ w'.cell? ⟨w1.heap.size, 3, none⟩ = some (.int .u64 y3) ∧ w'.cell? ⟨w1.heap.size, 4, none⟩ = some (.int .u64 y4) ∧ w'.cell? ⟨w1.heap.size, 5, none⟩ = some (.int .u64 y5) ∧ w'.cell? ⟨w1.heap.size, 6, none⟩ = some (.int .u64 y6) ∧ w'.cell? ⟨w1.heap.size, 7, none⟩ = some (.int .u64 y7)) (first | exact ⟨e0, e1, e2, e3, e4, e5, e6, e7⟩ | exact keep8 hne e0 e1 e2 e3 e4 e5 e6 e7) (fail)
        all_goals go_wp2
        all_goals refine bodyPost_ret (v := .tuple #[.agg #[.int .u64 x3, .int .u64 x2, .int .u64 x1, .int .u64 x0], .bool true]) (by simp [results, Try.results48, go_sem, g0, g1, g2, g3]) rfl ?_
        all_goals exact tell_ok d3 d2 d1 d0 HW2.out HS.out (by first | exact (tell_below HBB.out (Nat.le_succ _)).drew | exact tell_below HBB.out (Nat.le_succ _))
  · have hcmp : 0 < cmpI (z.natAbs : Int) 57896044618658097711785492504343953926634992332820282019728792003956564819968 := by unfold cmpI; rw [if_neg (by omega), if_pos (by omega)]; omega
    generalize cmpI (z.natAbs : Int) 57896044618658097711785492504343953926634992332820282019728792003956564819968 = cc at hcmp ⊢
    have HT : Hid (told z = false) := by show _ = _; unfold told; rw [decide_eq_false_iff_not]; omega
    obtain ⟨c0, c1, c2, c3, f0, f1, f2, f3, hz, hB2⟩ := res4' (R := w.heap.size + 1) (by simp) (hA1.mono (by simp))
    have HB : Hid (Below w.heap.size w wb) := ((Below.refl _ _).alloc (Nat.le_refl _) _).trans (hB2.mono (by simp))
    clear hRd1 hA1 hB2 hL0 hD0 HV0
    go_wp2_with fail
    refine bodyPost_ret (v := .tuple #[.agg #[.int .u64 0, .int .u64 0, .int .u64 0, .int .u64 0], .bool false]) (by simp [results, Try.results48, go_sem, c0, c1, c2, c3]) rfl ?_
    exact ⟨tell_below HB.out (Nat.le_succ _), Or.inr ⟨HT.out, rfl⟩⟩
end Go.Proofs.Ytnnojeggjnddpaa

/- The walks of the sign of four words, by the model and by the program, and of the law over both. -/
namespace Go.Proofs.Ytnnojeggjnddpaa
open Go.RowKit
def BoolP (b : Bool) (w : World) (e : Ending) (w' : World) : Prop := e = .returned (.bool b) ∧ Below w.heap.size w w'
end Go.Proofs.Ytnnojeggjnddpaa

/- The walks of a number of four words made from an integer, by the model and by the program, and of the law over both. -/
namespace Go.Proofs.Ytnnojeggjnddpaa
open Go.RowKit
theorem toW_any (s : Bool) (ao : Option Addr) (n cap : Nat) (ds : List Int) (z : Int) (k : Nat) (w : World) (h : IsNum w s ao n cap ds z k) (hk : k ≤ 1000000) :
    Calls Try.prog 48 #[.agg #[.bool s, .slice ao n cap]] w (TellP z w) := by
  by_cases hz : z < 0
  · have hs : s = true := by rw [h.neg]; simpa using hz
    subst hs
    exact toW_neg ao n cap ds z k w hz h hk
  · have hs : s = false := by rw [h.neg]; simpa using hz
    subst hs
    exact toW_pos ao n cap ds z k w (by omega) h hk
set_option maxRecDepth 100000 in
set_option maxHeartbeats 400000 in
theorem eqWide_same (a3 a2 a1 a0 : Int) (w : World) :
    Calls Try.prog 17 #[.agg #[.int .u64 a3, .int .u64 a2, .int .u64 a1, .int .u64 a0], .agg #[.int .u64 a3, .int .u64 a2, .int .u64 a1, .int .u64 a0]] w (BoolP true w) := by
  have h3 : (a3 != a3) = false := by simp
  have h2 : (a2 != a2) = false := by simp
  have h1 : (a1 != a1) = false := by simp
  have h0 : (a0 != a0) = false := by simp
  go_enter Try.func17, Try.ntmps17
  go_wp2
  go_ret
  exact ⟨rfl, ((Below.refl _ _).alloc (Nat.le_refl _) _).alloc (by simp) _⟩
end Go.Proofs.Ytnnojeggjnddpaa

/- Four words in a block of memory, and what is kept of them. -/
namespace Go.Proofs.Ytnnojeggjnddpaa
open Go.RowKit
/-- Four words lie in the block g. -/
structure Wd (W : World) (g : Nat) (a3 a2 a1 a0 : Int) : Prop where
  c0 : W.cell? ⟨g, 0, none⟩ = some (.int .u64 a3)
  c1 : W.cell? ⟨g, 1, none⟩ = some (.int .u64 a2)
  c2 : W.cell? ⟨g, 2, none⟩ = some (.int .u64 a1)
  c3 : W.cell? ⟨g, 3, none⟩ = some (.int .u64 a0)
  f0 : W.frozen? ⟨g, 0, none⟩ = false
  f1 : W.frozen? ⟨g, 1, none⟩ = false
  f2 : W.frozen? ⟨g, 2, none⟩ = false
  f3 : W.frozen? ⟨g, 3, none⟩ = false
  lt : g < W.heap.size
theorem Wd.step {W W' : World} {g : Nat} {a3 a2 a1 a0 : Int} (h : Wd W g a3 a2 a1 a0) (hb : Below W.heap.size W W') : Wd W' g a3 a2 a1 a0 := by
  have hc := fun o => hb.cell (p := ⟨g, o, none⟩) h.lt
  have hf := fun o => hb.frozen (p := ⟨g, o, none⟩) h.lt
  exact ⟨(hc _).trans h.c0, (hc _).trans h.c1, (hc _).trans h.c2, (hc _).trans h.c3, (hf _).trans h.f0, (hf _).trans h.f1, (hf _).trans h.f2, (hf _).trans h.f3, Nat.lt_of_lt_of_le h.lt hb.size⟩
theorem Wd.drew {W : World} {g : Nat} {a3 a2 a1 a0 : Int} (h : Wd W g a3 a2 a1 a0) : Wd W.drew g a3 a2 a1 a0 := ⟨h.c0, h.c1, h.c2, h.c3, h.f0, h.f1, h.f2, h.f3, h.lt⟩
theorem Wd.alloc {W : World} {g : Nat} {a3 a2 a1 a0 : Int} (h : Wd W g a3 a2 a1 a0) (o : Obj) : Wd (W.alloc o) g a3 a2 a1 a0 := h.step ((Below.refl _ _).alloc (Nat.le_refl _) o)
theorem Wd.new (W : World) (a3 a2 a1 a0 : Int) (T : TypeId) {g : Nat} (hg : g = W.heap.size) : Wd (W.alloc (Obj.cells #[Value.int IntKind.u64 a3, Value.int IntKind.u64 a2, Value.int IntKind.u64 a1, Value.int IntKind.u64 a0] T)) g a3 a2 a1 a0 := by
  subst hg
  exact ⟨by simp [go_sem], by simp [go_sem], by simp [go_sem], by simp [go_sem], by simp [go_sem], by simp [go_sem], by simp [go_sem], by simp [go_sem], by simp⟩
theorem Wd.set {W : World} {g R : Nat} {a3 a2 a1 a0 : Int} (h : Wd W g a3 a2 a1 a0) (hne : g ≠ R) (u0 u1 u2 u3 : Value) : Wd ((((W.setCell ⟨R, 0, none⟩ u0).setCell ⟨R, 1, none⟩ u1).setCell ⟨R, 2, none⟩ u2).setCell ⟨R, 3, none⟩ u3) g a3 a2 a1 a0 := by
  have hn : ∀ o j, (⟨R, j, none⟩ : Addr) ≠ ⟨g, o, none⟩ := by intro o j e; simp only [Addr.mk.injEq] at e; exact hne e.1.symm
  have hc : ∀ o, ((((W.setCell ⟨R, 0, none⟩ u0).setCell ⟨R, 1, none⟩ u1).setCell ⟨R, 2, none⟩ u2).setCell ⟨R, 3, none⟩ u3).cell? ⟨g, o, none⟩ = W.cell? ⟨g, o, none⟩ := fun o => by
    rw [World.cell?_setCell_other _ _ _ _ (hn o 3), World.cell?_setCell_other _ _ _ _ (hn o 2), World.cell?_setCell_other _ _ _ _ (hn o 1), World.cell?_setCell_other _ _ _ _ (hn o 0)]
  have hf : ∀ o, ((((W.setCell ⟨R, 0, none⟩ u0).setCell ⟨R, 1, none⟩ u1).setCell ⟨R, 2, none⟩ u2).setCell ⟨R, 3, none⟩ u3).frozen? ⟨g, o, none⟩ = W.frozen? ⟨g, o, none⟩ := fun o => by simp [go_sem]
  exact ⟨(hc _).trans h.c0, (hc _).trans h.c1, (hc _).trans h.c2, (hc _).trans h.c3, (hf _).trans h.f0, (hf _).trans h.f1, (hf _).trans h.f2, (hf _).trans h.f3, by simpa [World.setCell] using h.lt⟩
/-- Two boxed numbers of four words, as a call that takes two finds them. -/
structure TwoW (w W : World) (a3 a2 a1 a0 b3 b2 b1 b0 : Int) : Prop where
  a : Wd W w.heap.size a3 a2 a1 a0
  b : Wd W (w.heap.size + 1) b3 b2 b1 b0
  below : Below w.heap.size w W
theorem TwoW.step {w W W' : World} {a3 a2 a1 a0 b3 b2 b1 b0 : Int} (h : TwoW w W a3 a2 a1 a0 b3 b2 b1 b0) (hb : Below W.heap.size W W') : TwoW w W' a3 a2 a1 a0 b3 b2 b1 b0 := ⟨h.a.step hb, h.b.step hb, h.below.trans (hb.mono h.below.size)⟩
theorem TwoW.drew {w W : World} {a3 a2 a1 a0 b3 b2 b1 b0 : Int} (h : TwoW w W a3 a2 a1 a0 b3 b2 b1 b0) : TwoW w W.drew a3 a2 a1 a0 b3 b2 b1 b0 := ⟨h.a.drew, h.b.drew, h.below.drew⟩
theorem TwoW.alloc {w W : World} {a3 a2 a1 a0 b3 b2 b1 b0 : Int} (h : TwoW w W a3 a2 a1 a0 b3 b2 b1 b0) (o : Obj) : TwoW w (W.alloc o) a3 a2 a1 a0 b3 b2 b1 b0 := h.step ((Below.refl _ _).alloc (Nat.le_refl _) o)
theorem TwoW.set {w W : World} {R : Nat} {a3 a2 a1 a0 b3 b2 b1 b0 : Int} (h : TwoW w W a3 a2 a1 a0 b3 b2 b1 b0) (hR : w.heap.size + 1 < R) (u0 u1 u2 u3 : Value) : TwoW w ((((W.setCell ⟨R, 0, none⟩ u0).setCell ⟨R, 1, none⟩ u1).setCell ⟨R, 2, none⟩ u2).setCell ⟨R, 3, none⟩ u3) a3 a2 a1 a0 b3 b2 b1 b0 :=
  ⟨h.a.set (by omega) _ _ _ _, h.b.set (by omega) _ _ _ _, tell_below h.below (by omega)⟩
/-- What a region that reads both holds on to. -/
def Cells8 (w W : World) (a3 a2 a1 a0 b3 b2 b1 b0 : Int) : Prop :=
  W.cell? ⟨w.heap.size, 0, none⟩ = some (.int .u64 a3) ∧ W.cell? ⟨w.heap.size, 1, none⟩ = some (.int .u64 a2) ∧ W.cell? ⟨w.heap.size, 2, none⟩ = some (.int .u64 a1) ∧ W.cell? ⟨w.heap.size, 3, none⟩ = some (.int .u64 a0) ∧
  W.cell? ⟨w.heap.size + 1, 0, none⟩ = some (.int .u64 b3) ∧ W.cell? ⟨w.heap.size + 1, 1, none⟩ = some (.int .u64 b2) ∧ W.cell? ⟨w.heap.size + 1, 2, none⟩ = some (.int .u64 b1) ∧ W.cell? ⟨w.heap.size + 1, 3, none⟩ = some (.int .u64 b0)
theorem TwoW.cells {w W : World} {a3 a2 a1 a0 b3 b2 b1 b0 : Int} (h : TwoW w W a3 a2 a1 a0 b3 b2 b1 b0) : Cells8 w W a3 a2 a1 a0 b3 b2 b1 b0 := ⟨h.a.c0, h.a.c1, h.a.c2, h.a.c3, h.b.c0, h.b.c1, h.b.c2, h.b.c3⟩
end Go.Proofs.Ytnnojeggjnddpaa

/- The walks of plus and minus of 4 words. -/
namespace Go.Proofs.Ytnnojeggjnddpaa
open Go.RowKit
/-- The difference of two rows of words, cut off. -/
def MinusP (xs ys : List Int) (w : World) (e : Ending) (w' : World) : Prop :=
  ∃ (zs : List Int) (c : Int), e = .returned (.agg (zs.map (Value.int .u64)).toArray) ∧ zs.length = xs.length ∧ Words zs ∧ 0 ≤ c ∧ c ≤ 1 ∧ val64 zs = val64 xs - val64 ys + c * pw64 xs.length ∧ Below w.heap.size w w'
theorem Row.drewd {w : World} {A off : Nat} {xs : List Int} (h : Row w A off xs) : Row w.drew A off xs := row_drew h
theorem row_other {w w' : World} {A B oa ob n : Nat} {xs : List Int} (h : Row w B ob xs) (hw : Wrote A oa n w w') (hne : B ≠ A) : Row w' B ob xs :=
  ⟨fun i hi => (hw.cellOther hne _).trans (h.cell i hi), fun i hi => (hw.frzOther hne _).trans (h.frz i hi), by rw [hw.size]; exact h.lt⟩
theorem list4 {l : List Int} (h : l.length = 4) : ∃ z0 z1 z2 z3, l = [z0, z1, z2, z3] := by
  match l, h with
  | [z0, z1, z2, z3], _ => exact ⟨z0, z1, z2, z3, rfl⟩
end Go.Proofs.Ytnnojeggjnddpaa

/- The walks of words made from four words and back. -/
namespace Go.Proofs.Ytnnojeggjnddpaa
open Go.RowKit
theorem words4 {a0 a1 a2 a3 : Int} (h0 : Word a0) (h1 : Word a1) (h2 : Word a2) (h3 : Word a3) : Words [a0, a1, a2, a3] := by
  intro d hd
  simp only [List.mem_cons, List.not_mem_nil, or_false] at hd
  rcases hd with rfl | rfl | rfl | rfl
  · exact h0
  · exact h1
  · exact h2
  · exact h3
theorem words4_of {a0 a1 a2 a3 : Int} (h : Words [a0, a1, a2, a3]) : Word a0 ∧ Word a1 ∧ Word a2 ∧ Word a3 := ⟨h _ (by simp), h _ (by simp), h _ (by simp), h _ (by simp)⟩
end Go.Proofs.Ytnnojeggjnddpaa

/- The walks of the program's sum and difference of four words. -/
namespace Go.Proofs.Ytnnojeggjnddpaa
open Go.RowKit
theorem Wd.stored {W : World} {g : Nat} {a3 a2 a1 a0 : Int} (h : Wd W g a3 a2 a1 a0) (z3 z2 z1 z0 : Int) : Wd ((((W.setCell ⟨g, 0, none⟩ (.int .u64 z3)).setCell ⟨g, 1, none⟩ (.int .u64 z2)).setCell ⟨g, 2, none⟩ (.int .u64 z1)).setCell ⟨g, 3, none⟩ (.int .u64 z0)) g z3 z2 z1 z0 := by
  have e0 := h.c0; have e1 := h.c1; have e2 := h.c2; have e3 := h.c3
  have p0 := h.f0; have p1 := h.f1; have p2 := h.f2; have p3 := h.f3
  exact ⟨by simp [go_sem, e0], by simp [go_sem, e1], by simp [go_sem, e2], by simp [go_sem, e3], by simp [go_sem, p0], by simp [go_sem, p1], by simp [go_sem, p2], by simp [go_sem, p3], by simpa [World.setCell] using h.lt⟩
end Go.Proofs.Ytnnojeggjnddpaa

/- The walk of the program's comparison of four words. -/
namespace Go.Proofs.Ytnnojeggjnddpaa
open Go.RowKit
end Go.Proofs.Ytnnojeggjnddpaa

/- The walks of a number's size without its sign, of the count of its words and of its bits, and of the law over them. -/
namespace Go.Proofs.Ytnnojeggjnddpaa
open Go.RowKit
theorem wd0 : Word 0 := ⟨by decide, by decide⟩
end Go.Proofs.Ytnnojeggjnddpaa

/- A tenth of a number of four words, and the rest. -/
namespace Go.Proofs.Ytnnojeggjnddpaa
open Go.RowKit
end Go.Proofs.Ytnnojeggjnddpaa

/- The words of a number, as its bits lie. -/
namespace Go.Proofs.Ytnnojeggjnddpaa
open Go.RowKit
/-- The words of a number, as its bits lie. -/
def ww0 (z : Int) : Int := z % 18446744073709551616
def ww1 (z : Int) : Int := z / 18446744073709551616 % 18446744073709551616
def ww2 (z : Int) : Int := z / 340282366920938463463374607431768211456 % 18446744073709551616
def ww3 (z : Int) : Int := z / 6277101735386680763835789423207666416102355444464034512896 % 18446744073709551616
theorem wd_of {a3 a2 a1 a0 z : Int} (h3 : Word a3) (h2 : Word a2) (h1 : Word a1) (h0 : Word a0) (h : sw a3 a2 a1 a0 = z) : a3 = ww3 z ∧ a2 = ww2 z ∧ a1 = ww1 z ∧ a0 = ww0 z := by
  unfold Word sw uw ww3 ww2 ww1 ww0 at *
  split at h <;> omega
abbrev W4 (z : Int) : Value := .agg #[.int .u64 (ww3 z), .int .u64 (ww2 z), .int .u64 (ww1 z), .int .u64 (ww0 z)]
def VP (v : Value) (w : World) (e : Ending) (w' : World) : Prop := e = .returned v ∧ Below w.heap.size w w'
end Go.Proofs.Ytnnojeggjnddpaa

/- Two rows of four values, and a flag, laid behind the arguments. -/
namespace Go.Proofs.Ytnnojeggjnddpaa
open Go.RowKit
theorem Blk.stored4g {W : World} {g : Nat} {z0 z1 z2 z3 : Value} (G : Blk W g [z0, z1, z2, z3]) (v0 v1 v2 v3 : Value) : Blk ((((W.setCell ⟨g, 0, none⟩ v0).setCell ⟨g, 1, none⟩ v1).setCell ⟨g, 2, none⟩ v2).setCell ⟨g, 3, none⟩ v3) g [v0, v1, v2, v3] :=
  (((G.setI 0 (by simp) v0).setI 1 (by simp) v1).setI 2 (by simp) v2).setI 3 (by simp) v3
def CutY (w wx : World) (vss : List (List Value)) (xs ys : List Value) (b : Bool) (p q r : Value) : Prop :=
  ∃ g g', p = (.pointer (some ⟨g, 0, none⟩)) ∧ q = (.pointer (some ⟨g', 0, none⟩)) ∧ r = .bool b ∧ g ≠ g' ∧ w.heap.size + vss.length ≤ g ∧ w.heap.size + vss.length ≤ g' ∧ ArgsB w wx vss ∧ Blk wx g xs ∧ Blk wx g' ys
theorem CutY.drew {w wx : World} {vss : List (List Value)} {xs ys : List Value} {b : Bool} {p q r : Value} (h : CutY w wx vss xs ys b p q r) : CutY w wx.drew vss xs ys b p q r := by
  obtain ⟨g, g', e, f, i, n, l, l', A, B, C⟩ := h
  exact ⟨g, g', e, f, i, n, l, l', A.drew, B.drew, C.drew⟩
end Go.Proofs.Ytnnojeggjnddpaa

/- The program's text of a number. -/
namespace Go.Proofs.Ytnnojeggjnddpaa
open Go.RowKit
/-- Bytes as they lie in a row. -/
def byV (l : List Nat) : List Value := l.map fun (n : Nat) => Value.int .u8 (n : Int)
theorem byV_set (k : Nat) (ts : List Nat) (b : Nat) : (byV (List.replicate (k + 1) 0 ++ ts)).set k (.int .u8 (b : Int)) = byV (List.replicate k 0 ++ b :: ts) := by
  unfold byV
  rw [show Value.int .u8 (b : Int) = (fun (n : Nat) => Value.int .u8 (n : Int)) b from rfl, ← List.map_set]
  congr 1
  rw [List.replicate_succ', List.append_assoc, List.set_append_right _ _ (by simp)]
  simp
theorem byV_len (l : List Nat) : (byV l).length = l.length := by simp [byV]
/-- What lies in memory while a text is written from its end on. -/
structure WtI (w wr : World) (g : Nat) (n : Nat) (a : List Value) (k : Nat) (zs : List Int) (d : Nat) (ts : List Nat) : Prop where
  below : Below w.heap.size w wr
  ba : Blk wr w.heap.size a
  bt : Blk wr (w.heap.size + 1) (byV (List.replicate k 0 ++ ts))
  bs : Blk wr g (zs.map (Value.int .u64))
  zl : zs.length = 4
  zw : Words zs
  gl : w.heap.size + 1 < g
  len : k + ts.length = 78
  d10 : d < 10
  eq : dgs n = dg (val64 zs).toNat ++ (48 + d) :: ts
theorem WtI.next {w wr w1 : World} {g n : Nat} {a : List Value} {k : Nat} {zs ys : List Int} {d e : Nat} {ts : List Nat} (h : WtI w wr g n a (k + 1) zs d ts) (hv : 0 < val64 zs) (hB : Below (wr.setCell ⟨w.heap.size + 1, k, none⟩ (.int .u8 (48 + (d : Int)))).heap.size (wr.setCell ⟨w.heap.size + 1, k, none⟩ (.int .u8 (48 + (d : Int)))) w1) {y0 y1 y2 y3 : Int} (hy : ys = [y0, y1, y2, y3]) (yw : Words ys) (yv : val64 ys = val64 zs / 10) (he : (e : Int) = val64 zs % 10) :
    WtI w ((((w1.setCell ⟨g, 0, none⟩ (.int .u64 y0)).setCell ⟨g, 1, none⟩ (.int .u64 y1)).setCell ⟨g, 2, none⟩ (.int .u64 y2)).setCell ⟨g, 3, none⟩ (.int .u64 y3)) g n a k ys e ((48 + d) :: ts) := by
  have hgl := h.gl
  have hsz := h.below.size
  have hg : w.heap.size ≤ g := by omega
  have B1 := (h.below.setCell (p := ⟨w.heap.size + 1, k, none⟩) (by show w.heap.size ≤ w.heap.size + 1; omega) (.int .u8 (48 + (d : Int))))
  have B2 := B1.trans (hB.mono B1.size)
  have BA := (h.ba.setO (p := ⟨w.heap.size + 1, k, none⟩) (by show w.heap.size ≠ w.heap.size + 1; omega) (.int .u8 (48 + (d : Int)))).step hB
  have BT0 := h.bt.setI k (by rw [byV_len]; simp; omega) (.int .u8 (48 + (d : Int)))
  rw [show 48 + (d : Int) = ((48 + d : Nat) : Int) by omega, byV_set, ← show 48 + (d : Int) = ((48 + d : Nat) : Int) by omega] at BT0
  have BT := BT0.step hB
  have BS := (h.bs.setO (p := ⟨w.heap.size + 1, k, none⟩) (by show g ≠ w.heap.size + 1; omega) (.int .u8 (48 + (d : Int)))).step hB
  obtain ⟨z0, z1, z2, z3, hz⟩ := list4 h.zl
  rw [hz] at BS
  refine ⟨(((B2.setCell (p := ⟨g, 0, none⟩) hg _).setCell (p := ⟨g, 1, none⟩) hg _).setCell (p := ⟨g, 2, none⟩) hg _).setCell (p := ⟨g, 3, none⟩) hg _, BA.set4 (by omega), BT.set4 (by omega), ?_, by rw [hy]; rfl, yw, hgl, by have := h.len; simp; omega, by omega, ?_⟩
  · rw [hy]
    exact Blk.stored4g BS _ _ _ _
  · rw [h.eq, dg_step (n := (val64 zs).toNat) (by omega), yv]
    rw [show (val64 zs).toNat / 10 = (val64 zs / 10).toNat by omega, show (val64 zs).toNat % 10 = e by omega, List.append_assoc]
    rfl
end Go.Proofs.Ytnnojeggjnddpaa

/- The walks of plus and minus of 8 words. -/
namespace Go.Proofs.Ytnnojeggjnddpaa
open Go.RowKit
theorem list8 {l : List Int} (h : l.length = 8) : ∃ z0 z1 z2 z3 z4 z5 z6 z7, l = [z0, z1, z2, z3, z4, z5, z6, z7] := by
  match l, h with
  | [z0, z1, z2, z3, z4, z5, z6, z7], _ => exact ⟨z0, z1, z2, z3, z4, z5, z6, z7, rfl⟩
theorem row_of8 {w : World} {A : Nat} {x0 x1 x2 x3 x4 x5 x6 x7 : Int} (hl : A < w.heap.size) (h0 : w.cell? ⟨A, 0, none⟩ = some (.int .u64 x0)) (h1 : w.cell? ⟨A, 1, none⟩ = some (.int .u64 x1)) (h2 : w.cell? ⟨A, 2, none⟩ = some (.int .u64 x2)) (h3 : w.cell? ⟨A, 3, none⟩ = some (.int .u64 x3)) (h4 : w.cell? ⟨A, 4, none⟩ = some (.int .u64 x4)) (h5 : w.cell? ⟨A, 5, none⟩ = some (.int .u64 x5)) (h6 : w.cell? ⟨A, 6, none⟩ = some (.int .u64 x6)) (h7 : w.cell? ⟨A, 7, none⟩ = some (.int .u64 x7)) (f0 : w.frozen? ⟨A, 0, none⟩ = false) (f1 : w.frozen? ⟨A, 1, none⟩ = false) (f2 : w.frozen? ⟨A, 2, none⟩ = false) (f3 : w.frozen? ⟨A, 3, none⟩ = false) (f4 : w.frozen? ⟨A, 4, none⟩ = false) (f5 : w.frozen? ⟨A, 5, none⟩ = false) (f6 : w.frozen? ⟨A, 6, none⟩ = false) (f7 : w.frozen? ⟨A, 7, none⟩ = false) : Row w A 0 [x0, x1, x2, x3, x4, x5, x6, x7] := by
  refine ⟨fun i hi => ?_, fun i hi => ?_, hl⟩
  · simp only [Nat.zero_add]
    match i, hi with
    | 0, _ => exact h0
    | 1, _ => exact h1
    | 2, _ => exact h2
    | 3, _ => exact h3
    | 4, _ => exact h4
    | 5, _ => exact h5
    | 6, _ => exact h6
    | 7, _ => exact h7
  · simp only [Nat.zero_add]
    match i, hi with
    | 0, _ => exact f0
    | 1, _ => exact f1
    | 2, _ => exact f2
    | 3, _ => exact f3
    | 4, _ => exact f4
    | 5, _ => exact f5
    | 6, _ => exact f6
    | 7, _ => exact f7
theorem row_cells8 {w : World} {A : Nat} {x0 x1 x2 x3 x4 x5 x6 x7 : Int} (h : Row w A 0 [x0, x1, x2, x3, x4, x5, x6, x7]) : w.cell? ⟨A, 0, none⟩ = some (.int .u64 x0) ∧ w.cell? ⟨A, 1, none⟩ = some (.int .u64 x1) ∧ w.cell? ⟨A, 2, none⟩ = some (.int .u64 x2) ∧ w.cell? ⟨A, 3, none⟩ = some (.int .u64 x3) ∧ w.cell? ⟨A, 4, none⟩ = some (.int .u64 x4) ∧ w.cell? ⟨A, 5, none⟩ = some (.int .u64 x5) ∧ w.cell? ⟨A, 6, none⟩ = some (.int .u64 x6) ∧ w.cell? ⟨A, 7, none⟩ = some (.int .u64 x7) :=
  ⟨by simpa using h.cell 0 (by simp), by simpa using h.cell 1 (by simp), by simpa using h.cell 2 (by simp), by simpa using h.cell 3 (by simp), by simpa using h.cell 4 (by simp), by simpa using h.cell 5 (by simp), by simpa using h.cell 6 (by simp), by simpa using h.cell 7 (by simp)⟩
theorem row_frz8 {w : World} {A : Nat} {x0 x1 x2 x3 x4 x5 x6 x7 : Int} (h : Row w A 0 [x0, x1, x2, x3, x4, x5, x6, x7]) : w.frozen? ⟨A, 0, none⟩ = false ∧ w.frozen? ⟨A, 1, none⟩ = false ∧ w.frozen? ⟨A, 2, none⟩ = false ∧ w.frozen? ⟨A, 3, none⟩ = false ∧ w.frozen? ⟨A, 4, none⟩ = false ∧ w.frozen? ⟨A, 5, none⟩ = false ∧ w.frozen? ⟨A, 6, none⟩ = false ∧ w.frozen? ⟨A, 7, none⟩ = false :=
  ⟨by simpa using h.frz 0 (by simp), by simpa using h.frz 1 (by simp), by simpa using h.frz 2 (by simp), by simpa using h.frz 3 (by simp), by simpa using h.frz 4 (by simp), by simpa using h.frz 5 (by simp), by simpa using h.frz 6 (by simp), by simpa using h.frz 7 (by simp)⟩
theorem minus8_ret {w w1 : World} {xs ys : List Int} {e : Ending} {u0 u1 u2 u3 u4 u5 u6 u7 : Value} (h : MinusP xs ys w e w1) : MinusP xs ys w e ((((((((w1.setCell ⟨w.heap.size + 1 + 1, 0, none⟩ u0).setCell ⟨w.heap.size + 1 + 1, 1, none⟩ u1).setCell ⟨w.heap.size + 1 + 1, 2, none⟩ u2).setCell ⟨w.heap.size + 1 + 1, 3, none⟩ u3).setCell ⟨w.heap.size + 1 + 1, 4, none⟩ u4).setCell ⟨w.heap.size + 1 + 1, 5, none⟩ u5).setCell ⟨w.heap.size + 1 + 1, 6, none⟩ u6).setCell ⟨w.heap.size + 1 + 1, 7, none⟩ u7) := by
  obtain ⟨zs, c, h1, h2, h3, h4, h5, h6, h7⟩ := h
  exact ⟨zs, c, h1, h2, h3, h4, h5, h6, ((((((((h7.setCell (by show w.heap.size ≤ w.heap.size + 1 + 1; omega) _).setCell (by show w.heap.size ≤ w.heap.size + 1 + 1; omega) _).setCell (by show w.heap.size ≤ w.heap.size + 1 + 1; omega) _).setCell (by show w.heap.size ≤ w.heap.size + 1 + 1; omega) _).setCell (by show w.heap.size ≤ w.heap.size + 1 + 1; omega) _).setCell (by show w.heap.size ≤ w.heap.size + 1 + 1; omega) _).setCell (by show w.heap.size ≤ w.heap.size + 1 + 1; omega) _).setCell (by show w.heap.size ≤ w.heap.size + 1 + 1; omega) _)⟩
set_option maxRecDepth 100000 in
set_option maxHeartbeats 2000000 in
theorem minus8 (x0 x1 x2 x3 x4 x5 x6 x7 y0 y1 y2 y3 y4 y5 y6 y7 : Int) (wx : Words [x0, x1, x2, x3, x4, x5, x6, x7]) (wy : Words [y0, y1, y2, y3, y4, y5, y6, y7]) (w : World) :
    Calls Try.prog 90 #[.agg #[.int .u64 x0, .int .u64 x1, .int .u64 x2, .int .u64 x3, .int .u64 x4, .int .u64 x5, .int .u64 x6, .int .u64 x7], .agg #[.int .u64 y0, .int .u64 y1, .int .u64 y2, .int .u64 y3, .int .u64 y4, .int .u64 y5, .int .u64 y6, .int .u64 y7]] w (MinusP [x0, x1, x2, x3, x4, x5, x6, x7] [y0, y1, y2, y3, y4, y5, y6, y7] w) := by
  have rx : Row (((w.alloc (Obj.cells #[Value.int IntKind.u64 x0, Value.int IntKind.u64 x1, Value.int IntKind.u64 x2, Value.int IntKind.u64 x3, Value.int IntKind.u64 x4, Value.int IntKind.u64 x5, Value.int IntKind.u64 x6, Value.int IntKind.u64 x7] 82)).alloc (Obj.cells #[Value.int IntKind.u64 y0, Value.int IntKind.u64 y1, Value.int IntKind.u64 y2, Value.int IntKind.u64 y3, Value.int IntKind.u64 y4, Value.int IntKind.u64 y5, Value.int IntKind.u64 y6, Value.int IntKind.u64 y7] 82)).alloc (Obj.cells #[Value.int IntKind.u64 0, Value.int IntKind.u64 0, Value.int IntKind.u64 0, Value.int IntKind.u64 0, Value.int IntKind.u64 0, Value.int IntKind.u64 0, Value.int IntKind.u64 0, Value.int IntKind.u64 0] 82)) w.heap.size 0 [x0, x1, x2, x3, x4, x5, x6, x7] := row_of8 (by simp <;> omega) (by simp [go_sem]) (by simp [go_sem]) (by simp [go_sem]) (by simp [go_sem]) (by simp [go_sem]) (by simp [go_sem]) (by simp [go_sem]) (by simp [go_sem]) (by simp [go_sem]) (by simp [go_sem]) (by simp [go_sem]) (by simp [go_sem]) (by simp [go_sem]) (by simp [go_sem]) (by simp [go_sem]) (by simp [go_sem])
  have ry : Row (((w.alloc (Obj.cells #[Value.int IntKind.u64 x0, Value.int IntKind.u64 x1, Value.int IntKind.u64 x2, Value.int IntKind.u64 x3, Value.int IntKind.u64 x4, Value.int IntKind.u64 x5, Value.int IntKind.u64 x6, Value.int IntKind.u64 x7] 82)).alloc (Obj.cells #[Value.int IntKind.u64 y0, Value.int IntKind.u64 y1, Value.int IntKind.u64 y2, Value.int IntKind.u64 y3, Value.int IntKind.u64 y4, Value.int IntKind.u64 y5, Value.int IntKind.u64 y6, Value.int IntKind.u64 y7] 82)).alloc (Obj.cells #[Value.int IntKind.u64 0, Value.int IntKind.u64 0, Value.int IntKind.u64 0, Value.int IntKind.u64 0, Value.int IntKind.u64 0, Value.int IntKind.u64 0, Value.int IntKind.u64 0, Value.int IntKind.u64 0] 82)) (w.heap.size + 1) 0 [y0, y1, y2, y3, y4, y5, y6, y7] := row_of8 (by simp <;> omega) (by simp [go_sem]) (by simp [go_sem]) (by simp [go_sem]) (by simp [go_sem]) (by simp [go_sem]) (by simp [go_sem]) (by simp [go_sem]) (by simp [go_sem]) (by simp [go_sem]) (by simp [go_sem]) (by simp [go_sem]) (by simp [go_sem]) (by simp [go_sem]) (by simp [go_sem]) (by simp [go_sem]) (by simp [go_sem])
  have rr : Row (((w.alloc (Obj.cells #[Value.int IntKind.u64 x0, Value.int IntKind.u64 x1, Value.int IntKind.u64 x2, Value.int IntKind.u64 x3, Value.int IntKind.u64 x4, Value.int IntKind.u64 x5, Value.int IntKind.u64 x6, Value.int IntKind.u64 x7] 82)).alloc (Obj.cells #[Value.int IntKind.u64 y0, Value.int IntKind.u64 y1, Value.int IntKind.u64 y2, Value.int IntKind.u64 y3, Value.int IntKind.u64 y4, Value.int IntKind.u64 y5, Value.int IntKind.u64 y6, Value.int IntKind.u64 y7] 82)).alloc (Obj.cells #[Value.int IntKind.u64 0, Value.int IntKind.u64 0, Value.int IntKind.u64 0, Value.int IntKind.u64 0, Value.int IntKind.u64 0, Value.int IntKind.u64 0, Value.int IntKind.u64 0, Value.int IntKind.u64 0] 82)) (w.heap.size + 1 + 1) 0 [0, 0, 0, 0, 0, 0, 0, 0] := row_of8 (by simp <;> omega) (by simp [go_sem]) (by simp [go_sem]) (by simp [go_sem]) (by simp [go_sem]) (by simp [go_sem]) (by simp [go_sem]) (by simp [go_sem]) (by simp [go_sem]) (by simp [go_sem]) (by simp [go_sem]) (by simp [go_sem]) (by simp [go_sem]) (by simp [go_sem]) (by simp [go_sem]) (by simp [go_sem]) (by simp [go_sem])
  have hB : Below w.heap.size w (((w.alloc (Obj.cells #[Value.int IntKind.u64 x0, Value.int IntKind.u64 x1, Value.int IntKind.u64 x2, Value.int IntKind.u64 x3, Value.int IntKind.u64 x4, Value.int IntKind.u64 x5, Value.int IntKind.u64 x6, Value.int IntKind.u64 x7] 82)).alloc (Obj.cells #[Value.int IntKind.u64 y0, Value.int IntKind.u64 y1, Value.int IntKind.u64 y2, Value.int IntKind.u64 y3, Value.int IntKind.u64 y4, Value.int IntKind.u64 y5, Value.int IntKind.u64 y6, Value.int IntKind.u64 y7] 82)).alloc (Obj.cells #[Value.int IntKind.u64 0, Value.int IntKind.u64 0, Value.int IntKind.u64 0, Value.int IntKind.u64 0, Value.int IntKind.u64 0, Value.int IntKind.u64 0, Value.int IntKind.u64 0, Value.int IntKind.u64 0] 82)) := (((Below.refl _ _).alloc (Nat.le_refl _) _).alloc (by simp) _).alloc (by simp; omega) _
  go_enter Try.func90, Try.ntmps90
  go_wp2
  generalize ((w.alloc (Obj.cells #[Value.int IntKind.u64 x0, Value.int IntKind.u64 x1, Value.int IntKind.u64 x2, Value.int IntKind.u64 x3, Value.int IntKind.u64 x4, Value.int IntKind.u64 x5, Value.int IntKind.u64 x6, Value.int IntKind.u64 x7] 82)).alloc (Obj.cells #[Value.int IntKind.u64 y0, Value.int IntKind.u64 y1, Value.int IntKind.u64 y2, Value.int IntKind.u64 y3, Value.int IntKind.u64 y4, Value.int IntKind.u64 y5, Value.int IntKind.u64 y6, Value.int IntKind.u64 y7] 82)).alloc (Obj.cells #[Value.int IntKind.u64 0, Value.int IntKind.u64 0, Value.int IntKind.u64 0, Value.int IntKind.u64 0, Value.int IntKind.u64 0, Value.int IntKind.u64 0, Value.int IntKind.u64 0, Value.int IntKind.u64 0] 82) = W at *
  go_region_with ((go_at_call 110; refine (takeWords_any w.heap.size (w.heap.size + 1) 0 0 8 8 8 8 [x0, x1, x2, x3, x4, x5, x6, x7] [y0, y1, y2, y3, y4, y5, y6, y7] _ rfl rfl wx wy (row_drew rx) (row_drew ry) (by omega) (by omega)).mono ?_; rintro e w1 ⟨zs, c, rfl, h1, h2, h3, h4, h5, h6, h7⟩))
  obtain ⟨z0, z1, z2, z3, z4, z5, z6, z7, rfl⟩ := list8 h1
  have HP : Hid (MinusP [x0, x1, x2, x3, x4, x5, x6, x7] [y0, y1, y2, y3, y4, y5, y6, y7] w (.returned (.agg #[.int .u64 z0, .int .u64 z1, .int .u64 z2, .int .u64 z3, .int .u64 z4, .int .u64 z5, .int .u64 z6, .int .u64 z7])) w1) := ⟨[z0, z1, z2, z3, z4, z5, z6, z7], c, rfl, rfl, h2, h3, h4, h5, (hB.drew).trans (h7.below (Nat.le_refl _))⟩
  obtain ⟨c0, c1, c2, c3, c4, c5, c6, c7⟩ := row_cells8 h6
  have rr1 := row_other rr.drewd h7 (by omega)
  obtain ⟨g0, g1, g2, g3, g4, g5, g6, g7⟩ := row_cells8 rr1
  obtain ⟨f0, f1, f2, f3, f4, f5, f6, f7⟩ := row_frz8 rr1
  have hne : w.heap.size + 1 + 1 ≠ w.heap.size := by omega
  clear rx ry rr hB h2 h3 h4 h5 h6 h7 h1 rr1
  go_wp2
  refine bodyPost_ret (v := .agg #[.int .u64 z0, .int .u64 z1, .int .u64 z2, .int .u64 z3, .int .u64 z4, .int .u64 z5, .int .u64 z6, .int .u64 z7]) (by simp [results, Try.results90, go_sem, g0, g1, g2, g3, g4, g5, g6, g7]) rfl ?_
  exact minus8_ret HP.out
end Go.Proofs.Ytnnojeggjnddpaa

/- The walks of numbers of eight words: made of four, turned in their sign, told as four; and of the product of two words. -/
namespace Go.Proofs.Ytnnojeggjnddpaa
open Go.RowKit Go.Shelf
theorem mulLays : Lays.n264 Try.prog ⟨fun _ => 87, fun n => if n = 46 then 111 else 22, fun _ => 0⟩ where
  mixed := by kernel_rfl
  f264 := by kernel_rfl
  t46 := by kernel_rfl
  a46 := fun w => by kernel_rfl
  z46 := fun w => by kernel_rfl
  v46 := fun w => by kernel_rfl
  t53 := by kernel_rfl
  a53 := fun w => by kernel_rfl
  z53 := fun w => by kernel_rfl
  v53 := fun w => by kernel_rfl
def MulP (x y : Int) (w : World) (e : Ending) (w' : World) : Prop := e = .returned (.tuple #[.int .u64 (x * y / 18446744073709551616), .int .u64 (x * y % 18446744073709551616)]) ∧ w' = w
theorem mul64 (x y : Int) (hx : Word x) (hy : Word y) (w : World) : Calls Try.prog 87 #[.int .u64 x, .int .u64 y] w (MulP x y w) := by
  obtain ⟨hx0, hx1⟩ := hx
  obtain ⟨hy0, hy1⟩ := hy
  obtain ⟨x, rfl⟩ := Int.eq_ofNat_of_zero_le hx0
  obtain ⟨y, rfl⟩ := Int.eq_ofNat_of_zero_le hy0
  refine (Any.bits_Mul64 mulLays x y (by omega) (by omega) w).mono ?_
  rintro e w' ⟨rfl, rfl⟩
  exact ⟨by simp, rfl⟩
abbrev L8 (x0 x1 x2 x3 x4 x5 x6 x7 : Int) : Value := .agg #[.int .u64 x0, .int .u64 x1, .int .u64 x2, .int .u64 x3, .int .u64 x4, .int .u64 x5, .int .u64 x6, .int .u64 x7]
def LongP (x0 x1 x2 x3 x4 x5 x6 x7 : Int) (w : World) (e : Ending) (w' : World) : Prop := e = .returned (L8 x0 x1 x2 x3 x4 x5 x6 x7) ∧ Below w.heap.size w w'
/-- The words that a sign fills. -/
def fillW (a3 : Int) : Int := if a3 < 9223372036854775808 then 0 else 18446744073709551615
set_option maxRecDepth 100000 in
set_option maxHeartbeats 400000 in
theorem longOf_any (a3 a2 a1 a0 : Int) (h3 : Word a3) (w : World) :
    Calls Try.prog 89 #[.agg #[.int .u64 a3, .int .u64 a2, .int .u64 a1, .int .u64 a0]] w (LongP a0 a1 a2 a3 (fillW a3) (fillW a3) (fillW a3) (fillW a3) w) := by
  obtain ⟨f, hf⟩ : ∃ f, fillW a3 = f := ⟨_, rfl⟩
  have hd : IntKind.u64.wrap (wrap64 a3 / 9223372036854775808) = f := by
    unfold Word at h3
    rw [← hf, IntKind.wrap_u64]
    unfold fillW wrap64
    split <;> omega
  rw [hf]
  go_enter Try.func89, Try.ntmps89
  go_wp2
  refine bodyPost_ret (v := L8 a0 a1 a2 a3 f f f f) (by simp [results, Try.results89, go_sem]) rfl ?_
  exact ⟨rfl, ((Below.refl _ _).alloc (Nat.le_refl _) _).alloc (by simp) _⟩
/-- The number that eight words stand for, with its sign. -/
def sl (x0 x1 x2 x3 x4 x5 x6 x7 : Int) : Int := val64 [x0, x1, x2, x3, x4, x5, x6, x7] - (if x7 < 9223372036854775808 then 0 else 13407807929942597099574024998205846127479365820592393377723561443721764030073546976801874298166903427690031858186486050853753882811946569946433649006084096)
/-- The number with its sign turned where b holds, or as it was. -/
def SignP (x0 x1 x2 x3 x4 x5 x6 x7 : Int) (b : Bool) (w : World) (e : Ending) (w' : World) : Prop :=
  ∃ z0 z1 z2 z3 z4 z5 z6 z7, e = .returned (L8 z0 z1 z2 z3 z4 z5 z6 z7) ∧ Words [z0, z1, z2, z3, z4, z5, z6, z7] ∧ (∃ c, 0 ≤ c ∧ c ≤ 1 ∧ val64 [z0, z1, z2, z3, z4, z5, z6, z7] = if b then 0 - val64 [x0, x1, x2, x3, x4, x5, x6, x7] + c * 13407807929942597099574024998205846127479365820592393377723561443721764030073546976801874298166903427690031858186486050853753882811946569946433649006084096 else val64 [x0, x1, x2, x3, x4, x5, x6, x7]) ∧ Below w.heap.size w w'
theorem pw64_8 : pw64 8 = 13407807929942597099574024998205846127479365820592393377723561443721764030073546976801874298166903427690031858186486050853753882811946569946433649006084096 := by decide
set_option maxRecDepth 100000 in
set_option maxHeartbeats 1000000 in
theorem signed_any (x0 x1 x2 x3 x4 x5 x6 x7 : Int) (b : Bool) (wx : Words [x0, x1, x2, x3, x4, x5, x6, x7]) (w : World) :
    Calls Try.prog 53 #[L8 x0 x1 x2 x3 x4 x5 x6 x7, .bool b] w (SignP x0 x1 x2 x3 x4 x5 x6 x7 b w) := by
  have B0 := (Blk.new w [.int .u64 x0, .int .u64 x1, .int .u64 x2, .int .u64 x3, .int .u64 x4, .int .u64 x5, .int .u64 x6, .int .u64 x7] 82 rfl).alloc (.cells #[.int .u64 0, .int .u64 0, .int .u64 0, .int .u64 0, .int .u64 0, .int .u64 0, .int .u64 0, .int .u64 0] 82)
  have B1 := Blk.new (w.alloc (.cells #[.int .u64 x0, .int .u64 x1, .int .u64 x2, .int .u64 x3, .int .u64 x4, .int .u64 x5, .int .u64 x6, .int .u64 x7] 82)) [.int .u64 0, .int .u64 0, .int .u64 0, .int .u64 0, .int .u64 0, .int .u64 0, .int .u64 0, .int .u64 0] 82 (g := w.heap.size + 1) (by simp)
  have HB0 := ((Below.refl _ w).alloc (Nat.le_refl _) (.cells #[.int .u64 x0, .int .u64 x1, .int .u64 x2, .int .u64 x3, .int .u64 x4, .int .u64 x5, .int .u64 x6, .int .u64 x7] 82)).alloc (by simp) (.cells #[.int .u64 0, .int .u64 0, .int .u64 0, .int .u64 0, .int .u64 0, .int .u64 0, .int .u64 0, .int .u64 0] 82)
  have w0 : Words [0, 0, 0, 0, 0, 0, 0, 0] := by
    intro d hd
    simp at hd
    subst hd
    exact ⟨by decide, by decide⟩
  cases b
  · go_enter Try.func53, Try.ntmps53
    go_wp2
    refine bodyPost_ret (v := L8 x0 x1 x2 x3 x4 x5 x6 x7) (by simp [results, Try.results53, go_sem]) rfl ?_
    exact ⟨x0, x1, x2, x3, x4, x5, x6, x7, rfl, wx, ⟨0, by decide, by decide, by simp⟩, ((Below.refl _ _).alloc (Nat.le_refl _) _).alloc (by simp) _⟩
  · go_enter Try.func53, Try.ntmps53
    go_wp2_with fail
    refine (minus8 0 0 0 0 0 0 0 0 x0 x1 x2 x3 x4 x5 x6 x7 w0 wx _).mono ?_
    rintro e w1 ⟨zs, c, rfl, h1, h2, h3, h4, h5, hB⟩
    obtain ⟨z0, z1, z2, z3, z4, z5, z6, z7, rfl⟩ := list8 h1
    replace B1 := B1.step hB
    have HB : Below w.heap.size w w1 := HB0.trans (hB.mono HB0.size)
    have HV : val64 [z0, z1, z2, z3, z4, z5, z6, z7] = 0 - val64 [x0, x1, x2, x3, x4, x5, x6, x7] + c * 13407807929942597099574024998205846127479365820592393377723561443721764030073546976801874298166903427690031858186486050853753882811946569946433649006084096 := by
      rw [h5, show ([0, 0, 0, 0, 0, 0, 0, 0] : List Int).length = 8 from rfl, pw64_8]
      simp [val64]
    have c0 := B1.c 0 rfl; have f0 := B1.f 0 rfl; have c1 := B1.c 1 rfl; have f1 := B1.f 1 rfl; have c2 := B1.c 2 rfl; have f2 := B1.f 2 rfl; have c3 := B1.c 3 rfl; have f3 := B1.f 3 rfl; have c4 := B1.c 4 rfl; have f4 := B1.f 4 rfl; have c5 := B1.c 5 rfl; have f5 := B1.f 5 rfl; have c6 := B1.c 6 rfl; have f6 := B1.f 6 rfl; have c7 := B1.c 7 rfl; have f7 := B1.f 7 rfl
    have lt := B1.lt
    clear hB h5 h1 HB0 B0
    go_wp2
    refine bodyPost_ret (v := L8 z0 z1 z2 z3 z4 z5 z6 z7) (by simp [results, Try.results53, go_sem, c0, c1, c2, c3, c4, c5, c6, c7]) rfl ?_
    refine ⟨z0, z1, z2, z3, z4, z5, z6, z7, rfl, h2, ⟨c, h3, h4, by rw [if_pos rfl]; exact HV⟩, ?_⟩
    repeat' (refine Below.setCell ?_ (by simp) _)
    exact HB
end Go.Proofs.Ytnnojeggjnddpaa

/- The walks of the pieces of the program's long division: the shift down, a number times a digit. -/
namespace Go.Proofs.Ytnnojeggjnddpaa
open Go.RowKit
/-- A row that is made, beside one that is read. -/
structure MkX (w wr : World) (gx g gp : Nat) (xs : List Int) (vs : List Value) (zs : List Int) : Prop where
  m : Mk w wr g gp vs zs
  x : Blk wr gx (xs.map (Value.int .u64))
theorem MkX.drewN {w wr : World} {gx g gp : Nat} {xs : List Int} {vs : List Value} {zs : List Int} (h : MkX w wr gx g gp xs vs zs) (n : Nat) : MkX w (wr.drewN n) gx g gp xs vs zs := ⟨h.m.drewN n, h.x⟩
theorem MkX.drew {w wr : World} {gx g gp : Nat} {xs : List Int} {vs : List Value} {zs : List Int} (h : MkX w wr gx g gp xs vs zs) : MkX w wr.drew gx g gp xs vs zs := ⟨h.m.drew, h.x⟩
theorem MkX.set {w wr : World} {gx g gp : Nat} {xs : List Int} {vs : List Value} {zs : List Int} (h : MkX w wr gx g gp xs vs zs) (hx : gx ≠ gp) (hne : g ≠ gp) (hg : w.heap.size ≤ gp) (j : Nat) (hj : j < zs.length) (u : Int) : MkX w (wr.setCell ⟨gp, j, none⟩ (.int .u64 u)) gx g gp xs vs (zs.set j u) := ⟨h.m.set hne hg j hj u, h.x.setO hx _⟩
theorem mul64d (x y hi lo : Int) (hx : Word x) (hy : Word y) (h1 : x * y / 18446744073709551616 = hi) (h2 : x * y % 18446744073709551616 = lo) (w : World) : Calls Try.prog 87 #[.int .u64 x, .int .u64 y] w (fun e w' => e = .returned (.tuple #[.int .u64 hi, .int .u64 lo]) ∧ w' = w) := by
  refine (mul64 x y hx hy w).mono ?_
  rintro e w' ⟨rfl, rfl⟩
  rw [h1, h2]
  exact ⟨rfl, rfl⟩
theorem add64d (x y s c : Int) (hx : Word x) (hy : Word y) (h1 : (x + y) % 18446744073709551616 = s) (h2 : (x + y) / 18446744073709551616 = c) (w : World) : (callFunc 88 #[.int .u64 x, .int .u64 y, .int .u64 0]).run Try.prog w = .ok (.value (.tuple #[.int .u64 s, .int .u64 c])) w := by
  rw [add64 x y 0 hx hy (by decide) (by decide) w, Int.add_zero, h1, h2]
end Go.Proofs.Ytnnojeggjnddpaa

/- Ten times a number of four words and one more digit. -/
namespace Go.Proofs.Ytnnojeggjnddpaa
open Go.RowKit
theorem ix4 (x0 x1 x2 x3 : Int) (k : Nat) (hk : k < [x0, x1, x2, x3].length) (w : World) : (Instr.index 70 (.agg #[.int .u64 x0, .int .u64 x1, .int .u64 x2, .int .u64 x3]) (.int .i64 k)).run Try.prog w = .ok (.int .u64 [x0, x1, x2, x3][k]) w := by
  match k, hk with
  | 0, _ => exact (show (Instr.index 70 (.agg #[.int .u64 x0, .int .u64 x1, .int .u64 x2, .int .u64 x3]) (.int .i64 ((0 : Nat) : Int))).run Try.prog w = .ok (.int .u64 x0) w by kernel_rfl)
  | 1, _ => exact (show (Instr.index 70 (.agg #[.int .u64 x0, .int .u64 x1, .int .u64 x2, .int .u64 x3]) (.int .i64 ((1 : Nat) : Int))).run Try.prog w = .ok (.int .u64 x1) w by kernel_rfl)
  | 2, _ => exact (show (Instr.index 70 (.agg #[.int .u64 x0, .int .u64 x1, .int .u64 x2, .int .u64 x3]) (.int .i64 ((2 : Nat) : Int))).run Try.prog w = .ok (.int .u64 x2) w by kernel_rfl)
  | 3, _ => exact (show (Instr.index 70 (.agg #[.int .u64 x0, .int .u64 x1, .int .u64 x2, .int .u64 x3]) (.int .i64 ((3 : Nat) : Int))).run Try.prog w = .ok (.int .u64 x3) w by kernel_rfl)
/-- The words ahead of a place, ten times; what is over. -/
structure TfI (xs zs : List Int) (d : Int) (k : Nat) (o : Int) : Prop where
  len : zs.length = 4
  wds : Words zs
  o0 : 0 ≤ o
  o1 : o < 10
  eq : val64 (zs.take k) + pw64 k * o = 10 * val64 (xs.take k) + d
theorem tf_start {xs : List Int} (hl : xs.length = 4) (hx : Words xs) {d : Int} (h0 : 0 ≤ d) (h1 : d < 10) : TfI xs xs d 0 d :=
  ⟨hl, hx, h0, h1, by simp [val64, pw64]⟩
theorem tf_step {xs zs : List Int} {d : Int} {k : Nat} {o : Int} (h : TfI xs zs d k o) (hk : k < xs.length) (hz : k < zs.length) (hx : Word xs[k]) (t : Int) (ht : t = xs[k] * 10 + o) : TfI xs (zs.set k (t % 18446744073709551616)) d (k + 1) (t / 18446744073709551616) := by
  obtain ⟨h1, h2, h3, h4, h5⟩ := h
  unfold Word at hx
  refine ⟨by simpa using h1, words_set h2 k ⟨by omega, by omega⟩, by omega, by omega, ?_⟩
  rw [val64_take (zs.set k (t % 18446744073709551616)) k (by simpa using hz), List.getElem_set_self, val64_take xs k hk, List.take_set_of_le (Nat.le_refl k), pw64]
  have e2 : t = t % 18446744073709551616 + 18446744073709551616 * (t / 18446744073709551616) := by omega
  generalize t / 18446744073709551616 = q at *
  generalize t % 18446744073709551616 = r at *
  generalize xs[k] = x at *
  generalize pw64 k = p at *
  generalize val64 (zs.take k) = a at *
  generalize val64 (xs.take k) = b at *
  clear h1 h2
  grind
theorem tf_arith {x o : Int} (h0 : 0 ≤ o) (h1 : o < 10) : Word (x * 10 % 18446744073709551616) ∧ Word o ∧ (x * 10 % 18446744073709551616 + o) % 18446744073709551616 = (x * 10 + o) % 18446744073709551616 ∧ x * 10 / 18446744073709551616 + (x * 10 % 18446744073709551616 + o) / 18446744073709551616 = (x * 10 + o) / 18446744073709551616 := by
  unfold Word at *
  omega
set_option maxRecDepth 100000 in
set_option maxHeartbeats 1000000 in
theorem tenfold_any (xs : List Int) (d : Int) (hl : xs.length = 4) (hx : Words xs) (h0 : 0 ≤ d) (h1 : d < 10) (hb : 10 * val64 xs + d < 115792089237316195423570985008687907853269984665640564039457584007913129639936) (w : World) : Calls Try.prog 51 #[agg xs, .int .u64 d] w (AggP 4 (10 * val64 xs + d) w) := by
  have HI : Hid (TfI xs xs d 0 d) := tf_start hl hx h0 h1
  have HX : Hid (Words xs) := hx
  have HL : Hid (xs.length = 4) := hl
  have HBD : Hid (10 * val64 xs + d < 115792089237316195423570985008687907853269984665640564039457584007913129639936) := hb
  obtain ⟨x0, x1, x2, x3, hxs⟩ := list4 hl
  have HA : agg xs = .agg #[.int .u64 x0, .int .u64 x1, .int .u64 x2, .int .u64 x3] := by rw [hxs]; rfl
  have AG := ix4 x0 x1 x2 x3
  rw [← hxs] at AG
  rw [HA]
  have HS : Mk w ((w.alloc (.cells #[.int .u64 x0, .int .u64 x1, .int .u64 x2, .int .u64 x3] 70)).alloc (.cells #[.int .u64 0, .int .u64 0, .int .u64 0, .int .u64 0] 70)) (w.heap.size + 1) w.heap.size (List.replicate 4 (.int .u64 0)) xs :=
    ⟨((Below.refl _ _).alloc (Nat.le_refl _) _).alloc (by simp) _, Blk.new _ [.int .u64 0, .int .u64 0, .int .u64 0, .int .u64 0] _ (by simp), by rw [hxs]; exact (Blk.new w [.int .u64 x0, .int .u64 x1, .int .u64 x2, .int .u64 x3] _ rfl).alloc _⟩
  clear hl hx HA hxs hb
  go_enter Try.func51, Try.ntmps51
  go_wp2
  generalize ((w.alloc (.cells #[.int .u64 x0, .int .u64 x1, .int .u64 x2, .int .u64 x3] 70)).alloc (.cells #[.int .u64 0, .int .u64 0, .int .u64 0, .int .u64 0] 70)) = W at *
  go_loopw [5, 13] (fun ov i wr => ∃ (k : Nat) (o : Int) (zs : List Int), k ≤ 4 ∧ i = .int .i64 k ∧ ov = .int .u64 o ∧ TfI xs zs d k o ∧ Mk w wr (w.heap.size + 1) w.heap.size (List.replicate 4 (.int .u64 0)) zs) (fun _ i _ => 4 - (intOf i).toNat)
  case atStart => exact ⟨0, d, _, by omega, rfl, rfl, HI.out, HS⟩
  case round =>
    clear HI HS h0 h1
    obtain ⟨k, o, zs, hk, rfl, rfl, hI, hM⟩ := hrel
    have hlen := hI.len
    by_cases hk4 : k < 4
    · have hkx : k < xs.length := by have := HL.out; omega
      have ag := AG k hkx
      have hz : k < zs.length := by omega
      obtain ⟨q1, q2⟩ := hM.cp k hz
      have hwx : Word xs[k] := words_at HX.out k hkx
      obtain ⟨t1, t2, t3, t4⟩ := tf_arith (x := xs[k]) hI.o0 hI.o1
      obtain ⟨hi, ehi⟩ : ∃ v, xs[k] * 10 / 18446744073709551616 = v := ⟨_, rfl⟩
      obtain ⟨lo, elo⟩ : ∃ v, xs[k] * 10 % 18446744073709551616 = v := ⟨_, rfl⟩
      have M1 := mul64d xs[k] 10 hi lo hwx ⟨by decide, by decide⟩ ehi elo
      rw [elo] at t1 t3 t4
      rw [ehi] at t4
      obtain ⟨n1, en1⟩ : ∃ v, (lo + o) % 18446744073709551616 = v := ⟨_, rfl⟩
      obtain ⟨c1, ec1⟩ : ∃ v, (lo + o) / 18446744073709551616 = v := ⟨_, rfl⟩
      have A1 := add64d lo o n1 c1 t1 t2 en1 ec1
      have R1 := tf_step hI hkx hz hwx _ rfl
      rw [← t3, ← t4, en1, ec1] at R1
      have R2 : Hid (TfI xs (zs.set k n1) d (k + 1) (hi + c1)) := R1
      have d4 : 0 ≤ hi + c1 := R1.o0
      have d5 : hi + c1 < 10 := R1.o1
      have M3 : Hid (Mk w (wr.setCell ⟨w.heap.size, k, none⟩ (.int .u64 n1)) (w.heap.size + 1) w.heap.size (List.replicate 4 (.int .u64 0)) (zs.set k n1)) := hM.set (by omega) (Nat.le_refl _) k hz n1
      have hkI : (k : Int) < 4 := by omega
      clear hI hM t1 t2 t3 t4 ehi elo en1 ec1 R1 AG hwx
      go_wp2_with fail
      refine (M1 _).mono ?_
      rintro e w1 ⟨rfl, rfl⟩
      clear M1
      go_wp2
      go_roundw
      case rel => exact ⟨k + 1, _, _, by omega, by go_num, rfl, R2.out, M3.out⟩
      case measure => simp [intOf]; omega
    · obtain rfl : k = 4 := by omega
      have HV := hI.eq
      have HW := hI.wds
      have ho0 := hI.o0
      obtain ⟨z0, z1, z2, z3, rfl⟩ := list4 hlen
      obtain ⟨c0, f0⟩ := hM.cp 0 (by simp)
      obtain ⟨c1, f1⟩ := hM.cp 1 (by simp)
      obtain ⟨c2, f2⟩ := hM.cp 2 (by simp)
      obtain ⟨c3, f3⟩ := hM.cp 3 (by simp)
      have d0 := hM.r.c 0 rfl; have e0 := hM.r.f 0 rfl
      have d1 := hM.r.c 1 rfl; have e1 := hM.r.f 1 rfl
      have d2 := hM.r.c 2 rfl; have e2 := hM.r.f 2 rfl
      have d3 := hM.r.c 3 rfl; have e3 := hM.r.f 3 rfl
      have HB := hM.below
      simp only [List.getElem_cons_zero, List.getElem_cons_succ] at c0 c1 c2 c3
      have HV2 : Hid (val64 [z0, z1, z2, z3] = 10 * val64 xs + d) := by
        show _ = _
        rw [List.take_of_length_le (by simp), List.take_of_length_le (by rw [HL.out]; omega), show pw64 4 = 115792089237316195423570985008687907853269984665640564039457584007913129639936 by decide] at HV
        have h8 := val64_nonneg HW
        have h9 := HBD.out
        omega
      clear hI hM hlen HV ho0
      go_wp2
      refine bodyPost_ret (v := .agg #[.int .u64 z0, .int .u64 z1, .int .u64 z2, .int .u64 z3]) (by simp [results, Try.results51, go_sem, d0, d1, d2, d3]) rfl ?_
      refine ⟨[z0, z1, z2, z3], rfl, rfl, HW, HV2.out, ?_⟩
      repeat' (refine Below.setCell ?_ (by simp) _)
      exact HB
end Go.Proofs.Ytnnojeggjnddpaa

/- Texts of nine bytes: matrices and masks, on both sides. -/
namespace Go.Proofs.Ytnnojeggjnddpaa
open Go.RowKit
/-- The byte of a text at a place. -/
def bt (s : ByteArray) (i : Nat) : Nat := (s.data.toList.getD i 0).toNat
theorem bt_at {s : ByteArray} {i : Nat} (h : i < s.size) : s[i].toNat = bt s i := by
  have h2 : i < s.data.size := h
  show (s.data[i]).toNat = _
  unfold bt
  rw [List.getD_eq_getElem?_getD, Array.getElem?_toList, Array.getElem?_eq_getElem h2]; rfl
theorem bt_lt (s : ByteArray) (i : Nat) : bt s i < 256 := UInt8.toNat_lt _
/-- That a text has just the bytes of a list. -/
def Bytes (ts : ByteArray) (t : List Nat) : Prop := ∀ n : Nat, n < 256 → (0 ≤ Lib.indexByte ts.data.toList (Int.toNat (n : Int)).toUInt8 ↔ n ∈ t)
end Go.Proofs.Ytnnojeggjnddpaa
