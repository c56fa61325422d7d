/- The walk of the sum of digits. -/
import Derived.Test.YtinilehbhdpdkaaSubAbs
namespace Go.Proofs.Ytinilehbhdpdkaa
open Go.RowKit
structure AddI (w wr : World) (xs ys : List Int) (k c : Nat) (cv : Int) (zs : List Int) : Prop where
  len : zs.length = k
  dig : Dig zs
  eq : val zs + cv * pw k = val (xs.take k) + val (ys.take k)
  own : wr.ownsRow w.heap.size 63 1 (.slice (some ⟨w.heap.size, 0, none⟩) k c) k (zs.map (Value.int .u32))
  below : Below w.heap.size w wr
theorem add_eq (xs ys zs : List Int) (k : Nat) (hl : zs.length = k) (cv x : Int) (eq : val zs + cv * pw k = val (xs.take k) + val (ys.take k)) (hx : x = cv + xs.getD k 0 + ys.getD k 0) :
    val (zs ++ [x % 4294967296]) + x / 4294967296 * pw (k + 1) = val (xs.take (k + 1)) + val (ys.take (k + 1)) := by
  rw [val_snoc, hl, val_take_getD, val_take_getD, pw]
  have e1 : pw k * (x % 4294967296) + x / 4294967296 * (4294967296 * pw k) = pw k * x := by
    have : x = x % 4294967296 + 4294967296 * (x / 4294967296) := by omega
    generalize x / 4294967296 = q at *
    generalize x % 4294967296 = r at *
    subst this
    grind
  have e2 : pw k * x = cv * pw k + pw k * xs.getD k 0 + pw k * ys.getD k 0 := by rw [hx]; grind
  omega
theorem add_step {w wr w2 : World} {xs ys : List Int} {k c : Nat} {cv : Int} {zs : List Int} (hI : AddI w wr xs ys k c cv zs) (x : Int) (hx : x = cv + xs.getD k 0 + ys.getD k 0) {o : Obj}
    (hown : w2.ownsRow w.heap.size 63 1 (.slice (some ⟨w.heap.size, 0, none⟩) (k + 1) c) (k + 1) (zs.map (Value.int .u32) ++ [.int .u32 (x % 4294967296)]))
    (hgrow : (wr.alloc o).grownBy w2 (some w.heap.size)) : AddI w w2 xs ys (k + 1) c (x / 4294967296) (zs ++ [x % 4294967296]) := by
  refine ⟨by simp [hI.len], dig_append.2 ⟨hI.dig, dig_cons.2 ⟨⟨by omega, by omega⟩, dig_nil⟩⟩, add_eq xs ys zs k hI.len cv x hI.eq hx, by simpa using hown, ?_⟩
  have hs := hI.below.size
  refine (hI.below.alloc hs o).grown hgrow (by simp; omega) ?_
  intro j hj
  cases hj
  exact Nat.le_refl _
/-- A slice of at most so many digits that stand for the number z. -/
def DigleP (k : Nat) (z : Int) (w : World) (e : Ending) (w' : World) : Prop :=
  ∃ (ao : Option Addr) (n cap : Nat) (zs : List Int), e = .returned (.slice ao n cap) ∧ zs.length = n ∧ n ≤ cap ∧ n ≤ k ∧ Dig zs ∧ val zs = z ∧ Rd w' ao zs ∧ Below w.heap.size w w'
theorem add_done {w wr : World} {n : Nat} {xs ys : List Int} {zs : List Int} (hI : AddI w wr xs ys n (n + 1) 0 zs) (hx : xs.length = n) (hy : ys.length ≤ n) :
    DigleP (n + 1) (val xs + val ys) w (.returned (.slice (some ⟨w.heap.size, 0, none⟩) n (n + 1))) wr := by
  refine ⟨_, n, n + 1, zs, rfl, hI.len, by omega, by omega, hI.dig, ?_, Rd.own hI.own hI.len, hI.below⟩
  have := hI.eq
  rw [val_take_all xs n (by omega), val_take_all ys n hy] at this
  simpa using this
theorem add_done1 {w wr w2 : World} {n : Nat} {xs ys : List Int} {cv : Int} {zs : List Int} (hI : AddI w wr xs ys n (n + 1) cv zs) (h0 : 0 ≤ cv) (h1 : cv < 4294967296) (hx : xs.length = n) (hy : ys.length ≤ n) {o : Obj}
    (hown : w2.ownsRow w.heap.size 63 1 (.slice (some ⟨w.heap.size, 0, none⟩) (n + 1) (n + 1)) (n + 1) (zs.map (Value.int .u32) ++ [.int .u32 cv])) (hgrow : (wr.alloc o).grownBy w2 (some w.heap.size)) :
    DigleP (n + 1) (val xs + val ys) w (.returned (.slice (some ⟨w.heap.size, 0, none⟩) (n + 1) (n + 1))) w2 := by
  have hl : (zs ++ [cv]).length = n + 1 := by simp [hI.len]
  refine ⟨_, n + 1, n + 1, zs ++ [cv], rfl, hl, Nat.le_refl _, Nat.le_refl _, dig_append.2 ⟨hI.dig, dig_cons.2 ⟨⟨h0, h1⟩, dig_nil⟩⟩, ?_, Rd.own (by simpa using hown) hl, ?_⟩
  · have := hI.eq
    rw [val_take_all xs n (by omega), val_take_all ys n hy] at this
    rw [val_snoc, hI.len, Int.mul_comm, this]
  · have hs := hI.below.size
    refine (hI.below.alloc hs o).grown hgrow (by simp; omega) ?_
    intro j hj
    cases hj
    exact Nat.le_refl _
set_option maxRecDepth 100000 in
set_option maxHeartbeats 1000000 in
/-- The first one is not the shorter. -/
theorem addAbs_ge (ao bo : Option Addr) (n m ca cb : Nat) (xs ys : List Int) (w : World) (hx : xs.length = n) (hy : ys.length = m) (dx : Dig xs) (dy : Dig ys) (rx : Rd w ao xs) (ry : Rd w bo ys) (hm : n ≤ 1000000) (hnm : m ≤ n) :
    Calls Try.prog 43 #[.slice ao n ca, .slice bo m cb] w (DigleP (n + 1) (val xs + val ys) w) := by
  obtain ⟨i0, hi, hz0, hz1, hz2⟩ := info_parts Try.info88
  have HX : Hid (xs.length = n) := hx
  have HY : Hid (ys.length = m) := hy
  have HDX : Hid (Dig xs) := dx
  have HDY : Hid (Dig ys) := dy
  have HRX : Hid (Rd w ao xs) := rx
  have HRY : Hid (Rd w bo ys) := ry
  have hnm' : ¬ n < m := by omega
  clear rx ry dx dy hx hy
  go_enter Try.func43, Try.ntmps43
  go_wp2_with (at_make; refine wpList_make_own _ rfl _ _ 45 rfl w.heap.size 63 i0 (.int .u32 0) 1 Try.underlying45 hi hz0 hz1 _ _ _ (n + 1) rfl rfl (by omega) (by rw [hz2]; omega) (by unfold maxLen; omega) (Nat.le_refl _) ?_)
  intro w1 hown hgrow
  have HS : AddI w w1 xs ys 0 (n + 1) 0 [] := ⟨rfl, dig_nil, by simp [val], hown, (Below.refl _ _).grown hgrow (Nat.le_refl _) (by simp)⟩
  clear hown hgrow
  go_wp2
  go_loopw [5, 6, 7] (fun o c i wr => ∃ (k : Nat) (cv : Int) (zs : List Int), k ≤ n ∧ i = .int .i64 k ∧ 0 ≤ cv ∧ cv ≤ 1 ∧ c = .int .u64 cv ∧ o = .slice (some ⟨w.heap.size, 0, none⟩) k (n + 1) ∧ AddI w wr xs ys k (n + 1) cv zs) (fun _ _ i _ => n - (intOf i).toNat)
  case atStart => exact ⟨0, 0, [], Nat.zero_le _, rfl, by decide, by decide, rfl, rfl, HS⟩
  case round =>
    obtain ⟨k, cv, zs, hk, rfl, hc0, hc1, rfl, rfl, hI⟩ := hrel
    clear HS
    by_cases hkn : k < n
    · have hkx : k < xs.length := by have := HX.out; omega
      obtain ⟨b, off, rfl, hbl, hcx0⟩ := HRX.out k hkx
      have hcx := (hI.below.cell (p := ⟨b, off + k, none⟩) hbl).trans hcx0
      clear hcx0
      obtain ⟨hx0, hx1⟩ := dig_at HDX.out k hkx
      by_cases hkm : k < m
      · have hky : k < ys.length := by have := HY.out; omega
        obtain ⟨b', off', rfl, hbl', hcy0⟩ := HRY.out k hky
        have hcy := (hI.below.cell (p := ⟨b', off' + k, none⟩) hbl').trans hcy0
        clear hcy0
        obtain ⟨hy0, hy1⟩ := dig_at HDY.out k hky
        go_wp2_with (at_builtin; refine wpList_append_fits _ rfl _ _ 45 rfl w.heap.size 63 i0 1 Try.underlying45 hi hz1 w.heap.size k (n + 1) _ rfl (hI.own.alloc _) ⟨wr.heap.size, 0, none⟩ 1 1 [.int .u32 ((cv + xs[k] + ys[k]) % 4294967296)] rfl rfl (cell_one_new _ _ _) (one_cell _ _) (by omega) ?_)
        intro w2 hown2 hgrow2
        go_wp2
        go_roundw
        case rel => exact ⟨k + 1, (cv + xs[k] + ys[k]) / 4294967296, _, by omega, by go_num, by omega, by omega, rfl, rfl, add_step hI _ (by simp [List.getD, hkx, hky]) hown2 hgrow2⟩
        case measure => simp [intOf]; omega
      · have hky : ¬ k < ys.length := by have := HY.out; omega
        go_wp2_with (at_builtin; refine wpList_append_fits _ rfl _ _ 45 rfl w.heap.size 63 i0 1 Try.underlying45 hi hz1 w.heap.size k (n + 1) _ rfl (hI.own.alloc _) ⟨wr.heap.size, 0, none⟩ 1 1 [.int .u32 ((cv + xs[k]) % 4294967296)] rfl rfl (cell_one_new _ _ _) (one_cell _ _) (by omega) ?_)
        intro w2 hown2 hgrow2
        go_wp2
        go_roundw
        case rel => exact ⟨k + 1, (cv + xs[k]) / 4294967296, _, by omega, by go_num, by omega, by omega, rfl, rfl, add_step hI _ (by simp [List.getD, hkx, hky]) hown2 hgrow2⟩
        case measure => simp [intOf]; omega
    · obtain rfl : k = n := by omega
      by_cases hcp : 0 < cv
      · obtain rfl : cv = 1 := by omega
        go_wp2_with (at_builtin; refine wpList_append_fits _ rfl _ _ 45 rfl w.heap.size 63 i0 1 Try.underlying45 hi hz1 w.heap.size k (k + 1) _ rfl (hI.own.alloc _) ⟨wr.heap.size, 0, none⟩ 1 1 [.int .u32 1] rfl rfl (cell_one_new _ _ _) (one_cell _ _) (by omega) ?_)
        intro w2 hown2 hgrow2
        go_wp2
        go_ret
        exact add_done1 hI (by omega) (by omega) HX.out (by have := HY.out; omega) hown2 hgrow2
      · obtain rfl : cv = 0 := by omega
        go_wp2
        go_ret
        exact add_done hI HX.out (by have := HY.out; omega)
set_option maxRecDepth 100000 in
set_option maxHeartbeats 1000000 in
/-- The first one is the shorter. -/
theorem addAbs_lt (ao bo : Option Addr) (n m ca cb : Nat) (xs ys : List Int) (w : World) (hx : xs.length = n) (hy : ys.length = m) (dx : Dig xs) (dy : Dig ys) (rx : Rd w ao xs) (ry : Rd w bo ys) (hm : n ≤ 1000000) (hnm : m < n) :
    Calls Try.prog 43 #[.slice bo m cb, .slice ao n ca] w (DigleP (n + 1) (val xs + val ys) w) := by
  obtain ⟨i0, hi, hz0, hz1, hz2⟩ := info_parts Try.info88
  have HX : Hid (xs.length = n) := hx
  have HY : Hid (ys.length = m) := hy
  have HDX : Hid (Dig xs) := dx
  have HDY : Hid (Dig ys) := dy
  have HRX : Hid (Rd w ao xs) := rx
  have HRY : Hid (Rd w bo ys) := ry
  clear rx ry dx dy hx hy
  go_enter Try.func43, Try.ntmps43
  go_wp2_with (at_make; refine wpList_make_own _ rfl _ _ 45 rfl w.heap.size 63 i0 (.int .u32 0) 1 Try.underlying45 hi hz0 hz1 _ _ _ (n + 1) rfl rfl (by omega) (by rw [hz2]; omega) (by unfold maxLen; omega) (Nat.le_refl _) ?_)
  intro w1 hown hgrow
  have HS : AddI w w1 xs ys 0 (n + 1) 0 [] := ⟨rfl, dig_nil, by simp [val], hown, (Below.refl _ _).grown hgrow (Nat.le_refl _) (by simp)⟩
  clear hown hgrow
  go_wp2
  go_loopw [5, 6, 7] (fun o c i wr => ∃ (k : Nat) (cv : Int) (zs : List Int), k ≤ n ∧ i = .int .i64 k ∧ 0 ≤ cv ∧ cv ≤ 1 ∧ c = .int .u64 cv ∧ o = .slice (some ⟨w.heap.size, 0, none⟩) k (n + 1) ∧ AddI w wr xs ys k (n + 1) cv zs) (fun _ _ i _ => n - (intOf i).toNat)
  case atStart => exact ⟨0, 0, [], Nat.zero_le _, rfl, by decide, by decide, rfl, rfl, HS⟩
  case round =>
    obtain ⟨k, cv, zs, hk, rfl, hc0, hc1, rfl, rfl, hI⟩ := hrel
    clear HS
    by_cases hkn : k < n
    · have hkx : k < xs.length := by have := HX.out; omega
      obtain ⟨b, off, rfl, hbl, hcx0⟩ := HRX.out k hkx
      have hcx := (hI.below.cell (p := ⟨b, off + k, none⟩) hbl).trans hcx0
      clear hcx0
      obtain ⟨hx0, hx1⟩ := dig_at HDX.out k hkx
      by_cases hkm : k < m
      · have hky : k < ys.length := by have := HY.out; omega
        obtain ⟨b', off', rfl, hbl', hcy0⟩ := HRY.out k hky
        have hcy := (hI.below.cell (p := ⟨b', off' + k, none⟩) hbl').trans hcy0
        clear hcy0
        obtain ⟨hy0, hy1⟩ := dig_at HDY.out k hky
        go_wp2_with (at_builtin; refine wpList_append_fits _ rfl _ _ 45 rfl w.heap.size 63 i0 1 Try.underlying45 hi hz1 w.heap.size k (n + 1) _ rfl (hI.own.alloc _) ⟨wr.heap.size, 0, none⟩ 1 1 [.int .u32 ((cv + xs[k] + ys[k]) % 4294967296)] rfl rfl (cell_one_new _ _ _) (one_cell _ _) (by omega) ?_)
        intro w2 hown2 hgrow2
        go_wp2
        go_roundw
        case rel => exact ⟨k + 1, (cv + xs[k] + ys[k]) / 4294967296, _, by omega, by go_num, by omega, by omega, rfl, rfl, add_step hI _ (by simp [List.getD, hkx, hky]) hown2 hgrow2⟩
        case measure => simp [intOf]; omega
      · have hky : ¬ k < ys.length := by have := HY.out; omega
        go_wp2_with (at_builtin; refine wpList_append_fits _ rfl _ _ 45 rfl w.heap.size 63 i0 1 Try.underlying45 hi hz1 w.heap.size k (n + 1) _ rfl (hI.own.alloc _) ⟨wr.heap.size, 0, none⟩ 1 1 [.int .u32 ((cv + xs[k]) % 4294967296)] rfl rfl (cell_one_new _ _ _) (one_cell _ _) (by omega) ?_)
        intro w2 hown2 hgrow2
        go_wp2
        go_roundw
        case rel => exact ⟨k + 1, (cv + xs[k]) / 4294967296, _, by omega, by go_num, by omega, by omega, rfl, rfl, add_step hI _ (by simp [List.getD, hkx, hky]) hown2 hgrow2⟩
        case measure => simp [intOf]; omega
    · obtain rfl : k = n := by omega
      by_cases hcp : 0 < cv
      · obtain rfl : cv = 1 := by omega
        go_wp2_with (at_builtin; refine wpList_append_fits _ rfl _ _ 45 rfl w.heap.size 63 i0 1 Try.underlying45 hi hz1 w.heap.size k (k + 1) _ rfl (hI.own.alloc _) ⟨wr.heap.size, 0, none⟩ 1 1 [.int .u32 1] rfl rfl (cell_one_new _ _ _) (one_cell _ _) (by omega) ?_)
        intro w2 hown2 hgrow2
        go_wp2
        go_ret
        exact add_done1 hI (by omega) (by omega) HX.out (by have := HY.out; omega) hown2 hgrow2
      · obtain rfl : cv = 0 := by omega
        go_wp2
        go_ret
        exact add_done hI HX.out (by have := HY.out; omega)
theorem addAbs_any (ao bo : Option Addr) (n m ca cb k : Nat) (xs ys : List Int) (w : World) (hx : xs.length = n) (hy : ys.length = m) (dx : Dig xs) (dy : Dig ys) (rx : Rd w ao xs) (ry : Rd w bo ys) (h1 : n ≤ k) (h2 : m ≤ k) (hk : k ≤ 1000000) :
    Calls Try.prog 43 #[.slice ao n ca, .slice bo m cb] w (DigleP (k + 1) (val xs + val ys) w) := by
  by_cases hnm : m ≤ n
  · refine (addAbs_ge ao bo n m ca cb xs ys w hx hy dx dy rx ry (by omega) hnm).mono ?_
    rintro e w' ⟨a, l, c, zs, he, g1, g2, g3, g⟩
    exact ⟨a, l, c, zs, he, g1, g2, by omega, g⟩
  · refine (addAbs_lt bo ao m n cb ca ys xs w hy hx dy dx ry rx (by omega) (by omega)).mono ?_
    rintro e w' ⟨a, l, c, zs, he, g1, g2, g3, g4, g5, g6, g7⟩
    exact ⟨a, l, c, zs, he, g1, g2, by omega, g4, by rw [g5, Int.add_comm], g6, g7⟩
end Go.Proofs.Ytinilehbhdpdkaa
