/- The walk of the difference of digits. -/
import Derived.Test.YtinilehbhdpdkaaBase
namespace Go.Proofs.Ytinilehbhdpdkaa
open Go.RowKit
theorem Try.info88 : (Try.prog.info? 63).map (fun i => (i.zero, i.size, i.bytes)) = some (some (.int .u32 0), 1, 4) := by kernel_rfl
/-- A slice of so many digits that stand for the number z. -/
def DigsP (n : Nat) (z : Int) (w : World) (e : Ending) (w' : World) : Prop :=
  ∃ (ao : Option Addr) (cap : Nat) (zs : List Int), e = .returned (.slice ao n cap) ∧ zs.length = n ∧ n ≤ cap ∧ Dig zs ∧ val zs = z ∧ Rd w' ao zs ∧ Below w.heap.size w w'
structure SubI (w wr : World) (n : Nat) (xs ys : List Int) (k : Nat) (cv : Int) (zs : List Int) : Prop where
  len : zs.length = k
  dig : Dig zs
  eq : val zs = val (xs.take k) - val (ys.take k) + cv * pw k
  own : wr.ownsRow w.heap.size 63 1 (.slice (some ⟨w.heap.size, 0, none⟩) k n) k (zs.map (Value.int .u32))
  below : Below w.heap.size w wr
theorem sub_step {w wr w2 : World} {n : Nat} {xs ys : List Int} {k : Nat} {cv : Int} {zs : List Int} (hI : SubI w wr n xs ys k cv zs) (hc0 : 0 ≤ cv) (hc1 : cv ≤ 1) (v c' : Int) (hc' : c' = 0 ∨ c' = 1) (h0 : 0 ≤ v) (h1 : v < 4294967296)
    (he : v = xs.getD k 0 - ys.getD k 0 - cv + c' * 4294967296) {o : Obj} (hown : w2.ownsRow w.heap.size 63 1 (.slice (some ⟨w.heap.size, 0, none⟩) (k + 1) n) (k + 1) (zs.map (Value.int .u32) ++ [.int .u32 v]))
    (hgrow : (wr.alloc o).grownBy w2 (some w.heap.size)) : SubI w w2 n xs ys (k + 1) c' (zs ++ [v]) := by
  refine ⟨by simp [hI.len], dig_append.2 ⟨hI.dig, dig_cons.2 ⟨⟨h0, h1⟩, dig_nil⟩⟩, sub_eq xs ys zs k hI.len cv c' v (by omega) hc' hI.eq he, by simpa using hown, ?_⟩
  have hs := hI.below.size
  refine (hI.below.alloc hs o).grown hgrow (by simp; omega) ?_
  intro j hj
  cases hj
  exact Nat.le_refl _
theorem sub_done {w wr : World} {n : Nat} {xs ys : List Int} {cv : Int} {zs : List Int} (hI : SubI w wr n xs ys n cv zs) (hc0 : 0 ≤ cv) (hc1 : cv ≤ 1) (hx : xs.length = n) (dx : Dig xs) (dy : Dig ys) (hle : val ys ≤ val xs) :
    DigsP n (val xs - val ys) w (.returned (.slice (some ⟨w.heap.size, 0, none⟩) n n)) wr :=
  ⟨_, n, zs, rfl, hI.len, Nat.le_refl _, hI.dig, sub_end xs ys zs n hx hI.len dx dy hI.dig hle cv (by omega) hI.eq, Rd.own hI.own hI.len, hI.below⟩
set_option maxRecDepth 100000 in
set_option maxHeartbeats 400000 in
theorem subAbs_any (ao bo : Option Addr) (n m ca cb : Nat) (xs ys : List Int) (w : World) (hx : xs.length = n) (hy : ys.length = m) (dx : Dig xs) (dy : Dig ys) (rx : Rd w ao xs) (ry : Rd w bo ys) (hm : n ≤ 1000000) (_hm' : m ≤ 1000000)
    (hle : val ys ≤ val xs) :
    Calls Try.prog 41 #[.slice ao n ca, .slice bo m cb] w (DigsP n (val xs - val ys) w) := by
  obtain ⟨i0, hi, hz0, hz1, hz2⟩ := info_parts Try.info88
  have HX : Hid (xs.length = n) := hx
  have HY : Hid (ys.length = m) := hy
  have HDX : Hid (Dig xs) := dx
  have HDY : Hid (Dig ys) := dy
  have HRX : Hid (Rd w ao xs) := rx
  have HRY : Hid (Rd w bo ys) := ry
  have HLE : Hid (val ys ≤ val xs) := hle
  clear rx ry dx dy hx hy hle
  go_enter Try.func41, Try.ntmps41
  go_wp2_with (at_make; refine wpList_make_own _ rfl _ _ 45 rfl w.heap.size 63 i0 (.int .u32 0) 1 Try.underlying45 hi hz0 hz1 _ _ _ n rfl rfl rfl (by rw [hz2]; omega) (by unfold maxLen; omega) (Nat.le_refl _) ?_)
  intro w1 hown hgrow
  go_wp2
  go_loopw [5, 6, 7] (fun o c i wr => ∃ (k : Nat) (cv : Int) (zs : List Int), k ≤ n ∧ i = .int .i64 k ∧ 0 ≤ cv ∧ cv ≤ 1 ∧ c = .int .u64 cv ∧ o = .slice (some ⟨w.heap.size, 0, none⟩) k n ∧ SubI w wr n xs ys k cv zs) (fun _ _ i _ => n - (intOf i).toNat)
  case atStart => exact ⟨0, 0, [], Nat.zero_le _, rfl, by decide, by decide, rfl, rfl, ⟨rfl, dig_nil, by simp [val], hown, (Below.refl _ _).grown hgrow (Nat.le_refl _) (by simp)⟩⟩
  case round =>
    obtain ⟨k, cv, zs, hk, rfl, hc0, hc1, rfl, rfl, hI⟩ := hrel
    by_cases hkn : k < n
    · have hkx : k < xs.length := by have := HX.out; omega
      obtain ⟨b, off, rfl, hbl, hcx0⟩ := HRX.out k hkx
      have hcx := (hI.below.cell (p := ⟨b, off + k, none⟩) hbl).trans hcx0
      clear hcx0
      have hxd := dig_at HDX.out k hkx
      obtain ⟨hx0, hx1⟩ := hxd
      by_cases hkm : k < m
      · have hky : k < ys.length := by have := HY.out; omega
        obtain ⟨b', off', rfl, hbl', hcy0⟩ := HRY.out k hky
        have hcy := (hI.below.cell (p := ⟨b', off' + k, none⟩) hbl').trans hcy0
        clear hcy0
        obtain ⟨hy0, hy1⟩ := dig_at HDY.out k hky
        by_cases hlt : xs[k] < cv + ys[k]
        · go_wp2_with (at_builtin; refine wpList_append_fits _ rfl _ _ 45 rfl w.heap.size 63 i0 1 Try.underlying45 hi hz1 w.heap.size k n _ rfl (hI.own.alloc _) ⟨wr.heap.size, 0, none⟩ 1 1 [.int .u32 (xs[k] + 4294967296 - (cv + ys[k]))] rfl rfl (cell_one_new _ _ _) (one_cell _ _) (by omega) ?_)
          intro w2 hown2 hgrow2
          go_wp2
          go_roundw
          case rel => exact ⟨k + 1, 1, zs ++ [xs[k] + 4294967296 - (cv + ys[k])], by omega, by go_num, by decide, by decide, rfl, rfl, sub_step hI hc0 hc1 _ 1 (by decide) (by omega) (by omega) (by simp [List.getD, hkx, hky] <;> omega) hown2 hgrow2⟩
          case measure => simp [intOf]; omega
        · go_wp2_with (at_builtin; refine wpList_append_fits _ rfl _ _ 45 rfl w.heap.size 63 i0 1 Try.underlying45 hi hz1 w.heap.size k n _ rfl (hI.own.alloc _) ⟨wr.heap.size, 0, none⟩ 1 1 [.int .u32 (xs[k] - (cv + ys[k]))] rfl rfl (cell_one_new _ _ _) (one_cell _ _) (by omega) ?_)
          intro w2 hown2 hgrow2
          go_wp2
          go_roundw
          case rel => exact ⟨k + 1, 0, zs ++ [xs[k] - (cv + ys[k])], by omega, by go_num, by decide, by decide, rfl, rfl, sub_step hI hc0 hc1 _ 0 (by decide) (by omega) (by omega) (by simp [List.getD, hkx, hky] <;> omega) hown2 hgrow2⟩
          case measure => simp [intOf]; omega
      · by_cases hlt : xs[k] < cv
        · go_wp2_with (at_builtin; refine wpList_append_fits _ rfl _ _ 45 rfl w.heap.size 63 i0 1 Try.underlying45 hi hz1 w.heap.size k n _ rfl (hI.own.alloc _) ⟨wr.heap.size, 0, none⟩ 1 1 [.int .u32 (xs[k] + 4294967296 - cv)] rfl rfl (cell_one_new _ _ _) (one_cell _ _) (by omega) ?_)
          intro w2 hown2 hgrow2
          go_wp2
          go_roundw
          case rel => exact ⟨k + 1, 1, zs ++ [xs[k] + 4294967296 - cv], by omega, by go_num, by decide, by decide, rfl, rfl, sub_step hI hc0 hc1 _ 1 (by decide) (by omega) (by omega) (by have := HY.out; simp [List.getD, hkx, show ¬ k < ys.length by omega] <;> omega) hown2 hgrow2⟩
          case measure => simp [intOf]; omega
        · go_wp2_with (at_builtin; refine wpList_append_fits _ rfl _ _ 45 rfl w.heap.size 63 i0 1 Try.underlying45 hi hz1 w.heap.size k n _ rfl (hI.own.alloc _) ⟨wr.heap.size, 0, none⟩ 1 1 [.int .u32 (xs[k] - cv)] rfl rfl (cell_one_new _ _ _) (one_cell _ _) (by omega) ?_)
          intro w2 hown2 hgrow2
          go_wp2
          go_roundw
          case rel => exact ⟨k + 1, 0, zs ++ [xs[k] - cv], by omega, by go_num, by decide, by decide, rfl, rfl, sub_step hI hc0 hc1 _ 0 (by decide) (by omega) (by omega) (by have := HY.out; simp [List.getD, hkx, show ¬ k < ys.length by omega] <;> omega) hown2 hgrow2⟩
          case measure => simp [intOf]; omega
    · go_wp2
      go_ret
      obtain rfl : k = n := by omega
      exact sub_done hI hc0 hc1 HX.out HDX.out HDY.out HLE.out
end Go.Proofs.Ytinilehbhdpdkaa
