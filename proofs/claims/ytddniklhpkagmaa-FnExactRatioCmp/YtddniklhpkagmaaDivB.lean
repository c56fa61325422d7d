/- The difference of digits and the trimming once more, with where their answers lie. -/
import Derived.Test.YtddniklhpkagmaaBase1
namespace Go.Proofs.Ytddniklhpkagmaa
open Go.RowKit
def SubAt (n : Nat) (z : Int) (w : World) (e : Ending) (w' : World) : Prop := DigsP n z w e w' ∧ ∃ cap, e = .returned (.slice (some ⟨w.heap.size, 0, none⟩) n cap)
def TrimAt (neg : Bool) (ao : Option Addr) (n : Nat) (ds : List Int) (w : World) (e : Ending) (w' : World) : Prop :=
  TrimP neg n ds w e w' ∧ ∃ s' ao' n' cap', e = .returned (.agg #[.bool s', .slice ao' n' cap']) ∧ (ao' = ao ∨ ao' = none)
set_option maxRecDepth 100000 in
set_option maxHeartbeats 400000 in
theorem subAbs_at (ao bo : Option Addr) (n m ca cb : Nat) (xs ys : List Int) (w : World) (hx : xs.length = n) (hy : ys.length = m) (dx : Dig xs) (dy : Dig ys) (rx : Rd w ao xs) (ry : Rd w bo ys) (hm : n ≤ 1000000) (_hm' : m ≤ 1000000)
    (hle : val ys ≤ val xs) :
    Calls Try.prog 92 #[.slice ao n ca, .slice bo m cb] w (SubAt n (val xs - val ys) w) := by
  obtain ⟨i0, hi, hz0, hz1, hz2⟩ := info_parts Try.info88
  have HX : Hid (xs.length = n) := hx
  have HY : Hid (ys.length = m) := hy
  have HDX : Hid (Dig xs) := dx
  have HDY : Hid (Dig ys) := dy
  have HRX : Hid (Rd w ao xs) := rx
  have HRY : Hid (Rd w bo ys) := ry
  have HLE : Hid (val ys ≤ val xs) := hle
  clear rx ry dx dy hx hy hle
  go_enter Try.func92, Try.ntmps92
  go_wp2_with (at_make; refine wpList_make_own _ rfl _ _ 55 rfl w.heap.size 109 i0 (.int .u32 0) 1 Try.underlying55 hi hz0 hz1 _ _ _ n rfl rfl rfl (by rw [hz2]; omega) (by unfold maxLen; omega) (Nat.le_refl _) ?_)
  intro w1 hown hgrow
  go_wp2
  go_loopw [5, 6, 7] (fun o c i wr => ∃ (k : Nat) (cv : Int) (zs : List Int), k ≤ n ∧ i = .int .i64 k ∧ 0 ≤ cv ∧ cv ≤ 1 ∧ c = .int .u64 cv ∧ o = .slice (some ⟨w.heap.size, 0, none⟩) k n ∧ SubI w wr n xs ys k cv zs) (fun _ _ i _ => n - (intOf i).toNat)
  case atStart => exact ⟨0, 0, [], Nat.zero_le _, rfl, by decide, by decide, rfl, rfl, ⟨rfl, dig_nil, by simp [val], hown, (Below.refl _ _).grown hgrow (Nat.le_refl _) (by simp)⟩⟩
  case round =>
    obtain ⟨k, cv, zs, hk, rfl, hc0, hc1, rfl, rfl, hI⟩ := hrel
    by_cases hkn : k < n
    · have hkx : k < xs.length := by have := HX.out; omega
      obtain ⟨b, off, rfl, hbl, hcx0⟩ := HRX.out k hkx
      have hcx := (hI.below.cell (p := ⟨b, off + k, none⟩) hbl).trans hcx0
      clear hcx0
      have hxd := dig_at HDX.out k hkx
      obtain ⟨hx0, hx1⟩ := hxd
      by_cases hkm : k < m
      · have hky : k < ys.length := by have := HY.out; omega
        obtain ⟨b', off', rfl, hbl', hcy0⟩ := HRY.out k hky
        have hcy := (hI.below.cell (p := ⟨b', off' + k, none⟩) hbl').trans hcy0
        clear hcy0
        obtain ⟨hy0, hy1⟩ := dig_at HDY.out k hky
        by_cases hlt : xs[k] < cv + ys[k]
        · go_wp2_with (at_builtin; refine wpList_append_fits _ rfl _ _ 55 rfl w.heap.size 109 i0 1 Try.underlying55 hi hz1 w.heap.size k n _ rfl (hI.own.alloc _) ⟨wr.heap.size, 0, none⟩ 1 1 [.int .u32 (xs[k] + 4294967296 - (cv + ys[k]))] rfl rfl (cell_one_new _ _ _) (one_cell _ _) (by omega) ?_)
          intro w2 hown2 hgrow2
          go_wp2
          go_roundw
          case rel => exact ⟨k + 1, 1, zs ++ [xs[k] + 4294967296 - (cv + ys[k])], by omega, by go_num, by decide, by decide, rfl, rfl, sub_step hI hc0 hc1 _ 1 (by decide) (by omega) (by omega) (by simp [List.getD, hkx, hky] <;> omega) hown2 hgrow2⟩
          case measure => simp [intOf]; omega
        · go_wp2_with (at_builtin; refine wpList_append_fits _ rfl _ _ 55 rfl w.heap.size 109 i0 1 Try.underlying55 hi hz1 w.heap.size k n _ rfl (hI.own.alloc _) ⟨wr.heap.size, 0, none⟩ 1 1 [.int .u32 (xs[k] - (cv + ys[k]))] rfl rfl (cell_one_new _ _ _) (one_cell _ _) (by omega) ?_)
          intro w2 hown2 hgrow2
          go_wp2
          go_roundw
          case rel => exact ⟨k + 1, 0, zs ++ [xs[k] - (cv + ys[k])], by omega, by go_num, by decide, by decide, rfl, rfl, sub_step hI hc0 hc1 _ 0 (by decide) (by omega) (by omega) (by simp [List.getD, hkx, hky] <;> omega) hown2 hgrow2⟩
          case measure => simp [intOf]; omega
      · by_cases hlt : xs[k] < cv
        · go_wp2_with (at_builtin; refine wpList_append_fits _ rfl _ _ 55 rfl w.heap.size 109 i0 1 Try.underlying55 hi hz1 w.heap.size k n _ rfl (hI.own.alloc _) ⟨wr.heap.size, 0, none⟩ 1 1 [.int .u32 (xs[k] + 4294967296 - cv)] rfl rfl (cell_one_new _ _ _) (one_cell _ _) (by omega) ?_)
          intro w2 hown2 hgrow2
          go_wp2
          go_roundw
          case rel => exact ⟨k + 1, 1, zs ++ [xs[k] + 4294967296 - cv], by omega, by go_num, by decide, by decide, rfl, rfl, sub_step hI hc0 hc1 _ 1 (by decide) (by omega) (by omega) (by have := HY.out; simp [List.getD, hkx, show ¬ k < ys.length by omega] <;> omega) hown2 hgrow2⟩
          case measure => simp [intOf]; omega
        · go_wp2_with (at_builtin; refine wpList_append_fits _ rfl _ _ 55 rfl w.heap.size 109 i0 1 Try.underlying55 hi hz1 w.heap.size k n _ rfl (hI.own.alloc _) ⟨wr.heap.size, 0, none⟩ 1 1 [.int .u32 (xs[k] - cv)] rfl rfl (cell_one_new _ _ _) (one_cell _ _) (by omega) ?_)
          intro w2 hown2 hgrow2
          go_wp2
          go_roundw
          case rel => exact ⟨k + 1, 0, zs ++ [xs[k] - cv], by omega, by go_num, by decide, by decide, rfl, rfl, sub_step hI hc0 hc1 _ 0 (by decide) (by omega) (by omega) (by have := HY.out; simp [List.getD, hkx, show ¬ k < ys.length by omega] <;> omega) hown2 hgrow2⟩
          case measure => simp [intOf]; omega
    · go_wp2
      go_ret
      obtain rfl : k = n := by omega
      exact ⟨sub_done hI hc0 hc1 HX.out HDX.out HDY.out HLE.out, _, rfl⟩
set_option maxHeartbeats 400000 in
theorem trim_at (neg : Bool) (ao : Option Addr) (n cap : Nat) (ds : List Int) (w : World) (hn : ds.length = n) (hc : n ≤ cap) (hd : Dig ds) (hr : Rd w ao ds) (hm : n ≤ 1000000000) :
    Calls Try.prog 94 #[.bool neg, .slice ao n cap] w (TrimAt neg ao n ds w) := by
  go_enter Try.func94, Try.ntmps94
  go_wp2
  go_loop [5] (fun i => ∃ k : Nat, k ≤ n ∧ i = .int .i64 k ∧ ∀ j, k ≤ j → (h : j < ds.length) → ds[j] = 0) (fun i => (intOf i).toNat)
  case atStart => exact ⟨n, Nat.le_refl _, rfl, fun j h1 h2 => by omega⟩
  case round =>
    obtain ⟨k, hk, rfl, hz⟩ := hrel
    have HN : Hid (ds.length = n) := hn
    have HD : Hid (Dig ds) := hd
    have HZ : Hid (∀ j, k ≤ j → (h : j < ds.length) → ds[j] = 0) := hz
    have HR : Hid (Rd w ao ds) := hr
    clear hz hr hd hn
    by_cases hk0 : 0 < k
    · obtain ⟨m, rfl⟩ : ∃ m, k = m + 1 := ⟨k - 1, by omega⟩
      have hml : m < ds.length := by have := HN.out; omega
      obtain ⟨b, off, rfl, hbl, hcell0⟩ := HR.out m hml
      have hcell := cell_alloc (o := Obj.cells #[Value.bool false, Value.slice none 0 0] 57) hbl hcell0
      clear hcell0
      go_wp2
      · go_round
        case rel =>
          have h0 : (ds[m] == 0) = true := by assumption
          exact ⟨m, by omega, by go_num, fun j h1 h2 => by
            by_cases e : j = m
            · subst e; simpa using h0
            · exact HZ.out j (by omega) h2⟩
        case measure => simp [intOf]
      · refine bodyPost_ret (v := .agg #[.bool neg, .slice (some ⟨b, off, none⟩) (m + 1) cap]) (by simp [results, Try.results94, go_sem]) rfl ?_
        have h0 : (ds[m] == 0) = false := by assumption
        exact ⟨trim_some neg n cap ds w _ HN.out hc HD.out HR.out m hml (by simpa using h0) HZ.out ((Below.refl _ _).alloc (Nat.le_refl _) _), _, _, _, _, rfl, Or.inl rfl⟩
    · go_wp2
      refine bodyPost_ret (v := .agg #[.bool false, .slice none 0 0]) (by simp [results, Try.results94, go_sem]) rfl ?_
      exact ⟨trim_none neg n ds w _ (fun j h => HZ.out j (by omega) h) ((Below.refl _ _).alloc (Nat.le_refl _) _), _, _, _, _, rfl, Or.inr rfl⟩
end Go.Proofs.Ytddniklhpkagmaa
