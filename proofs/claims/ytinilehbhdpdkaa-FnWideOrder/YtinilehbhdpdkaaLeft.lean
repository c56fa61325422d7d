/- The walk of the shift to the left. -/
import Derived.Test.YtinilehbhdpdkaaTrim
import Derived.Test.YtinilehbhdpdkaaSubAbs
import Derived.Test.YtinilehbhdpdkaaBit
namespace Go.Proofs.Ytinilehbhdpdkaa
open Go.RowKit
structure LeftI (w wr : World) (ds : List Int) (q : Nat) (p : Int) (k : Nat) (c : Int) (g cp : Nat) (zs : List Int) : Prop where
  len : zs.length = q + k
  dig : Dig zs
  eq : val zs + c * pw (q + k) = pw q * (p * val (ds.take k))
  own : wr.ownsRow w.heap.size 63 1 (.slice (some ⟨g, 0, none⟩) (q + k) cp) (q + k) (zs.map (Value.int .u32))
  below : Below w.heap.size w wr
/-- Digits without a 0 at the high end that stand for the number z. -/
def NrmP (k : Nat) (z : Int) (w : World) (e : Ending) (w' : World) : Prop :=
  ∃ (ao : Option Addr) (n cap : Nat) (zs : List Int), e = .returned (.slice ao n cap) ∧ zs.length = n ∧ n ≤ cap ∧ n ≤ k ∧ Nrm zs ∧ val zs = z ∧ Rd w' ao zs ∧ Below w.heap.size w w'
theorem left_start (w w1 : World) (ds : List Int) (q : Nat) (p : Int) (hown : w1.ownsRow w.heap.size 63 1 (.slice (some ⟨w.heap.size, 0, none⟩) q q) q (madeCells #[Value.int .u32 0] q).toList) (hgrow : w.grownBy w1 none) :
    LeftI w w1 ds q p 0 0 w.heap.size q (List.replicate q 0) := by
  refine ⟨by simp, fun d hd => by rw [List.eq_of_mem_replicate hd]; decide, by simp [val_zeros, val], ?_, (Below.refl _ _).grown hgrow (Nat.le_refl _) (by simp)⟩
  rw [made_one] at hown
  simpa using hown
theorem left_step {w wr w2 : World} {ds : List Int} {q : Nat} {p : Int} {k : Nat} {c : Int} {g cp : Nat} {zs : List Int} (hI : LeftI w wr ds q p k c g cp zs) (hk : k < ds.length) (x : Int) (hx : x = c + ds[k] * p) (g' cp' : Nat) {o : Obj}
    (hown : w2.ownsRow w.heap.size 63 1 (.slice (some ⟨g', 0, none⟩) (q + k + 1) cp') (q + k + 1) (zs.map (Value.int .u32) ++ [.int .u32 (x % 4294967296)])) (hgrow : (wr.alloc o).grownBy w2 (some g)) :
    LeftI w w2 ds q p (k + 1) (x / 4294967296) g' cp' (zs ++ [x % 4294967296]) := by
  refine ⟨by simp [hI.len, Nat.add_assoc], dig_append.2 ⟨hI.dig, dig_cons.2 ⟨⟨by omega, by omega⟩, dig_nil⟩⟩, left_eq ds zs q k hI.len p c x hI.eq hk hx, by simpa [Nat.add_assoc] using hown, ?_⟩
  have hs := hI.below.size
  refine (hI.below.alloc hs o).grown hgrow (by simp; omega) ?_
  intro j hj
  cases hj
  exact (hI.own.lt g rfl).1
theorem left_last {w wr w2 : World} {ds : List Int} {q : Nat} {p : Int} {k : Nat} {c : Int} {g cp : Nat} {zs : List Int} (hI : LeftI w wr ds q p k c g cp zs) (hc0 : 0 ≤ c) (hc1 : c < 4294967296) {g' cp' : Nat} {o : Obj}
    (hown : w2.ownsRow w.heap.size 63 1 (.slice (some ⟨g', 0, none⟩) (q + k + 1) cp') (q + k + 1) (zs.map (Value.int .u32) ++ [.int .u32 c])) (hgrow : (wr.alloc o).grownBy w2 (some g)) :
    (zs ++ [c]).length = q + k + 1 ∧ Dig (zs ++ [c]) ∧ val (zs ++ [c]) = val zs + c * pw (q + k) ∧ Rd w2 (some ⟨g', 0, none⟩) (zs ++ [c]) ∧ Below w.heap.size w w2 := by
  have hl : (zs ++ [c]).length = q + k + 1 := by simp [hI.len]
  refine ⟨hl, dig_append.2 ⟨hI.dig, dig_cons.2 ⟨⟨hc0, hc1⟩, dig_nil⟩⟩, by rw [val_snoc, hI.len, Int.mul_comm c], Rd.own (by simpa using hown) hl, ?_⟩
  have hs := hI.below.size
  refine (hI.below.alloc hs o).grown hgrow (by simp; omega) ?_
  intro j hj
  cases hj
  exact (hI.own.lt g rfl).1
set_option maxRecDepth 100000 in
set_option maxHeartbeats 1000000 in
theorem left_any (ao : Option Addr) (n cap : Nat) (s : Nat) (ds : List Int) (w : World) (hn : ds.length = n) (hd : Dig ds) (hr : Rd w ao ds) (hm : n ≤ 1000000) (hs : s ≤ 1000000) :
    Calls Try.prog 34 #[.slice ao n cap, .int .i64 s] w (NrmP (s / 32 + n + 1) (pw (s / 32) * (2 ^ (s % 32) * val ds)) w) := by
  obtain ⟨i0, hi, hz0, hz1, hz2⟩ := info_parts Try.info88
  have HN : Hid (ds.length = n) := hn
  have HD : Hid (Dig ds) := hd
  have HR : Hid (Rd w ao ds) := hr
  clear hn hd hr
  go_enter Try.func34, Try.ntmps34
  go_wp2_with (at_make; refine wpList_make_full _ rfl _ _ 45 rfl w.heap.size 63 i0 (.int .u32 0) 1 Try.underlying45 hi hz0 hz1 _ _ _ _ (s / 32) rfl rfl (by omega) (by omega) (by rw [hz2]; omega) (by unfold maxLen; omega) (Nat.le_refl _) ?_)
  intro w1 hown hgrow
  have HS := left_start w w1 ds (s / 32) (2 ^ (s % 32)) hown hgrow
  clear hown hgrow
  go_wp2
  go_loopw [5, 7, 8] (fun o c i wr => ∃ (k : Nat) (cv : Int) (zs : List Int) (g cp : Nat), k ≤ n ∧ i = .int .i64 k ∧ 0 ≤ cv ∧ cv < 2 ^ (s % 32) ∧ c = .int .u64 cv ∧ o = .slice (some ⟨g, 0, none⟩) (s / 32 + k) cp ∧ LeftI w wr ds (s / 32) (2 ^ (s % 32)) k cv g cp zs) (fun _ _ i _ => n - (intOf i).toNat)
  case atStart => exact ⟨0, 0, _, _, _, Nat.zero_le _, rfl, by decide, Int.pow_pos (by decide), rfl, rfl, HS⟩
  case round =>
    obtain ⟨k, cv, zs, g, cp, hk, rfl, hc0, hc1, rfl, rfl, hI⟩ := hrel
    clear HS
    by_cases hkn : k < n
    · have hkx : k < ds.length := by have := HN.out; omega
      obtain ⟨b, off, rfl, hbl, hcx0⟩ := HR.out k hkx
      have hcx := (hI.below.cell (p := ⟨b, off + k, none⟩) hbl).trans hcx0
      clear hcx0
      obtain ⟨hx0, hx1⟩ := dig_at HD.out k hkx
      obtain ⟨x, hx⟩ : ∃ x, x = cv + ds[k] * 2 ^ (s % 32) := ⟨_, rfl⟩
      have hor : bits .or .u64 cv (IntKind.u64.wrap (ds[k] * 2 ^ (s % 32))) = x := by rw [hx]; exact or_shl cv _ _ (by omega) hc0 hc1 hx0 hx1
      obtain ⟨hy0, hy1⟩ := left_carry cv ds[k] (2 ^ (s % 32)) hc0 hc1 hx0 hx1
      rw [← hx] at hy0 hy1
      have HX : Hid (x = cv + ds[k] * 2 ^ (s % 32)) := hx
      have HC : Hid (cv < 2 ^ (s % 32)) := hc1
      have HY : Hid (x / 4294967296 < 2 ^ (s % 32)) := hy1
      clear hx hc1 hy1
      have hlen := hI.len
      go_wp2_with (at_builtin; refine wpList_append_own _ rfl _ _ 45 rfl w.heap.size 63 i0 (.int .u32 0) 1 4 Try.underlying45 hi hz0 hz1 hz2 rfl (by decide) _ _ _ rfl (hI.own.alloc _) ⟨wr.heap.size, 0, none⟩ 1 1 [.int .u32 (x % 4294967296)] rfl rfl (cell_one_new _ _ _) (one_cell _ _) (by unfold maxLen; omega) (by omega) (by have := hI.below.size; simp; omega) ?_)
      intro v' w2 hown2 hgrow2 hnn
      obtain ⟨g', cp', hv⟩ := own_shape hown2 hnn
      subst hv
      have R := left_step hI hkx x HX.out g' cp' hown2 hgrow2
      clear hown2 hgrow2 hnn hI
      go_wp2
      go_roundw
      case rel => exact ⟨k + 1, x / 4294967296, _, g', cp', by omega, by go_num, by omega, HY.out, rfl, by rw [Nat.add_assoc], R⟩
      case measure => simp [intOf]; omega
    · obtain rfl : k = n := by omega
      have HEQ := hI.eq
      rw [List.take_of_length_le (by have := HN.out; omega)] at HEQ
      have hp32 : (2 : Int) ^ (s % 32) ≤ 4294967296 := by rw [ipow]; have := pow_le_32 (s % 32) (by omega); omega
      have hc2 : cv < 4294967296 := by omega
      have HQ : Hid (val zs + cv * pw (s / 32 + k) = pw (s / 32) * (2 ^ (s % 32) * val ds)) := HEQ
      clear HEQ hp32 hc1
      have hlen := hI.len
      have hle := own_cap hI.own
      by_cases hcp : 0 < cv
      · go_wp2_with (at_builtin; refine wpList_append_own _ rfl _ _ 45 rfl w.heap.size 63 i0 (.int .u32 0) 1 4 Try.underlying45 hi hz0 hz1 hz2 rfl (by decide) _ _ _ rfl (hI.own.alloc _) ⟨wr.heap.size, 0, none⟩ 1 1 [.int .u32 cv] rfl rfl (cell_one_new _ _ _) (one_cell _ _) (by unfold maxLen; omega) (by omega) (by have := hI.below.size; simp; omega) ?_)
        intro v' w2 hown2 hgrow2 hnn
        obtain ⟨g', cp', hv⟩ := own_shape hown2 hnn
        subst hv
        have R := left_last hI (by omega) (by omega) hown2 hgrow2
        have hle2 := own_cap hown2
        clear hown2 hgrow2 hnn hI
        go_wp2_with fail
        refine (trim_any false _ _ _ (zs ++ [cv]) _ R.1 hle2 R.2.1 R.2.2.2.1 (by omega)).mono ?_
        rintro e w3 ⟨neg', ao', n', cap', ds', rfl, h1, h2, h3, h4, h5, _, h7, h8⟩
        have HF : Hid (val ds' = pw (s / 32) * (2 ^ (s % 32) * val ds)) := by show _ = _; rw [h5, R.2.2.1, HQ.out]
        have HB := R.2.2.2.2.trans (h8.mono R.2.2.2.2.size)
        clear h5 R h8
        have hfd := field_d
        go_wp2
        go_ret
        exact ⟨_, _, _, ds', rfl, h1, h2, h3, h4, HF.out, h7, HB⟩
      · obtain rfl : cv = 0 := by omega
        have R1 := hI.dig
        have R2 := Rd.own hI.own hI.len
        have R3 := hI.below
        clear hI
        go_wp2_with fail
        refine (trim_any false _ _ _ zs _ hlen hle R1 R2 (by omega)).mono ?_
        rintro e w3 ⟨neg', ao', n', cap', ds', rfl, h1, h2, h3, h4, h5, _, h7, h8⟩
        have HF : Hid (val ds' = pw (s / 32) * (2 ^ (s % 32) * val ds)) := by show _ = _; rw [h5, ← HQ.out]; simp
        have HB := R3.trans (h8.mono R3.size)
        clear h5 R1 R2 R3 h8
        have hfd := field_d
        go_wp2
        go_ret
        exact ⟨_, _, _, ds', rfl, h1, h2, by omega, h4, HF.out, h7, HB⟩
end Go.Proofs.Ytinilehbhdpdkaa
