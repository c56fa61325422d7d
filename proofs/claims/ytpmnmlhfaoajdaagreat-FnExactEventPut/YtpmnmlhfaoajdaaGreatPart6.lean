/- Part 6 of the walks that the proof leans on. -/
import Derived.Test.YtpmnmlhfaoajdaaGreatPart1
import Derived.Test.YtpmnmlhfaoajdaaGreatPart5
import Derived.Test.YtpmnmlhfaoajdaaGreatPart2
import Derived.Test.YtpmnmlhfaoajdaaGreatPart3
import Derived.Deep.RegionHeld3
import Derived.Test.YtpmnmlhfaoajdaaGreatPart4
import Derived.Deep.DeepCutAuto
set_option maxRecDepth 100000
set_option maxHeartbeats 16000000
namespace Go.Proofs.YtpmnmlhfaoajdaaGreat
open Go.RowKit
def SubAt (n : Nat) (z : Int) (w : World) (e : Ending) (w' : World) : Prop := DigsP n z w e w' ∧ ∃ cap, e = .returned (.slice (some ⟨w.heap.size, 0, none⟩) n cap)
def TrimAt (neg : Bool) (ao : Option Addr) (n : Nat) (ds : List Int) (w : World) (e : Ending) (w' : World) : Prop :=
 TrimP neg n ds w e w' ∧ ∃ s' ao' n' cap', e = .returned (.agg #[.bool s', .slice ao' n' cap']) ∧ (ao' = ao ∨ ao' = none)
theorem subAbs_at (ao bo : Option Addr) (n m ca cb : Nat) (xs ys : List Int) (w : World) (hx : xs.length = n) (hy : ys.length = m) (dx : Dig xs) (dy : Dig ys) (rx : Rd w ao xs) (ry : Rd w bo ys) (hm : n ≤ 1000000) (_hm' : m ≤ 1000000)
   (hle : val ys ≤ val xs) :
   Calls Tryz.prog 87 #[.slice ao n ca, .slice bo m cb] w (SubAt n (val xs - val ys) w) := by
 obtain ⟨i0, hi, hz0, hz1, hz2⟩ := info_parts Tryz.info88
 have HX : Hid (xs.length = n) := hx
 have HY : Hid (ys.length = m) := hy
 have HDX : Hid (Dig xs) := dx
 have HDY : Hid (Dig ys) := dy
 have HRX : Hid (Rd w ao xs) := rx
 have HRY : Hid (Rd w bo ys) := ry
 have HLE : Hid (val ys ≤ val xs) := hle
 clear rx ry dx dy hx hy hle
 go_enter Tryz.func87, Tryz.ntmps87
 go_wp2_with (at_make; refine wpList_make_own _ rfl _ _ 54 rfl w.heap.size 123 i0 (.int .u32 0) 1 Tryz.underlying54 hi hz0 hz1 _ _ _ n rfl rfl rfl (by rw [hz2]; omega) (by unfold maxLen; omega) (Nat.le_refl _) ?_)
 intro w1 hown hgrow
 go_wp2
 go_loopw [5, 6, 7] (fun o c i wr => ∃ (k : Nat) (cv : Int) (zs : List Int), k ≤ n ∧ i = .int .i64 k ∧ 0 ≤ cv ∧ cv ≤ 1 ∧ c = .int .u64 cv ∧ o = .slice (some ⟨w.heap.size, 0, none⟩) k n ∧ SubI w wr n xs ys k cv zs) (fun _ _ i _ => n - (intOf i).toNat)
 case atStart => exact ⟨0, 0, [], Nat.zero_le _, rfl, by decide, by decide, rfl, rfl, ⟨rfl, dig_nil, by simp [val], hown, (Below.refl _ _).grown hgrow (Nat.le_refl _) (by simp)⟩⟩
 case round =>
   obtain ⟨k, cv, zs, hk, rfl, hc0, hc1, rfl, rfl, hI⟩ := hrel
   by_cases hkn : k < n
   · have hkx : k < xs.length := by have := HX.out; omega
     obtain ⟨b, off, rfl, hbl, hcx0⟩ := HRX.out k hkx
     have hcx := (hI.below.cell (p := ⟨b, off + k, none⟩) hbl).trans hcx0
     clear hcx0
     have hxd := dig_at HDX.out k hkx
     obtain ⟨hx0, hx1⟩ := hxd
     by_cases hkm : k < m
     · have hky : k < ys.length := by have := HY.out; omega
       obtain ⟨b', off', rfl, hbl', hcy0⟩ := HRY.out k hky
       have hcy := (hI.below.cell (p := ⟨b', off' + k, none⟩) hbl').trans hcy0
       clear hcy0
       obtain ⟨hy0, hy1⟩ := dig_at HDY.out k hky
       by_cases hlt : xs[k] < cv + ys[k]
       · go_wp2_with (at_builtin; refine wpList_append_fits _ rfl _ _ 54 rfl w.heap.size 123 i0 1 Tryz.underlying54 hi hz1 w.heap.size k n _ rfl (hI.own.alloc _) ⟨wr.heap.size, 0, none⟩ 1 1 [.int .u32 (xs[k] + 4294967296 - (cv + ys[k]))] rfl rfl (cell_one_new _ _ _) (one_cell _ _) (by omega) ?_)
         intro w2 hown2 hgrow2
         go_wp2
         go_roundw
         case rel => exact ⟨k + 1, 1, zs ++ [xs[k] + 4294967296 - (cv + ys[k])], by omega, by go_num, by decide, by decide, rfl, rfl, sub_step hI hc0 hc1 _ 1 (by decide) (by omega) (by omega) (by simp [List.getD, hkx, hky] <;> omega) hown2 hgrow2⟩
         case measure => simp [intOf]; omega
       · go_wp2_with (at_builtin; refine wpList_append_fits _ rfl _ _ 54 rfl w.heap.size 123 i0 1 Tryz.underlying54 hi hz1 w.heap.size k n _ rfl (hI.own.alloc _) ⟨wr.heap.size, 0, none⟩ 1 1 [.int .u32 (xs[k] - (cv + ys[k]))] rfl rfl (cell_one_new _ _ _) (one_cell _ _) (by omega) ?_)
         intro w2 hown2 hgrow2
         go_wp2
         go_roundw
         case rel => exact ⟨k + 1, 0, zs ++ [xs[k] - (cv + ys[k])], by omega, by go_num, by decide, by decide, rfl, rfl, sub_step hI hc0 hc1 _ 0 (by decide) (by omega) (by omega) (by simp [List.getD, hkx, hky] <;> omega) hown2 hgrow2⟩
         case measure => simp [intOf]; omega
     · by_cases hlt : xs[k] < cv
       · go_wp2_with (at_builtin; refine wpList_append_fits _ rfl _ _ 54 rfl w.heap.size 123 i0 1 Tryz.underlying54 hi hz1 w.heap.size k n _ rfl (hI.own.alloc _) ⟨wr.heap.size, 0, none⟩ 1 1 [.int .u32 (xs[k] + 4294967296 - cv)] rfl rfl (cell_one_new _ _ _) (one_cell _ _) (by omega) ?_)
         intro w2 hown2 hgrow2
         go_wp2
         go_roundw
         case rel => exact ⟨k + 1, 1, zs ++ [xs[k] + 4294967296 - cv], by omega, by go_num, by decide, by decide, rfl, rfl, sub_step hI hc0 hc1 _ 1 (by decide) (by omega) (by omega) (by have := HY.out; simp [List.getD, hkx, show ¬ k < ys.length by omega] <;> omega) hown2 hgrow2⟩
         case measure => simp [intOf]; omega
       · go_wp2_with (at_builtin; refine wpList_append_fits _ rfl _ _ 54 rfl w.heap.size 123 i0 1 Tryz.underlying54 hi hz1 w.heap.size k n _ rfl (hI.own.alloc _) ⟨wr.heap.size, 0, none⟩ 1 1 [.int .u32 (xs[k] - cv)] rfl rfl (cell_one_new _ _ _) (one_cell _ _) (by omega) ?_)
         intro w2 hown2 hgrow2
         go_wp2
         go_roundw
         case rel => exact ⟨k + 1, 0, zs ++ [xs[k] - cv], by omega, by go_num, by decide, by decide, rfl, rfl, sub_step hI hc0 hc1 _ 0 (by decide) (by omega) (by omega) (by have := HY.out; simp [List.getD, hkx, show ¬ k < ys.length by omega] <;> omega) hown2 hgrow2⟩
         case measure => simp [intOf]; omega
   · go_wp2
     go_ret
     obtain rfl : k = n := by omega
     exact ⟨sub_done hI hc0 hc1 HX.out HDX.out HDY.out HLE.out, _, rfl⟩
theorem trim_at (neg : Bool) (ao : Option Addr) (n cap : Nat) (ds : List Int) (w : World) (hn : ds.length = n) (hc : n ≤ cap) (hd : Dig ds) (hr : Rd w ao ds) (hm : n ≤ 1000000000) :
   Calls Tryz.prog 84 #[.bool neg, .slice ao n cap] w (TrimAt neg ao n ds w) := by
 go_enter Tryz.func84, Tryz.ntmps84
 go_wp2
 go_loop [5] (fun i => ∃ k : Nat, k ≤ n ∧ i = .int .i64 k ∧ ∀ j, k ≤ j → (h : j < ds.length) → ds[j] = 0) (fun i => (intOf i).toNat)
 case atStart => exact ⟨n, Nat.le_refl _, rfl, fun j h1 h2 => by omega⟩
 case round =>
   obtain ⟨k, hk, rfl, hz⟩ := hrel
   have HN : Hid (ds.length = n) := hn
   have HD : Hid (Dig ds) := hd
   have HZ : Hid (∀ j, k ≤ j → (h : j < ds.length) → ds[j] = 0) := hz
   have HR : Hid (Rd w ao ds) := hr
   clear hz hr hd hn
   by_cases hk0 : 0 < k
   · obtain ⟨m, rfl⟩ : ∃ m, k = m + 1 := ⟨k - 1, by omega⟩
     have hml : m < ds.length := by have := HN.out; omega
     obtain ⟨b, off, rfl, hbl, hcell0⟩ := HR.out m hml
     have hcell := cell_alloc (o := Obj.cells #[Value.bool false, Value.slice none 0 0] 56) hbl hcell0
     clear hcell0
     go_wp2
     · go_round
       case rel =>
         have h0 : (ds[m] == 0) = true := by assumption
         exact ⟨m, by omega, by go_num, fun j h1 h2 => by
           by_cases e : j = m
           · subst e; simpa using h0
           · exact HZ.out j (by omega) h2⟩
       case measure => simp [intOf]
     · refine bodyPost_ret (v := .agg #[.bool neg, .slice (some ⟨b, off, none⟩) (m + 1) cap]) (by simp [results, Tryz.results84, go_sem]) rfl ?_
       have h0 : (ds[m] == 0) = false := by assumption
       exact ⟨trim_some neg n cap ds w _ HN.out hc HD.out HR.out m hml (by simpa using h0) HZ.out ((Below.refl _ _).alloc (Nat.le_refl _) _), _, _, _, _, rfl, Or.inl rfl⟩
   · go_wp2
     refine bodyPost_ret (v := .agg #[.bool false, .slice none 0 0]) (by simp [results, Tryz.results84, go_sem]) rfl ?_
     exact ⟨trim_none neg n ds w _ (fun j h => HZ.out j (by omega) h) ((Below.refl _ _).alloc (Nat.le_refl _) _), _, _, _, _, rfl, Or.inr rfl⟩
def DivP (n : Nat) (X Y : Int) (w : World) (e : Ending) (w' : World) : Prop :=
 ∃ (qo : Option Addr) (qn qc : Nat) (qs : List Int) (ro : Option Addr) (rn rc : Nat) (rs : List Int), e = .returned (.tuple #[.slice qo qn qc, .slice ro rn rc]) ∧
   (qs.length = qn ∧ qn ≤ qc ∧ qn ≤ n + 1 ∧ Nrm qs ∧ val qs = X / Y ∧ Rd w' qo qs) ∧ (rs.length = rn ∧ rn ≤ rc ∧ rn ≤ n ∧ Nrm rs ∧ val rs = X % Y ∧ Rd w' ro rs) ∧ Below w.heap.size w w'
theorem bits_le32 {v : Int} {b n : Nat} (h : BitsOf v b) (hv : v < pw n) : b ≤ 32 * n := by
 apply Decidable.byContradiction
 intro hn
 have hp := p2_pow (32 * n)
 rw [show 32 * n / 32 = n by omega, show 32 * n % 32 = 0 by omega] at hp
 simp only [Int.pow_zero, Int.mul_one] at hp
 rw [hp] at hv
 rcases h.2.2 with h2 | h2
 · omega
 · have := ipow2_mono (show 32 * n ≤ b - 1 by omega)
   omega
structure DvM (W wr : World) (g : Nat) (qs : List Int) (ro : Option Addr) (rn rc : Nat) (rs : List Int) (n : Nat) : Prop where
 below : Below W.heap.size W wr
 q : Blk wr g (qs.map (Value.int .u32))
 rlen : rs.length = rn
 rcap : rn ≤ rc
 rle : rn ≤ n
 rnrm : Nrm rs
 rrd : Rd wr ro rs
 rne : ∀ b off, ro = some ⟨b, off, none⟩ → rs ≠ [] → b ≠ g
theorem DvM.step {W wr wr' : World} {g : Nat} {qs : List Int} {ro : Option Addr} {rn rc : Nat} {rs : List Int} {n : Nat} (h : DvM W wr g qs ro rn rc rs n) (hB : Below wr.heap.size wr wr') : DvM W wr' g qs ro rn rc rs n :=
 ⟨h.below.trans (hB.mono h.below.size), h.q.step hB, h.rlen, h.rcap, h.rle, h.rnrm, h.rrd.below hB (Nat.le_refl _), h.rne⟩
theorem Rd.setNe {w : World} {ao : Option Addr} {ds : List Int} (h : Rd w ao ds) {p : Addr} (hp : ∀ b off, ao = some ⟨b, off, none⟩ → ds ≠ [] → b ≠ p.block) (u : Value) : Rd (w.setCell p u) ao ds := by
 intro i hi
 obtain ⟨b, off, e, hb, hc⟩ := h i hi
 refine ⟨b, off, e, by simpa [World.setCell] using hb, (World.cell?_setCell_other _ _ _ _ ?_).trans hc⟩
 intro e2
 rw [e2] at hp
 exact hp b off e (by rintro rfl; simp at hi) rfl
theorem divAbs_any (ao bo : Option Addr) (n m ca cb : Nat) (xs ys : List Int) (w : World) (hx : xs.length = n) (hy : ys.length = m) (nx : Nrm xs) (ny : Nrm ys) (rx : Rd w ao xs) (ry : Rd w bo ys) (hc : n ≤ ca) (hn : n ≤ 10000) (hm : m ≤ 10000) (hY : 0 < val ys) :
   Calls Tryz.prog 83 #[.slice ao n ca, .slice bo m cb] w (DivP n (val xs) (val ys) w) := by
 obtain ⟨i0, hi, hz0, hz1, hz2⟩ := info_parts Tryz.info88
 go_enter Tryz.func83, Tryz.ntmps83
 go_wp2_with fail
 refine (bits_any ao n ca xs _ hx nx rx (by omega)).mono ?_
 rintro e w1 ⟨bx, rfl, hbx, hB⟩
 replace rx := rx.below hB (Nat.le_refl _)
 replace ry := ry.below hB (Nat.le_refl _)
 have HB1 := hB
 clear hB
 go_wp2_with fail
 refine (bits_any bo m cb ys _ hy ny ry (by omega)).mono ?_
 rintro e w2 ⟨bz, rfl, hbz, hB⟩
 replace rx := rx.below hB (Nat.le_refl _)
 replace ry := ry.below hB (Nat.le_refl _)
 have HB2 : Below w.heap.size w w2 := HB1.trans (hB.mono HB1.size)
 clear hB HB1
 have l1 := bits_le32 (n := n) hbx (by rw [← hx]; exact val_lt nx.1)
 have l2 := bits_le32 (n := m) hbz (by rw [← hy]; exact val_lt ny.1)
 by_cases hlt : bx < bz
 · obtain ⟨v1, v2, v3⟩ := dv_less hbx hbz hlt
   have i1 : (bx : Int) - bz < 0 := by omega
   clear hi hz0 hz1 hz2 hbx hbz
   go_wp2
   go_ret2
   exact ⟨none, 0, 0, [], ao, n, ca, xs, rfl, ⟨rfl, by omega, by omega, nrm_nil, by rw [v1]; rfl, Rd.nil _ _⟩, ⟨hx, hc, Nat.le_refl _, nx, v2.symm, rx⟩, HB2⟩
 · have HI := dv_start hbx hbz hY (by omega) ((bx - bz) / 32 + 1)
   obtain ⟨N, hN⟩ : ∃ N, bx - bz = N := ⟨_, rfl⟩
   have eN : (bx : Int) - bz = (N : Int) := by omega
   have hN1 : N ≤ 32 * n := by omega
   rw [hN] at HI
   clear hbx hbz hN hlt l1 l2
   obtain ⟨K, hK⟩ : ∃ K, N / 32 = K := ⟨_, rfl⟩
   have eK : (N : Int) / 32 = (K : Int) := by omega
   rw [hK] at HI
   go_wp2_with (at_make; refine wpList_make_full _ rfl _ _ 54 rfl w2.heap.size 123 i0 (.int .u32 0) 1 Tryz.underlying54 hi hz0 hz1 _ _ _ _ (K + 1) rfl rfl (by omega) (by omega) (by rw [hz2]; omega) (by unfold maxLen; omega) (Nat.le_refl _) ?_)
   intro w3 hown hgrow
   have M0 : DvM w2 w3 w2.heap.size (List.replicate (K + 1) 0) ao n ca xs n := by
     rw [made_one] at hown
     refine ⟨(Below.refl _ _).grown hgrow (Nat.le_refl _) (by simp), ⟨(hown.lt _ rfl).2, fun j v hj => ?_⟩, hx, hc, Nat.le_refl _, nx, rx.below ((Below.refl _ _).grown hgrow (Nat.le_refl _) (by simp)) (Nat.le_refl _), ?_⟩
     · have hjl : j < K + 1 := by
         apply Decidable.byContradiction
         intro hn
         rw [List.getElem?_eq_none (by simp; omega)] at hj
         cases hj
       refine ⟨?_, hown.frozenAt j⟩
       rw [hown.cellAt j (by omega)]
       simpa using hj
     · rintro b off rfl hne
       obtain ⟨b', off', e, hb, _⟩ := rx 0 (List.length_pos_iff.2 hne)
       cases e
       omega
   have HBW : Below w.heap.size w w3 := HB2.trans (M0.below.mono HB2.size)
   clear hown hgrow hi hz0 hz1 hz2
   have hKn : K ≤ n := by omega
   go_wp2
   go_loopw [8, 9] (fun r i wr => ∃ (k : Nat) (ro : Option Addr) (rn rc : Nat) (rs qs : List Int), k ≤ N + 1 ∧ i = .int .i64 ((k : Int) - 1) ∧ r = .slice ro rn rc ∧ DvI (val xs) (val ys) qs (val rs) k (K + 1) ∧ DvM w2 wr w2.heap.size qs ro rn rc rs n) (fun _ i _ => (intOf i + 1).toNat)
   case atStart => exact ⟨N + 1, ao, n, ca, xs, _, Nat.le_refl _, by go_num, rfl, HI, M0⟩
   case round =>
     clear HI M0
     obtain ⟨k, ro, rn, rc, rs, qs, hk, rfl, rfl, hI, hM⟩ := hrel
     by_cases hk0 : 0 < k
     · obtain ⟨j, rfl⟩ : ∃ j, k = j + 1 := ⟨k - 1, by omega⟩
       rw [show (((j + 1 : Nat) : Int) - 1) = (j : Int) by omega]
       have ryr := ry.below hM.below (Nat.le_refl _)
       go_wp2_with fail
       refine (left_any bo m cb j ys _ hy ny.1 ryr (by omega) (by omega)).mono ?_
       rintro e w4 ⟨so, sn, sc, ss, rfl, k1, k2, k3, k4, k5, k6, hB⟩
       have hM4 := hM.step hB
       have e2 : val ss = 2 ^ j * val ys := by rw [k5, ← Int.mul_assoc, p2_pow]
       clear hM hB k5 ryr
       go_wp2_with fail
       refine (cmpAbs_any ro so rn sn rc sc rs ss _ hM4.rlen k1 hM4.rnrm k4 hM4.rrd k6 (by have := hM4.rle; omega) (by omega)).mono ?_
       rintro e w5 ⟨rfl, hB⟩
       have hM5 := hM4.step hB
       replace k6 := k6.below hB (Nat.le_refl _)
       clear hM4 hB
       by_cases hle : val rs < 2 ^ j * val ys
       · have hcm : decide (0 ≤ cmpI (val rs) (val ss)) = false := by rw [cmpI_lt (by rw [e2]; exact hle)]; decide
         have R1 := dv_skip hI (by omega) hle
         clear hI e2 k1 k2 k3 k4 k6
         generalize cmpI (val rs) (val ss) = cm at *
         go_wp2
         go_roundw
         case rel => exact ⟨j, ro, rn, rc, rs, qs, by omega, by go_num, rfl, R1, hM5⟩
         case measure => simp [intOf]
       · have hcm : 0 ≤ cmpI (val rs) (val ss) := by
           rcases Int.lt_trichotomy (val rs) (val ss) with h | h | h
           · rw [e2] at h; exact absurd h hle
           · rw [cmpI_eq h]; decide
           · rw [cmpI_gt h]; decide
         generalize cmpI (val rs) (val ss) = cm at *
         go_wp2_with fail
         refine (subAbs_at ro so rn sn rc sc rs ss _ hM5.rlen k1 hM5.rnrm.1 k4.1 hM5.rrd k6 (by have := hM5.rle; omega) (by omega) (by rw [e2]; omega)).mono ?_
         rintro e w6 ⟨⟨o6, c6, z6, rfl, d1, d2, d3, d4, d5, hB⟩, c6', he⟩
         simp only [Ending.returned.injEq, Value.slice.injEq, true_and] at he
         obtain ⟨rfl, rfl⟩ := he
         have hM6 := hM5.step hB
         have hg5 := hM5.q.lt
         clear hM5 hB k1 k2 k3 k4 k6 hcm
         go_wp2_with fail
         refine (trim_at false (some ⟨w5.heap.size, 0, none⟩) rn c6 z6 _ d1 d2 d3 d5 (by have := hM6.rle; omega)).mono ?_
         rintro e w7 ⟨⟨s7, o7, n7, c7, z7, rfl, t1, t2, t3, t4, t5, t6, t7, hB⟩, s8, o8, n8, c8, he, ho⟩
         simp only [Ending.returned.injEq, Value.agg.injEq, Array.mk.injEq, List.cons.injEq, Value.bool.injEq, Value.slice.injEq, and_true] at he
         obtain ⟨rfl, rfl, rfl, rfl⟩ := he
         have hM7 := hM6.step hB
         have hjl : j / 32 < qs.length := by rw [hI.len]; omega
         obtain ⟨R1, oq⟩ := dv_take hI hjl (by omega)
         have ev : val z7 = val rs - 2 ^ j * val ys := by rw [t5, d4, e2]
         rw [← ev] at R1
         have cq := hM7.q.c (j / 32) (v := .int .u32 qs[j / 32]) (by simp [hjl])
         have fq := hM7.q.f (j / 32) (v := .int .u32 qs[j / 32]) (by simp [hjl])
         have hNe : ∀ b off, o7 = some ⟨b, off, none⟩ → z7 ≠ [] → b ≠ w2.heap.size := by
           rintro b off e _
           rcases ho with ho | ho
           · rw [ho] at e; cases e; omega
           · rw [ho] at e; cases e
         have R2 : DvM w2 (w7.setCell ⟨w2.heap.size, j / 32, none⟩ (.int .u32 (qs[j / 32] + 2 ^ (j % 32)))) w2.heap.size (qs.set (j / 32) (qs[j / 32] + 2 ^ (j % 32))) o7 n7 c7 z7 n := by
           refine ⟨hM7.below.setCell (Nat.le_refl _) _, ?_, t1, t2, by have := hM7.rle; omega, t4, t7.setNe hNe _, hNe⟩
           have := hM7.q.setI (j / 32) (by simpa using hjl) (.int .u32 (qs[j / 32] + 2 ^ (j % 32)))
           rwa [← List.map_set] at this
         clear hM6 hM7 t1 t2 t3 t4 t5 t6 t7 d1 d2 d3 d4 d5 hB ho hNe ev hI e2
         have e3 : (j : Int) / 32 = ((j / 32 : Nat) : Int) := by omega
         have e4 : (j : Int) % 32 = ((j % 32 : Nat) : Int) := by omega
         have e5 : ((j / 32 : Nat) : Int) < (K : Int) + 1 := by omega
         have fd := field_d (.bool s7) (.slice o7 n7 c7)
         have e6 : (2 : Int) ^ (j % 32) % 4294967296 = 2 ^ (j % 32) := by
           have h31 := ipow2_mono (show j % 32 ≤ 31 by omega)
           have hp := ipow_pos (j % 32)
           have : (2 : Int) ^ 31 = 2147483648 := by decide
           omega
         generalize hjq : j / 32 = jq at *
         generalize hjr : j % 32 = jr at *
         go_wp2
         go_roundw
         case rel =>
           exact ⟨j, o7, n7, c7, z7, _, by omega, rfl, rfl, R1, R2⟩
         case measure => simp [intOf]
     · obtain rfl : k = 0 := by omega
       obtain ⟨v1, v2⟩ := dv_end hI hY
       have hq := hM.q
       have rq : Rd wr (some ⟨w2.heap.size, 0, none⟩) qs := fun i hi => ⟨w2.heap.size, 0, rfl, hq.lt, by rw [Nat.zero_add]; exact hq.c i (by simp [hi])⟩
       have hlq := hI.len
       have hdq := hI.dig
       clear hI hq
       go_wp2_with fail
       refine (trim_at false (some ⟨w2.heap.size, 0, none⟩) (K + 1) (K + 1) qs _ hlq (Nat.le_refl _) hdq rq (by omega)).mono ?_
       rintro e w7 ⟨⟨s7, o7, n7, c7, z7, rfl, t1, t2, t3, t4, t5, t6, t7, hB⟩, _⟩
       have hM7 := hM.step hB
       have HBE : Below w.heap.size w w7 := HB2.trans (hM7.below.mono HB2.size)
       clear hM hB
       have fd := field_d (.bool s7) (.slice o7 n7 c7)
       clear t6
       go_wp2
       go_ret2
       exact ⟨o7, n7, c7, z7, ro, rn, rc, rs, rfl, ⟨t1, t2, by omega, t4, by rw [t5]; exact v1, t7⟩, ⟨hM7.rlen, hM7.rcap, hM7.rle, hM7.rnrm, v2, hM7.rrd⟩, HBE⟩
def digsOf (w : World) : Value → List Int
 | .slice (some a) n _ => (List.range n).map fun i => match w.cell? ⟨a.block, a.off + i, none⟩ with | some v => intOf v | none => 0
 | _ => []
theorem digs_of {w : World} {ao : Option Addr} {n cap : Nat} {ds : List Int} (h : Rd w ao ds) (hl : ds.length = n) : digsOf w (.slice ao n cap) = ds := by
 by_cases h0 : n = 0
 · subst h0
   have : ds = [] := List.eq_nil_of_length_eq_zero hl
   subst this
   cases ao <;> simp [digsOf]
 · obtain ⟨b, off, rfl, _, _⟩ := h 0 (by omega)
   simp only [digsOf]
   apply List.ext_getElem
   · simp [hl]
   · intro i h1 h2
     obtain ⟨b', off', e, _, hc⟩ := h i h2
     cases e
     simp [hc, intOf]
structure GdI (W wr : World) (xo : Option Addr) (xn xc : Nat) (xs : List Int) (yo : Option Addr) (yn yc : Nat) (ys : List Int) (k G : Nat) : Prop where
 below : Below W.heap.size W wr
 xlen : xs.length = xn
 xcap : xn ≤ xc
 xle : xn ≤ k
 xnrm : Nrm xs
 xrd : Rd wr xo xs
 ylen : ys.length = yn
 ycap : yn ≤ yc
 yle : yn ≤ k
 ynrm : Nrm ys
 yrd : Rd wr yo ys
 gcd : Int.gcd (val xs) (val ys) = G
theorem gcd_step {x y : Int} (hx : 0 ≤ x) (hy : 0 < y) : Int.gcd y (x % y) = Int.gcd x y := by
 obtain ⟨a, rfl⟩ := Int.eq_ofNat_of_zero_le hx
 obtain ⟨b, rfl⟩ := Int.eq_ofNat_of_zero_le (show 0 ≤ y by omega)
 rw [show ((a : Int) % (b : Int)) = ((a % b : Nat) : Int) from (Int.natCast_emod a b).symm, Int.gcd_natCast_natCast, Int.gcd_natCast_natCast, Nat.gcd_comm a b, Nat.gcd_rec b a, Nat.gcd_comm]
theorem gcd_any (s t : Bool) (ao bo : Option Addr) (n m ca cb k : Nat) (xs ys : List Int) (x y : Int) (w : World) (hx : IsNum w s ao n ca xs x k) (hy : IsNum w t bo m cb ys y k) (hk : k ≤ 9000) :
   Calls Tryz.prog 52 #[.agg #[.bool s, .slice ao n ca], .agg #[.bool t, .slice bo m cb]] w (NumP k (Int.gcd x y : Int) w) := by
 have T0 := two_start w (.bool s) (.slice ao n ca) (.bool t) (.slice bo m cb)
 have HX := hx.below T0.below
 have HY := hy.below T0.below
 have G0 : Int.gcd (val xs) (val ys) = Int.gcd x y := by rw [hx.val, hy.val]; simp [Int.gcd]
 clear hx hy
 go_enter Tryz.func52, Tryz.ntmps52
 go_upto_region 1 with fail
 generalize ((w.alloc (Obj.cells #[Value.bool s, Value.slice ao n ca] 56)).alloc (Obj.cells #[Value.bool t, Value.slice bo m cb] 56)).alloc (Obj.cells #[Value.bool false, Value.slice none 0 0] 56) = W at *
 have q1 := T0.a1; have q3 := T0.b1
 have I0 : GdI W W ao n ca xs bo m cb ys k (Int.gcd x y) := ⟨Below.refl _ _, HX.len, HX.cap, HX.le, HX.nrm, HX.rd, HY.len, HY.cap, HY.le, HY.nrm, HY.rd, G0⟩
 clear HX HY G0
 have hsz := T0.sz
 go_wp2
 go_loopw [5, 6] (fun u v wr => ∃ (xo : Option Addr) (xn xc : Nat) (xs : List Int) (yo : Option Addr) (yn yc : Nat) (ys : List Int), u = .slice xo xn xc ∧ v = .slice yo yn yc ∧ GdI W wr xo xn xc xs yo yn yc ys k (Int.gcd x y)) (fun _ v wr => (val (digsOf wr v)).toNat)
 case atStart => exact ⟨ao, n, ca, xs, bo, m, cb, ys, rfl, rfl, I0⟩
 case round =>
   clear I0
   obtain ⟨xo, xn, xc, xs, yo, yn, yc, ys, rfl, rfl, I0⟩ := hrel
   by_cases hy0 : 0 < yn
   · have i1 : (0 : Int) < (yn : Int) := by omega
     have hyp := nrm_pos I0.ynrm (by intro e; have := I0.ylen; rw [e] at this; simp at this; omega)
     have hd := digs_of (cap := yc) I0.yrd I0.ylen
     go_wp2_with fail
     refine (divAbs_any xo yo xn yn xc yc xs ys _ I0.xlen I0.ylen I0.xnrm I0.ynrm I0.xrd I0.yrd I0.xcap (by have := I0.xle; omega) (by have := I0.yle; omega) (by omega)).mono ?_
     rintro e w4 ⟨qo, qn, qc, qs, ro, rn, rc, rs, rfl, -, ⟨r1, r2, r3, r4, r5, r6⟩, hB⟩
     have I1 : GdI W w4 yo yn yc ys ro rn rc rs k (Int.gcd x y) := ⟨I0.below.trans (hB.mono I0.below.size), I0.ylen, I0.ycap, I0.yle, I0.ynrm, I0.yrd.below hB (Nat.le_refl _), r1, r2, by have := I0.xle; omega, r4, r6, by rw [r5, gcd_step (val_nonneg I0.xnrm.1) (by omega)]; exact I0.gcd⟩
     have hlt : (val rs).toNat < (val ys).toNat := by
       have h1 := Int.emod_lt_of_pos (val xs) (show 0 < val ys by omega)
       have h2 := Int.emod_nonneg (val xs) (show val ys ≠ 0 by omega)
       rw [r5]
       omega
     have hd2 := digs_of (cap := rc) r6 r1
     clear I0 hB r1 r2 r3 r4 r5 r6
     go_wp2
     go_roundw
     case rel => exact ⟨yo, yn, yc, ys, ro, rn, rc, rs, rfl, rfl, I1⟩
     case measure => rw [hd, hd2]; exact hlt
   · obtain rfl : yn = 0 := by omega
     have hys : ys = [] := List.eq_nil_of_length_eq_zero I0.ylen
     have hG : val xs = ((Int.gcd x y : Int).natAbs : Int) := by
       rw [← I0.gcd, hys]
       have := val_nonneg I0.xnrm.1
       simp [val, Int.gcd]
       omega
     have T1 := T0.step I0.below
     have hxk := I0.xle
     clear q1 q3
     go_wp2_with fail
     refine (trim_any false xo xn xc xs _ I0.xlen I0.xcap I0.xnrm.1 I0.xrd (by omega)).mono ?_
     rintro e w3 ⟨neg', ao', n', cap', ds', rfl, k1, k2, k3, k4, k5, k6, k7, k8⟩
     have T2 := T1.step k8
     have HN := num_of (z := (Int.gcd x y : Int)) (k := k) k1 k2 (by omega) k4 (k5.trans hG) (k6.trans (by rw [hG])) k7 rfl (by intro _; simp)
     have c0 := T2.r0; have c1 := T2.r1; have f0 := T2.f0; have f1 := T2.f1
     have HB := T2.below
     clear k1 k2 k3 k4 k5 k6 k7 k8 T1 T2 I0
     go_wp2
     refine bodyPost_ret (v := .agg #[.bool neg', .slice ao' n' cap']) (by simp [results, Tryz.results52, go_sem, c0, c1]) rfl ?_
     exact num_ret (by omega) c0 c1 HN HB
theorem IsNum.set {w : World} {s : Bool} {ao : Option Addr} {n cap : Nat} {ds : List Int} {z : Int} {k : Nat} (h : IsNum w s ao n cap ds z k) {p : Addr} {v : Value} (h0 : w.cell? p = some v) (hv : ∀ i, v ≠ .int .u32 i) (u : Value) : IsNum (w.setCell p u) s ao n cap ds z k :=
 ⟨h.neg, h.len, h.cap, h.rd.set u h0 hv, h.nrm, h.val, h.le⟩
theorem sl_minus {x0 x1 x2 x3 x4 x5 x6 x7 y0 y1 y2 y3 y4 y5 y6 y7 : Int} {zs : List Int} {c : Int} (wx : Words [x0, x1, x2, x3, x4, x5, x6, x7]) (wy : Words [y0, y1, y2, y3, y4, y5, y6, y7]) (wz : Words zs) (hl : zs.length = 8) (c0 : 0 ≤ c) (c1 : c ≤ 1) (hv : val64 zs = val64 [x0, x1, x2, x3, x4, x5, x6, x7] - val64 [y0, y1, y2, y3, y4, y5, y6, y7] + c * pw64 8) (hb : -6703903964971298549787012499102923063739682910296196688861780721860882015036773488400937149083451713845015929093243025426876941405973284973216824503042048 ≤ sl x0 x1 x2 x3 x4 x5 x6 x7 - sl y0 y1 y2 y3 y4 y5 y6 y7 ∧ sl x0 x1 x2 x3 x4 x5 x6 x7 - sl y0 y1 y2 y3 y4 y5 y6 y7 < 6703903964971298549787012499102923063739682910296196688861780721860882015036773488400937149083451713845015929093243025426876941405973284973216824503042048) : ∃ z0 z1 z2 z3 z4 z5 z6 z7, zs = [z0, z1, z2, z3, z4, z5, z6, z7] ∧ sl z0 z1 z2 z3 z4 z5 z6 z7 = sl x0 x1 x2 x3 x4 x5 x6 x7 - sl y0 y1 y2 y3 y4 y5 y6 y7 := by
 obtain ⟨z0, z1, z2, z3, z4, z5, z6, z7, rfl⟩ := list8' hl
 refine ⟨z0, z1, z2, z3, z4, z5, z6, z7, rfl, ?_⟩
 obtain ⟨t1, t2, t3⟩ := sl_top wz
 obtain ⟨u1, u2, u3⟩ := sl_top wx
 obtain ⟨v1, v2, v3⟩ := sl_top wy
 rw [pw64_8] at hv
 unfold sl at hb ⊢
 generalize val64 [z0, z1, z2, z3, z4, z5, z6, z7] = Z at *
 generalize val64 [x0, x1, x2, x3, x4, x5, x6, x7] = X at *
 generalize val64 [y0, y1, y2, y3, y4, y5, y6, y7] = Y at *
 simp only [t1, u1, v1] at hb ⊢
 clear t1 u1 v1
 by_cases hz : Z < 6703903964971298549787012499102923063739682910296196688861780721860882015036773488400937149083451713845015929093243025426876941405973284973216824503042048 <;> by_cases hx : X < 6703903964971298549787012499102923063739682910296196688861780721860882015036773488400937149083451713845015929093243025426876941405973284973216824503042048 <;> by_cases hy : Y < 6703903964971298549787012499102923063739682910296196688861780721860882015036773488400937149083451713845015929093243025426876941405973284973216824503042048 <;> simp only [hz, hx, hy, if_true, if_false] at hb ⊢ <;> (obtain rfl | rfl : c = 0 ∨ c = 1 := by omega) <;> omega
theorem minusL_any (x0 x1 x2 x3 x4 x5 x6 x7 y0 y1 y2 y3 y4 y5 y6 y7 : Int) (wx : Words [x0, x1, x2, x3, x4, x5, x6, x7]) (wy : Words [y0, y1, y2, y3, y4, y5, y6, y7]) (z : Int) (hz : sl x0 x1 x2 x3 x4 x5 x6 x7 - sl y0 y1 y2 y3 y4 y5 y6 y7 = z) (hb : -6703903964971298549787012499102923063739682910296196688861780721860882015036773488400937149083451713845015929093243025426876941405973284973216824503042048 ≤ z ∧ z < 6703903964971298549787012499102923063739682910296196688861780721860882015036773488400937149083451713845015929093243025426876941405973284973216824503042048) (w : World) : Calls Tryz.prog 122 #[L8 x0 x1 x2 x3 x4 x5 x6 x7, L8 y0 y1 y2 y3 y4 y5 y6 y7] w (TimesP z w) := by
 refine (minus8 x0 x1 x2 x3 x4 x5 x6 x7 y0 y1 y2 y3 y4 y5 y6 y7 wx wy w).mono ?_
 rintro e w1 ⟨zs, c, rfl, q1, q2, q3, q4, q5, hB⟩
 have z1' : zs.length = 8 := q1
 have z5' : val64 zs = val64 [x0, x1, x2, x3, x4, x5, x6, x7] - val64 [y0, y1, y2, y3, y4, y5, y6, y7] + c * pw64 8 := q5
 obtain ⟨z0, z1, z2, z3, z4, z5, z6, z7, rfl, hv⟩ := sl_minus wx wy q2 z1' q3 q4 z5' (by rw [hz]; exact hb)
 exact ⟨z0, z1, z2, z3, z4, z5, z6, z7, rfl, q2, hv.trans hz, hB⟩
def ww0 (z : Int) : Int := z % 18446744073709551616
def ww1 (z : Int) : Int := z / 18446744073709551616 % 18446744073709551616
def ww2 (z : Int) : Int := z / 340282366920938463463374607431768211456 % 18446744073709551616
def ww3 (z : Int) : Int := z / 6277101735386680763835789423207666416102355444464034512896 % 18446744073709551616
theorem wd_of {a3 a2 a1 a0 z : Int} (h3 : Word a3) (h2 : Word a2) (h1 : Word a1) (h0 : Word a0) (h : sw a3 a2 a1 a0 = z) : a3 = ww3 z ∧ a2 = ww2 z ∧ a1 = ww1 z ∧ a0 = ww0 z := by
 unfold Word sw uw ww3 ww2 ww1 ww0 at *
 split at h <;> omega
abbrev W4 (z : Int) : Value := .agg #[.int .u64 (ww3 z), .int .u64 (ww2 z), .int .u64 (ww1 z), .int .u64 (ww0 z)]
def VP (v : Value) (w : World) (e : Ending) (w' : World) : Prop := e = .returned v ∧ Below w.heap.size w w'
theorem sl_of_val {z0 z1 z2 z3 z4 z5 z6 z7 : Int} (hz : Words [z0, z1, z2, z3, z4, z5, z6, z7]) (h : val64 [z0, z1, z2, z3, z4, z5, z6, z7] < 6703903964971298549787012499102923063739682910296196688861780721860882015036773488400937149083451713845015929093243025426876941405973284973216824503042048) : sl z0 z1 z2 z3 z4 z5 z6 z7 = val64 [z0, z1, z2, z3, z4, z5, z6, z7] := by
 obtain ⟨t1, t2, t3⟩ := sl_top hz
 unfold sl
 rw [if_pos (t1.2 h)]
 omega
def tellV (z : Int) : Value := if told z then .tuple #[W4 z, .bool true] else .tuple #[W4 0, .bool false]
theorem tellWide_det (x0 x1 x2 x3 x4 x5 x6 x7 : Int) (wx : Words [x0, x1, x2, x3, x4, x5, x6, x7]) (z : Int) (hz : sl x0 x1 x2 x3 x4 x5 x6 x7 = z) (w : World) : Calls Tryz.prog 133 #[L8 x0 x1 x2 x3 x4 x5 x6 x7] w (VP (tellV z) w) := by
 refine (tellWide_any x0 x1 x2 x3 x4 x5 x6 x7 wx w).mono ?_
 rw [hz]
 rintro e w' ⟨hB, ⟨ht, a3, a2, a1, a0, rfl, g3, g2, g1, g0, hs⟩ | ⟨ht, rfl⟩⟩
 · obtain ⟨rfl, rfl, rfl, rfl⟩ := wd_of g3 g2 g1 g0 hs
   exact ⟨by unfold tellV; rw [ht]; rfl, hB⟩
 · exact ⟨by unfold tellV; rw [ht]; rfl, hB⟩
theorem sl_inj {x0 x1 x2 x3 x4 x5 x6 x7 y0 y1 y2 y3 y4 y5 y6 y7 : Int} (wx : Words [x0, x1, x2, x3, x4, x5, x6, x7]) (wy : Words [y0, y1, y2, y3, y4, y5, y6, y7]) (h : sl x0 x1 x2 x3 x4 x5 x6 x7 = sl y0 y1 y2 y3 y4 y5 y6 y7) : [x0, x1, x2, x3, x4, x5, x6, x7] = [y0, y1, y2, y3, y4, y5, y6, y7] := by
 refine val64_inj wx wy rfl ?_
 obtain ⟨u1, u2, u3⟩ := sl_top wx
 obtain ⟨v1, v2, v3⟩ := sl_top wy
 revert h
 unfold sl
 split <;> split <;> intro h <;> omega
theorem ArgsB.set4g {w W : World} {vss : List (List Value)} (h : ArgsB w W vss) {g : Nat} (hg : w.heap.size + vss.length ≤ g) (v0 v1 v2 v3 : Value) : ArgsB w ((((W.setCell ⟨g, 0, none⟩ v0).setCell ⟨g, 1, none⟩ v1).setCell ⟨g, 2, none⟩ v2).setCell ⟨g, 3, none⟩ v3) vss := (((h.set (by exact hg) _).set (by exact hg) _).set (by exact hg) _).set (by exact hg) _
theorem ArgsB.set8g {w W : World} {vss : List (List Value)} (h : ArgsB w W vss) {g : Nat} (hg : w.heap.size + vss.length ≤ g) (v0 v1 v2 v3 v4 v5 v6 v7 : Value) : ArgsB w ((((((((W.setCell ⟨g, 0, none⟩ v0).setCell ⟨g, 1, none⟩ v1).setCell ⟨g, 2, none⟩ v2).setCell ⟨g, 3, none⟩ v3).setCell ⟨g, 4, none⟩ v4).setCell ⟨g, 5, none⟩ v5).setCell ⟨g, 6, none⟩ v6).setCell ⟨g, 7, none⟩ v7) vss := ((((((((h.set (by exact hg) _).set (by exact hg) _).set (by exact hg) _).set (by exact hg) _).set (by exact hg) _).set (by exact hg) _).set (by exact hg) _).set (by exact hg) _)
theorem cutB_set8 {w wx : World} {vss : List (List Value)} {z0 z1 z2 z3 z4 z5 z6 z7 v0 v1 v2 v3 v4 v5 v6 v7 : Value} {g : Nat} (h : ArgsB w wx vss) (G : Blk wx g [z0, z1, z2, z3, z4, z5, z6, z7]) (hg : w.heap.size + vss.length ≤ g) :
   CutB w ((((((((wx.setCell ⟨g, 0, none⟩ v0).setCell ⟨g, 1, none⟩ v1).setCell ⟨g, 2, none⟩ v2).setCell ⟨g, 3, none⟩ v3).setCell ⟨g, 4, none⟩ v4).setCell ⟨g, 5, none⟩ v5).setCell ⟨g, 6, none⟩ v6).setCell ⟨g, 7, none⟩ v7) vss [v0, v1, v2, v3, v4, v5, v6, v7] (.pointer (some ⟨g, 0, none⟩)) := ⟨g, rfl, hg, h.set8g hg _ _ _ _ _ _ _ _, G.stored8 _ _ _ _ _ _ _ _⟩
def L3P (k : Nat) (x y z : Int) (w : World) (e : Ending) (w' : World) : Prop :=
 ∃ (s1 : Bool) (o1 : Option Addr) (n1 c1 : Nat) (d1 : List Int) (s2 : Bool) (o2 : Option Addr) (n2 c2 : Nat) (d2 : List Int) (s3 : Bool) (o3 : Option Addr) (n3 c3 : Nat) (d3 : List Int), e = .returned (.agg #[.bool s1, .slice o1 n1 c1, .bool s2, .slice o2 n2 c2, .bool s3, .slice o3 n3 c3]) ∧ IsNum w' s1 o1 n1 c1 d1 x k ∧ IsNum w' s2 o2 n2 c2 d2 y k ∧ IsNum w' s3 o3 n3 c3 d3 z k ∧ Below w.heap.size w w'
theorem IsNum.setp {w : World} {s : Bool} {ao : Option Addr} {n cap : Nat} {ds : List Int} {z : Int} {k : Nat} (h : IsNum w s ao n cap ds z k) {p : Addr} {v : Value} (u : Value) (hp : w.cell? p = some v) (hv : ∀ x, v ≠ .int .u32 x) : IsNum (w.setCell p u) s ao n cap ds z k :=
 h.set hp hv u
theorem num_set6 {w : World} {s : Bool} {ao : Option Addr} {n cap : Nat} {ds : List Int} {z : Int} {k R : Nat} (h : IsNum w s ao n cap ds z k) (B : Blk w R [.bool false, .slice none 0 0, .bool false, .slice none 0 0, .bool false, .slice none 0 0]) (v0 v1 v2 v3 v4 v5 : Value) : IsNum ((((((w.setCell ⟨R, 0, none⟩ v0).setCell ⟨R, 1, none⟩ v1).setCell ⟨R, 2, none⟩ v2).setCell ⟨R, 3, none⟩ v3).setCell ⟨R, 4, none⟩ v4).setCell ⟨R, 5, none⟩ v5) s ao n cap ds z k := by
 have h1 := h.setp v0 (B.c 0 rfl) (by intro x e; cases e)
 have B1 := B.setI 0 (by simp) v0
 have h2 := h1.setp v1 (B1.c 1 rfl) (by intro x e; cases e)
 have B2 := B1.setI 1 (by simp) v1
 have h3 := h2.setp v2 (B2.c 2 rfl) (by intro x e; cases e)
 have B3 := B2.setI 2 (by simp) v2
 have h4 := h3.setp v3 (B3.c 3 rfl) (by intro x e; cases e)
 have B4 := B3.setI 3 (by simp) v3
 have h5 := h4.setp v4 (B4.c 4 rfl) (by intro x e; cases e)
 have B5 := B4.setI 4 (by simp) v4
 have h6 := h5.setp v5 (B5.c 5 rfl) (by intro x e; cases e)
 have B6 := B5.setI 5 (by simp) v5
 exact h6
theorem ret_bool {a b : Bool} (h : b = a) : Ending.returned (.bool a) = .returned (.bool b) := by rw [h]
def small (z : Int) : Bool := decide ((z.natAbs : Int) < 1208925819614629174706176)
theorem bits_small {v : Int} {b : Nat} (h : BitsOf v b) : b ≤ 80 ↔ v < 1208925819614629174706176 := by
 obtain ⟨h0, h1, h2⟩ := h
 have e : (2 : Int) ^ 80 = 1208925819614629174706176 := by decide
 constructor
 · intro hb
   have := ipow2_mono hb
   omega
 · intro hv
   apply Decidable.byContradiction
   intro hb
   rcases h2 with h2 | h2
   · omega
   · have := ipow2_mono (show 80 ≤ b - 1 by omega)
     omega
theorem l3Small_any (s1 : Bool) (o1 : Option Addr) (n1 c1 : Nat) (d1 : List Int) (s2 : Bool) (o2 : Option Addr) (n2 c2 : Nat) (d2 : List Int) (s3 : Bool) (o3 : Option Addr) (n3 c3 : Nat) (d3 : List Int) (x y z : Int) (k : Nat) (hk : k ≤ 100000) (w : World) (N1 : IsNum w s1 o1 n1 c1 d1 x k) (N2 : IsNum w s2 o2 n2 c2 d2 y k) (N3 : IsNum w s3 o3 n3 c3 d3 z k) :
   Calls Tryz.prog 50 #[.agg #[.bool s1, .slice o1 n1 c1, .bool s2, .slice o2 n2 c2, .bool s3, .slice o3 n3 c3]] w (BoolP (small x && small y && small z) w) := by
 have B0 := Blk.new w [.bool s1, .slice o1 n1 c1, .bool s2, .slice o2 n2 c2, .bool s3, .slice o3 n3 c3] 58 rfl
 have HB0 : Below w.heap.size w (w.alloc (.cells #[.bool s1, .slice o1 n1 c1, .bool s2, .slice o2 n2 c2, .bool s3, .slice o3 n3 c3] 58)) := (Below.refl _ _).alloc (Nat.le_refl _) _
 replace N1 := N1.below HB0
 replace N2 := N2.below HB0
 replace N3 := N3.below HB0
 by_cases h1 : small x = true
 · by_cases h2 : small y = true
   · by_cases h3 : small z = true
     · go_enter Tryz.func50, Tryz.ntmps50
       go_wp2_with fail
       refine (bits_any o1 n1 c1 d1 _ N1.len N1.nrm N1.rd (by have := N1.le; omega)).mono ?_
       rintro e w1 ⟨b1, rfl, hb1, hB⟩
       rw [N1.val] at hb1
       have q1 : (b1 : Int) ≤ 80 := by have := bits_small hb1; have := h1; unfold small at this; simp at this ⊢; omega
       have HB1 : Below w.heap.size w w1 := HB0.trans (hB.mono HB0.size)
       replace B0 := B0.step hB
       replace N1 := N1.below hB
       replace N2 := N2.below hB
       replace N3 := N3.below hB
       clear hB hb1
       have e0 := B0.c 0 rfl; have e1 := B0.c 1 rfl; have e2 := B0.c 2 rfl; have e3 := B0.c 3 rfl; have e4 := B0.c 4 rfl; have e5 := B0.c 5 rfl; have elt := B0.lt
       go_wp2_with fail
       refine (bits_any o2 n2 c2 d2 _ N2.len N2.nrm N2.rd (by have := N2.le; omega)).mono ?_
       rintro e w2 ⟨b2, rfl, hb2, hB⟩
       rw [N2.val] at hb2
       have q2 : (b2 : Int) ≤ 80 := by have := bits_small hb2; have := h2; unfold small at this; simp at this ⊢; omega
       have HB2 : Below w.heap.size w w2 := HB1.trans (hB.mono HB1.size)
       replace B0 := B0.step hB
       replace N1 := N1.below hB
       replace N2 := N2.below hB
       replace N3 := N3.below hB
       clear e0 e1 e2 e3 e4 e5 elt
       clear hB hb2
       have e0 := B0.c 0 rfl; have e1 := B0.c 1 rfl; have e2 := B0.c 2 rfl; have e3 := B0.c 3 rfl; have e4 := B0.c 4 rfl; have e5 := B0.c 5 rfl; have elt := B0.lt
       go_wp2_with fail
       refine (bits_any o3 n3 c3 d3 _ N3.len N3.nrm N3.rd (by have := N3.le; omega)).mono ?_
       rintro e w3 ⟨b3, rfl, hb3, hB⟩
       rw [N3.val] at hb3
       have q3 : (b3 : Int) ≤ 80 := by have := bits_small hb3; have := h3; unfold small at this; simp at this ⊢; omega
       have HB3 : Below w.heap.size w w3 := HB2.trans (hB.mono HB2.size)
       clear e0 e1 e2 e3 e4 e5 elt
       clear hB hb3
       go_wp2
       go_ret
       exact ⟨ret_bool (by simp [h1, h2, h3]), HB3⟩
     · have h3 := Bool.eq_false_iff.2 h3
       go_enter Tryz.func50, Tryz.ntmps50
       go_wp2_with fail
       refine (bits_any o1 n1 c1 d1 _ N1.len N1.nrm N1.rd (by have := N1.le; omega)).mono ?_
       rintro e w1 ⟨b1, rfl, hb1, hB⟩
       rw [N1.val] at hb1
       have q1 : (b1 : Int) ≤ 80 := by have := bits_small hb1; have := h1; unfold small at this; simp at this ⊢; omega
       have HB1 : Below w.heap.size w w1 := HB0.trans (hB.mono HB0.size)
       replace B0 := B0.step hB
       replace N1 := N1.below hB
       replace N2 := N2.below hB
       replace N3 := N3.below hB
       clear hB hb1
       have e0 := B0.c 0 rfl; have e1 := B0.c 1 rfl; have e2 := B0.c 2 rfl; have e3 := B0.c 3 rfl; have e4 := B0.c 4 rfl; have e5 := B0.c 5 rfl; have elt := B0.lt
       go_wp2_with fail
       refine (bits_any o2 n2 c2 d2 _ N2.len N2.nrm N2.rd (by have := N2.le; omega)).mono ?_
       rintro e w2 ⟨b2, rfl, hb2, hB⟩
       rw [N2.val] at hb2
       have q2 : (b2 : Int) ≤ 80 := by have := bits_small hb2; have := h2; unfold small at this; simp at this ⊢; omega
       have HB2 : Below w.heap.size w w2 := HB1.trans (hB.mono HB1.size)
       replace B0 := B0.step hB
       replace N1 := N1.below hB
       replace N2 := N2.below hB
       replace N3 := N3.below hB
       clear e0 e1 e2 e3 e4 e5 elt
       clear hB hb2
       have e0 := B0.c 0 rfl; have e1 := B0.c 1 rfl; have e2 := B0.c 2 rfl; have e3 := B0.c 3 rfl; have e4 := B0.c 4 rfl; have e5 := B0.c 5 rfl; have elt := B0.lt
       go_wp2_with fail
       refine (bits_any o3 n3 c3 d3 _ N3.len N3.nrm N3.rd (by have := N3.le; omega)).mono ?_
       rintro e w3 ⟨b3, rfl, hb3, hB⟩
       rw [N3.val] at hb3
       have q3 : decide ((b3 : Int) ≤ 80) = false := by have := bits_small hb3; have := h3; unfold small at this; simp at this ⊢; omega
       have HB3 : Below w.heap.size w w3 := HB2.trans (hB.mono HB2.size)
       clear e0 e1 e2 e3 e4 e5 elt
       clear hB hb3
       go_wp2
       go_ret
       exact ⟨ret_bool (by simp [h1, h2, h3]; try (simp at q3; omega)), HB3⟩
   · have h2 := Bool.eq_false_iff.2 h2
     go_enter Tryz.func50, Tryz.ntmps50
     go_wp2_with fail
     refine (bits_any o1 n1 c1 d1 _ N1.len N1.nrm N1.rd (by have := N1.le; omega)).mono ?_
     rintro e w1 ⟨b1, rfl, hb1, hB⟩
     rw [N1.val] at hb1
     have q1 : (b1 : Int) ≤ 80 := by have := bits_small hb1; have := h1; unfold small at this; simp at this ⊢; omega
     have HB1 : Below w.heap.size w w1 := HB0.trans (hB.mono HB0.size)
     replace B0 := B0.step hB
     replace N1 := N1.below hB
     replace N2 := N2.below hB
     replace N3 := N3.below hB
     clear hB hb1
     have e0 := B0.c 0 rfl; have e1 := B0.c 1 rfl; have e2 := B0.c 2 rfl; have e3 := B0.c 3 rfl; have e4 := B0.c 4 rfl; have e5 := B0.c 5 rfl; have elt := B0.lt
     go_wp2_with fail
     refine (bits_any o2 n2 c2 d2 _ N2.len N2.nrm N2.rd (by have := N2.le; omega)).mono ?_
     rintro e w2 ⟨b2, rfl, hb2, hB⟩
     rw [N2.val] at hb2
     have q2 : decide ((b2 : Int) ≤ 80) = false := by have := bits_small hb2; have := h2; unfold small at this; simp at this ⊢; omega
     have HB2 : Below w.heap.size w w2 := HB1.trans (hB.mono HB1.size)
     clear e0 e1 e2 e3 e4 e5 elt
     clear hB hb2
     go_wp2
     go_ret
     exact ⟨ret_bool (by simp [h1, h2]; try (simp at q2; omega)), HB2⟩
 · have h1 := Bool.eq_false_iff.2 h1
   go_enter Tryz.func50, Tryz.ntmps50
   go_wp2_with fail
   refine (bits_any o1 n1 c1 d1 _ N1.len N1.nrm N1.rd (by have := N1.le; omega)).mono ?_
   rintro e w1 ⟨b1, rfl, hb1, hB⟩
   rw [N1.val] at hb1
   have q1 : decide ((b1 : Int) ≤ 80) = false := by have := bits_small hb1; have := h1; unfold small at this; simp at this ⊢; omega
   have HB1 : Below w.heap.size w w1 := HB0.trans (hB.mono HB0.size)
   clear hB hb1
   go_wp2
   go_ret
   exact ⟨ret_bool (by simp [h1]; try (simp at q1; omega)), HB1⟩
def lw0 (z : Int) : Int := z % 18446744073709551616
def lw1 (z : Int) : Int := z / 18446744073709551616 % 18446744073709551616
def lw2 (z : Int) : Int := z / 18446744073709551616 / 18446744073709551616 % 18446744073709551616
def lw3 (z : Int) : Int := z / 18446744073709551616 / 18446744073709551616 / 18446744073709551616 % 18446744073709551616
def lw4 (z : Int) : Int := z / 18446744073709551616 / 18446744073709551616 / 18446744073709551616 / 18446744073709551616 % 18446744073709551616
def lw5 (z : Int) : Int := z / 18446744073709551616 / 18446744073709551616 / 18446744073709551616 / 18446744073709551616 / 18446744073709551616 % 18446744073709551616
def lw6 (z : Int) : Int := z / 18446744073709551616 / 18446744073709551616 / 18446744073709551616 / 18446744073709551616 / 18446744073709551616 / 18446744073709551616 % 18446744073709551616
def lw7 (z : Int) : Int := z / 18446744073709551616 / 18446744073709551616 / 18446744073709551616 / 18446744073709551616 / 18446744073709551616 / 18446744073709551616 / 18446744073709551616 % 18446744073709551616
abbrev LV (z : Int) : Value := L8 (lw0 z) (lw1 z) (lw2 z) (lw3 z) (lw4 z) (lw5 z) (lw6 z) (lw7 z)
def LR (z : Int) : Prop := -6703903964971298549787012499102923063739682910296196688861780721860882015036773488400937149083451713845015929093243025426876941405973284973216824503042048 ≤ z ∧ z < 6703903964971298549787012499102923063739682910296196688861780721860882015036773488400937149083451713845015929093243025426876941405973284973216824503042048
theorem lw_words (z : Int) : Words [lw0 z, lw1 z, lw2 z, lw3 z, lw4 z, lw5 z, lw6 z, lw7 z] := by
 have h : ∀ x : Int, Word (x % 18446744073709551616) := fun x => ⟨Int.emod_nonneg _ (by decide), Int.emod_lt_of_pos _ (by decide)⟩
 exact words_cons.2 ⟨h _, words_cons.2 ⟨h _, words_cons.2 ⟨h _, words_cons.2 ⟨h _, words_cons.2 ⟨h _, words_cons.2 ⟨h _, words_cons.2 ⟨h _, words_cons.2 ⟨h _, words_nil⟩⟩⟩⟩⟩⟩⟩⟩
theorem lw_sl {z : Int} (h : LR z) : sl (lw0 z) (lw1 z) (lw2 z) (lw3 z) (lw4 z) (lw5 z) (lw6 z) (lw7 z) = z := by
 unfold LR at h
 unfold sl
 simp only [val64]
 unfold lw0 lw1 lw2 lw3 lw4 lw5 lw6 lw7
 have e0 : z = 18446744073709551616 * (z / 18446744073709551616) + z % 18446744073709551616 := by omega
 have k0 := Int.emod_nonneg z (show (18446744073709551616 : Int) ≠ 0 by decide)
 have l0 := Int.emod_lt_of_pos z (show (0 : Int) < 18446744073709551616 by decide)
 generalize z % 18446744073709551616 = r0 at *
 generalize z / 18446744073709551616 = z1 at *
 have e1 : z1 = 18446744073709551616 * (z1 / 18446744073709551616) + z1 % 18446744073709551616 := by omega
 have k1 := Int.emod_nonneg z1 (show (18446744073709551616 : Int) ≠ 0 by decide)
 have l1 := Int.emod_lt_of_pos z1 (show (0 : Int) < 18446744073709551616 by decide)
 generalize z1 % 18446744073709551616 = r1 at *
 generalize z1 / 18446744073709551616 = z2 at *
 have e2 : z2 = 18446744073709551616 * (z2 / 18446744073709551616) + z2 % 18446744073709551616 := by omega
 have k2 := Int.emod_nonneg z2 (show (18446744073709551616 : Int) ≠ 0 by decide)
 have l2 := Int.emod_lt_of_pos z2 (show (0 : Int) < 18446744073709551616 by decide)
 generalize z2 % 18446744073709551616 = r2 at *
 generalize z2 / 18446744073709551616 = z3 at *
 have e3 : z3 = 18446744073709551616 * (z3 / 18446744073709551616) + z3 % 18446744073709551616 := by omega
 have k3 := Int.emod_nonneg z3 (show (18446744073709551616 : Int) ≠ 0 by decide)
 have l3 := Int.emod_lt_of_pos z3 (show (0 : Int) < 18446744073709551616 by decide)
 generalize z3 % 18446744073709551616 = r3 at *
 generalize z3 / 18446744073709551616 = z4 at *
 have e4 : z4 = 18446744073709551616 * (z4 / 18446744073709551616) + z4 % 18446744073709551616 := by omega
 have k4 := Int.emod_nonneg z4 (show (18446744073709551616 : Int) ≠ 0 by decide)
 have l4 := Int.emod_lt_of_pos z4 (show (0 : Int) < 18446744073709551616 by decide)
 generalize z4 % 18446744073709551616 = r4 at *
 generalize z4 / 18446744073709551616 = z5 at *
 have e5 : z5 = 18446744073709551616 * (z5 / 18446744073709551616) + z5 % 18446744073709551616 := by omega
 have k5 := Int.emod_nonneg z5 (show (18446744073709551616 : Int) ≠ 0 by decide)
 have l5 := Int.emod_lt_of_pos z5 (show (0 : Int) < 18446744073709551616 by decide)
 generalize z5 % 18446744073709551616 = r5 at *
 generalize z5 / 18446744073709551616 = z6 at *
 have e6 : z6 = 18446744073709551616 * (z6 / 18446744073709551616) + z6 % 18446744073709551616 := by omega
 have k6 := Int.emod_nonneg z6 (show (18446744073709551616 : Int) ≠ 0 by decide)
 have l6 := Int.emod_lt_of_pos z6 (show (0 : Int) < 18446744073709551616 by decide)
 generalize z6 % 18446744073709551616 = r6 at *
 generalize z6 / 18446744073709551616 = z7 at *
 have e7 : z7 = 18446744073709551616 * (z7 / 18446744073709551616) + z7 % 18446744073709551616 := by omega
 have k7 := Int.emod_nonneg z7 (show (18446744073709551616 : Int) ≠ 0 by decide)
 have l7 := Int.emod_lt_of_pos z7 (show (0 : Int) < 18446744073709551616 by decide)
 generalize z7 % 18446744073709551616 = r7 at *
 generalize z7 / 18446744073709551616 = z8 at *
 split <;> omega
theorem sl_lr {z0 z1 z2 z3 z4 z5 z6 z7 : Int} (wz : Words [z0, z1, z2, z3, z4, z5, z6, z7]) : LR (sl z0 z1 z2 z3 z4 z5 z6 z7) := by
 obtain ⟨u1, u2, u3⟩ := sl_top wz
 unfold LR sl
 split <;> omega
theorem lv_of {z0 z1 z2 z3 z4 z5 z6 z7 z : Int} (wz : Words [z0, z1, z2, z3, z4, z5, z6, z7]) (h : sl z0 z1 z2 z3 z4 z5 z6 z7 = z) : L8 z0 z1 z2 z3 z4 z5 z6 z7 = LV z := by
 subst h
 have e := sl_inj wz (lw_words _) (lw_sl (sl_lr wz)).symm
 simp only [List.cons.injEq] at e
 obtain ⟨e0, e1, e2, e3, e4, e5, e6, e7, -⟩ := e
 unfold LV
 rw [← e0, ← e1, ← e2, ← e3, ← e4, ← e5, ← e6, ← e7]
theorem times_lv {z : Int} {w w' : World} {e : Ending} (h : TimesP z w e w') : VP (LV z) w e w' := by
 obtain ⟨z0, z1, z2, z3, z4, z5, z6, z7, rfl, wz, hz, hB⟩ := h
 exact ⟨by rw [lv_of wz hz], hB⟩
theorem aggP_lv {z : Int} (hz : z < 6703903964971298549787012499102923063739682910296196688861780721860882015036773488400937149083451713845015929093243025426876941405973284973216824503042048) {w w' : World} {e : Ending} (h : AggP 8 z w e w') : VP (LV z) w e w' := by
 obtain ⟨zs, rfl, hl, hw, hv, hB⟩ := h
 obtain ⟨z0, z1, z2, z3, z4, z5, z6, z7, rfl⟩ := list8' hl
 exact ⟨congrArg Ending.returned (lv_of hw ((sl_of_val hw (by omega)).trans hv)), hB⟩
theorem ww_words (z : Int) : Word (ww3 z) ∧ Word (ww2 z) ∧ Word (ww1 z) ∧ Word (ww0 z) := by
 have h : ∀ x : Int, Word (x % 18446744073709551616) := fun x => ⟨Int.emod_nonneg _ (by decide), Int.emod_lt_of_pos _ (by decide)⟩
 exact ⟨h _, h _, h _, h _⟩
theorem ww_sw {z : Int} (h : told z = true) : sw (ww3 z) (ww2 z) (ww1 z) (ww0 z) = z := by
 unfold told at h
 rw [decide_eq_true_iff] at h
 unfold sw uw ww3 ww2 ww1 ww0
 split <;> omega
theorem lw_val {z : Int} (h0 : 0 ≤ z) (h : z < 6703903964971298549787012499102923063739682910296196688861780721860882015036773488400937149083451713845015929093243025426876941405973284973216824503042048) : val64 [lw0 z, lw1 z, lw2 z, lw3 z, lw4 z, lw5 z, lw6 z, lw7 z] = z := by
 have e := lw_sl (z := z) ⟨by omega, h⟩
 obtain ⟨u1, u2, u3⟩ := sl_top (lw_words z)
 unfold sl at e
 split at e <;> omega
theorem times_det (x y : Int) (hx : told x = true) (hy : told y = true) (w : World) : Calls Tryz.prog 121 #[W4 x, W4 y] w (VP (LV (x * y)) w) := by
 obtain ⟨p3, p2, p1, p0⟩ := ww_words x
 obtain ⟨q3, q2, q1, q0⟩ := ww_words y
 have h := times_any (ww3 x) (ww2 x) (ww1 x) (ww0 x) (ww3 y) (ww2 y) (ww1 y) (ww0 y) p3 p2 p1 p0 q3 q2 q1 q0 w
 rw [ww_sw hx, ww_sw hy] at h
 exact h.mono fun e w' h => times_lv h
theorem minus_det (x y : Int) (hx : LR x) (hy : LR y) (hz : LR (x - y)) (w : World) : Calls Tryz.prog 122 #[LV x, LV y] w (VP (LV (x - y)) w) :=
 (minusL_any (lw0 x) (lw1 x) (lw2 x) (lw3 x) (lw4 x) (lw5 x) (lw6 x) (lw7 x) (lw0 y) (lw1 y) (lw2 y) (lw3 y) (lw4 y) (lw5 y) (lw6 y) (lw7 y) (lw_words x) (lw_words y) (x - y) (by rw [lw_sl hx, lw_sl hy]) hz w).mono fun e w' h => times_lv h
theorem tellW_det (x : Int) (hx : LR x) (w : World) : Calls Tryz.prog 133 #[LV x] w (VP (tellV x) w) := tellWide_det (lw0 x) (lw1 x) (lw2 x) (lw3 x) (lw4 x) (lw5 x) (lw6 x) (lw7 x) (lw_words x) x (lw_sl hx) w
theorem sign_det (x : Int) (hx : told x = true) (w : World) : Calls Tryz.prog 58 #[W4 x] w (VP (.int .i64 (cmpI x 0)) w) := by
 obtain ⟨p3, p2, p1, p0⟩ := ww_words x
 have h := implSign_any (ww3 x) (ww2 x) (ww1 x) (ww0 x) p3 p2 p1 p0 w
 rw [ww_sw hx] at h
 exact h
theorem bitsW_det (x : Int) (hx : told x = true) (w : World) : Calls Tryz.prog 92 #[W4 x] w (BitsP (x.natAbs : Int) w) := by
 obtain ⟨p3, p2, p1, p0⟩ := ww_words x
 have h := implBits_any (ww3 x) (ww2 x) (ww1 x) (ww0 x) p3 p2 p1 p0 w
 rw [ww_sw hx] at h
 exact h
theorem told_lr {x : Int} (h : told x = true) : LR x := by
 unfold told at h
 rw [decide_eq_true_iff] at h
 unfold LR
 omega
theorem longOf_det (x : Int) (hx : told x = true) (w : World) : Calls Tryz.prog 94 #[W4 x] w (VP (LV x) w) := by
 obtain ⟨p3, p2, p1, p0⟩ := ww_words x
 have h := longOf_any (ww3 x) (ww2 x) (ww1 x) (ww0 x) p3 w
 refine h.mono ?_
 rintro e w' ⟨rfl, hB⟩
 exact ⟨congrArg Ending.returned (lv_of (words_fill p3 p2 p1 p0) ((sl_fill _ _ _ _).trans (ww_sw hx))), hB⟩
theorem size_det (x : Int) (hx : LR x) (hx' : (x.natAbs : Int) < 6703903964971298549787012499102923063739682910296196688861780721860882015036773488400937149083451713845015929093243025426876941405973284973216824503042048) (w : World) : Calls Tryz.prog 95 #[LV x] w (VP (LV (x.natAbs : Int)) w) := by
 have h := sizeL_any (lw0 x) (lw1 x) (lw2 x) (lw3 x) (lw4 x) (lw5 x) (lw6 x) (lw7 x) (lw_words x) w
 rw [lw_sl hx] at h
 exact h.mono fun e w' h => aggP_lv hx' h
theorem gcd_det (x y : Int) (hx : 0 ≤ x ∧ x < 6703903964971298549787012499102923063739682910296196688861780721860882015036773488400937149083451713845015929093243025426876941405973284973216824503042048) (hy : 0 ≤ y ∧ y < 6703903964971298549787012499102923063739682910296196688861780721860882015036773488400937149083451713845015929093243025426876941405973284973216824503042048) (hg : ((Int.gcd x y : Nat) : Int) < 6703903964971298549787012499102923063739682910296196688861780721860882015036773488400937149083451713845015929093243025426876941405973284973216824503042048) (w : World) : Calls Tryz.prog 93 #[LV x, LV y] w (VP (LV (Int.gcd x y : Int)) w) := by
 have h := gcdL_any [lw0 x, lw1 x, lw2 x, lw3 x, lw4 x, lw5 x, lw6 x, lw7 x] [lw0 y, lw1 y, lw2 y, lw3 y, lw4 y, lw5 y, lw6 y, lw7 y] rfl rfl (lw_words x) (lw_words y) w
 rw [lw_val hx.1 hx.2, lw_val hy.1 hy.2] at h
 exact h.mono fun e w' h => aggP_lv hg h
theorem ar1 (a : List Value) (T : TypeId) (w : World) : ArgsB w (w.alloc (.cells a.toArray T)) [a] := by
 refine ⟨(Below.refl _ _).alloc (Nat.le_refl _) _, fun j vs hj => ?_⟩
 match j, hj with
 | 0, hj => cases hj; exact Blk.new w a T rfl
 | j + 1, hj => simp at hj
theorem ArgsB.more {w W : World} {vss : List (List Value)} (h : ArgsB w W vss) (hl : W.heap.size = w.heap.size + vss.length) (b : List Value) (T : TypeId) : ArgsB w (W.alloc (.cells b.toArray T)) (vss ++ [b]) := by
 refine ⟨(h.alloc _).below, fun j vs hj => ?_⟩
 rcases Nat.lt_trichotomy j vss.length with hlt | rfl | hgt
 · rw [List.getElem?_append_left hlt] at hj
   exact (h.b j hj).alloc _
 · simp at hj
   subst hj
   exact Blk.new W b T hl.symm
 · rw [List.getElem?_eq_none (by simp; omega)] at hj
   cases hj
theorem ArgsB.left {w W : World} {us vs : List (List Value)} (h : ArgsB w W (us ++ vs)) : ArgsB w W us := by
 refine ⟨h.below, fun j xs hj => h.b j ?_⟩
 rw [List.getElem?_append_left]
 · exact hj
 · rcases Nat.lt_or_ge j us.length with h | h
   · exact h
   · rw [List.getElem?_eq_none h] at hj; cases hj
theorem ar2 (a b : List Value) (T U : TypeId) (w : World) : ArgsB w ((w.alloc (.cells a.toArray T)).alloc (.cells b.toArray U)) [a, b] := (ar1 a T w).more (by simp) b U
theorem ar3 (a b c : List Value) (T U V : TypeId) (w : World) : ArgsB w (((w.alloc (.cells a.toArray T)).alloc (.cells b.toArray U)).alloc (.cells c.toArray V)) [a, b, c] := (ar2 a b T U w).more (by simp) c V
theorem ar4 (a b c d : List Value) (T U V X : TypeId) (w : World) : ArgsB w ((((w.alloc (.cells a.toArray T)).alloc (.cells b.toArray U)).alloc (.cells c.toArray V)).alloc (.cells d.toArray X)) [a, b, c, d] := (ar3 a b c T U V w).more (by simp) d X
theorem ar5 (a b c d f : List Value) (T U V X Y : TypeId) (w : World) : ArgsB w (((((w.alloc (.cells a.toArray T)).alloc (.cells b.toArray U)).alloc (.cells c.toArray V)).alloc (.cells d.toArray X)).alloc (.cells f.toArray Y)) [a, b, c, d, f] := (ar4 a b c d T U V X w).more (by simp) f Y
theorem below_set4 {B g : Nat} {w W : World} {v0 v1 v2 v3 : Value} (hg : B ≤ g) (h : Below B w W) : Below B w ((((W.setCell ⟨g, 0, none⟩ v0).setCell ⟨g, 1, none⟩ v1).setCell ⟨g, 2, none⟩ v2).setCell ⟨g, 3, none⟩ v3) := (((h.setCell (by exact hg) _).setCell (by exact hg) _).setCell (by exact hg) _).setCell (by exact hg) _
theorem told_abs {z : Int} (h : told z = true) : (z.natAbs : Int) ≤ 57896044618658097711785492504343953926634992332820282019728792003956564819968 := by
 unfold told at h
 rw [decide_eq_true_iff] at h
 omega
theorem gcd_le (a b m : Nat) (ha : a ≤ m) (hb : b ≤ m) : Int.gcd (a : Int) (b : Int) ≤ m := by
 rw [Int.gcd_natCast_natCast]
 by_cases h : a = 0
 · subst h; simpa using hb
 · exact Nat.le_trans (Nat.le_of_dvd (by omega) (Nat.gcd_dvd_left _ _)) ha
theorem toldI_det (x : Int) (hx : told x = true) (w : World) : Calls Tryz.prog 120 #[LV x] w (VP (W4 x) w) := by
 have T0 : ArgsB w ((w.alloc (.cells #[.int .u64 (lw0 x), .int .u64 (lw1 x), .int .u64 (lw2 x), .int .u64 (lw3 x), .int .u64 (lw4 x), .int .u64 (lw5 x), .int .u64 (lw6 x), .int .u64 (lw7 x)] 104)).alloc (.cells #[.int .u64 0, .int .u64 0, .int .u64 0, .int .u64 0] 33)) [[.int .u64 (lw0 x), .int .u64 (lw1 x), .int .u64 (lw2 x), .int .u64 (lw3 x), .int .u64 (lw4 x), .int .u64 (lw5 x), .int .u64 (lw6 x), .int .u64 (lw7 x)], [.int .u64 0, .int .u64 0, .int .u64 0, .int .u64 0]] := ar2 _ _ _ _ w
 have TL := tellW_det x (told_lr hx)
 rw [show tellV x = .tuple #[W4 x, .bool true] from if_pos hx] at TL
 go_enter Tryz.func120, Tryz.ntmps120
 go_wp2_with fail
 refine (TL _).mono ?_
 rintro e w1 ⟨rfl, hB⟩
 replace T0 := T0.step hB
 clear hB
 go_upto_region 2 with fail
 have A0 : Blk (w1.alloc (.cells #[.int .u64 (ww3 x), .int .u64 (ww2 x), .int .u64 (ww1 x), .int .u64 (ww0 x)] 33)) w1.heap.size [.int .u64 (ww3 x), .int .u64 (ww2 x), .int .u64 (ww1 x), .int .u64 (ww0 x)] := Blk.new w1 _ _ rfl
 have hlt := (T0.b 1 rfl).lt
 replace T0 := T0.alloc (.cells #[.int .u64 (ww3 x), .int .u64 (ww2 x), .int .u64 (ww1 x), .int .u64 (ww0 x)] 33)
 generalize w1.alloc (.cells #[.int .u64 (ww3 x), .int .u64 (ww2 x), .int .u64 (ww1 x), .int .u64 (ww0 x)] 33) = W1 at *
 generalize w1.heap.size = ga at *
 have rc0 := (T0.b 1 rfl).c 0 rfl; have rf0 := (T0.b 1 rfl).f 0 rfl; have rc1 := (T0.b 1 rfl).c 1 rfl; have rf1 := (T0.b 1 rfl).f 1 rfl; have rc2 := (T0.b 1 rfl).c 2 rfl; have rf2 := (T0.b 1 rfl).f 2 rfl; have rc3 := (T0.b 1 rfl).c 3 rfl; have rf3 := (T0.b 1 rfl).f 3 rfl; have rl := (T0.b 1 rfl).lt
 obtain ⟨ac0, ac1, ac2, ac3⟩ := A0.cs4; have al := A0.lt
 have HB := T0.below
 clear T0 TL A0
 go_wp2
 refine bodyPost_ret (v := W4 x) (by simp [results, Tryz.results120, go_sem, rc0, rc1, rc2, rc3]) rfl ?_
 exact ⟨rfl, by first | exact below_set4 (g := w.heap.size + 1) (by omega) HB | exact (below_set4 (g := w.heap.size + 1) (by omega) HB).drew⟩
theorem minor_cells {a b c d : Int} {w W : World} (T0 : ArgsB w W [[.int .u64 (ww3 a), .int .u64 (ww2 a), .int .u64 (ww1 a), .int .u64 (ww0 a)], [.int .u64 (ww3 b), .int .u64 (ww2 b), .int .u64 (ww1 b), .int .u64 (ww0 b)], [.int .u64 (ww3 c), .int .u64 (ww2 c), .int .u64 (ww1 c), .int .u64 (ww0 c)], [.int .u64 (ww3 d), .int .u64 (ww2 d), .int .u64 (ww1 d), .int .u64 (ww0 d)]]) : (fun w' => w'.cell? ⟨w.heap.size, 0, none⟩ = some (.int .u64 (ww3 a)) ∧ w'.cell? ⟨w.heap.size, 1, none⟩ = some (.int .u64 (ww2 a)) ∧ w'.cell? ⟨w.heap.size, 2, none⟩ = some (.int .u64 (ww1 a)) ∧ w'.cell? ⟨w.heap.size, 3, none⟩ = some (.int .u64 (ww0 a)) ∧ w'.cell? ⟨w.heap.size + 1, 0, none⟩ = some (.int .u64 (ww3 b)) ∧ w'.cell? ⟨w.heap.size + 1, 1, none⟩ = some (.int .u64 (ww2 b)) ∧ w'.cell? ⟨w.heap.size + 1, 2, none⟩ = some (.int .u64 (ww1 b)) ∧ w'.cell? ⟨w.heap.size + 1, 3, none⟩ = some (.int .u64 (ww0 b)) ∧ w'.cell? ⟨w.heap.size + 2, 0, none⟩ = some (.int .u64 (ww3 c)) ∧ w'.cell? ⟨w.heap.size + 2, 1, none⟩ = some (.int .u64 (ww2 c)) ∧ w'.cell? ⟨w.heap.size + 2, 2, none⟩ = some (.int .u64 (ww1 c)) ∧ w'.cell? ⟨w.heap.size + 2, 3, none⟩ = some (.int .u64 (ww0 c)) ∧ w'.cell? ⟨w.heap.size + 3, 0, none⟩ = some (.int .u64 (ww3 d)) ∧ w'.cell? ⟨w.heap.size + 3, 1, none⟩ = some (.int .u64 (ww2 d)) ∧ w'.cell? ⟨w.heap.size + 3, 2, none⟩ = some (.int .u64 (ww1 d)) ∧ w'.cell? ⟨w.heap.size + 3, 3, none⟩ = some (.int .u64 (ww0 d))) W := ⟨(T0.b 0 rfl).c 0 rfl, (T0.b 0 rfl).c 1 rfl, (T0.b 0 rfl).c 2 rfl, (T0.b 0 rfl).c 3 rfl, (T0.b 1 rfl).c 0 rfl, (T0.b 1 rfl).c 1 rfl, (T0.b 1 rfl).c 2 rfl, (T0.b 1 rfl).c 3 rfl, (T0.b 2 rfl).c 0 rfl, (T0.b 2 rfl).c 1 rfl, (T0.b 2 rfl).c 2 rfl, (T0.b 2 rfl).c 3 rfl, (T0.b 3 rfl).c 0 rfl, (T0.b 3 rfl).c 1 rfl, (T0.b 3 rfl).c 2 rfl, (T0.b 3 rfl).c 3 rfl⟩
theorem minor_det (a b c d : Int) (ha : told a = true) (hb : told b = true) (hc : told c = true) (hd : told d = true) (h1 : LR (a * d)) (h2 : LR (b * c)) (h3 : told (a * d - b * c) = true) (w : World) : Calls Tryz.prog 97 #[W4 a, W4 b, W4 c, W4 d] w (VP (W4 (a * d - b * c)) w) := by
 have T5 : ArgsB w (((((w.alloc (.cells #[.int .u64 (ww3 a), .int .u64 (ww2 a), .int .u64 (ww1 a), .int .u64 (ww0 a)] 33)).alloc (.cells #[.int .u64 (ww3 b), .int .u64 (ww2 b), .int .u64 (ww1 b), .int .u64 (ww0 b)] 33)).alloc (.cells #[.int .u64 (ww3 c), .int .u64 (ww2 c), .int .u64 (ww1 c), .int .u64 (ww0 c)] 33)).alloc (.cells #[.int .u64 (ww3 d), .int .u64 (ww2 d), .int .u64 (ww1 d), .int .u64 (ww0 d)] 33)).alloc (.cells #[.int .u64 0, .int .u64 0, .int .u64 0, .int .u64 0] 33)) [[.int .u64 (ww3 a), .int .u64 (ww2 a), .int .u64 (ww1 a), .int .u64 (ww0 a)], [.int .u64 (ww3 b), .int .u64 (ww2 b), .int .u64 (ww1 b), .int .u64 (ww0 b)], [.int .u64 (ww3 c), .int .u64 (ww2 c), .int .u64 (ww1 c), .int .u64 (ww0 c)], [.int .u64 (ww3 d), .int .u64 (ww2 d), .int .u64 (ww1 d), .int .u64 (ww0 d)], [.int .u64 0, .int .u64 0, .int .u64 0, .int .u64 0]] := ar5 _ _ _ _ _ _ _ _ _ _ w
 have R0 := T5.b 4 rfl
 have T0 : ArgsB w _ [[.int .u64 (ww3 a), .int .u64 (ww2 a), .int .u64 (ww1 a), .int .u64 (ww0 a)], [.int .u64 (ww3 b), .int .u64 (ww2 b), .int .u64 (ww1 b), .int .u64 (ww0 b)], [.int .u64 (ww3 c), .int .u64 (ww2 c), .int .u64 (ww1 c), .int .u64 (ww0 c)], [.int .u64 (ww3 d), .int .u64 (ww2 d), .int .u64 (ww1 d), .int .u64 (ww0 d)]] := T5.left (vs := [[.int .u64 0, .int .u64 0, .int .u64 0, .int .u64 0]])
 clear T5
 have C1 := times_det a d ha hd
 have C2 := times_det b c hb hc
 have C3 := minus_det (a * d) (b * c) h1 h2 (told_lr h3)
 have C4 := toldI_det (a * d - b * c) h3
 clear ha hb hc hd h1 h2 h3
 generalize hp : a * d = p at *
 generalize hq : b * c = q at *
 generalize hr : p - q = r at *
 clear hp hq hr
 have tok1 : True := trivial
 go_enter Tryz.func97, Tryz.ntmps97
 go_upto_region 1 with fail
 generalize (((((w.alloc (.cells #[.int .u64 (ww3 a), .int .u64 (ww2 a), .int .u64 (ww1 a), .int .u64 (ww0 a)] 33)).alloc (.cells #[.int .u64 (ww3 b), .int .u64 (ww2 b), .int .u64 (ww1 b), .int .u64 (ww0 b)] 33)).alloc (.cells #[.int .u64 (ww3 c), .int .u64 (ww2 c), .int .u64 (ww1 c), .int .u64 (ww0 c)] 33)).alloc (.cells #[.int .u64 (ww3 d), .int .u64 (ww2 d), .int .u64 (ww1 d), .int .u64 (ww0 d)] 33)).alloc (.cells #[.int .u64 0, .int .u64 0, .int .u64 0, .int .u64 0] 33)) = W at *
 go_region_held3 (fun w' => w'.cell? ⟨w.heap.size, 0, none⟩ = some (.int .u64 (ww3 a)) ∧ w'.cell? ⟨w.heap.size, 1, none⟩ = some (.int .u64 (ww2 a)) ∧ w'.cell? ⟨w.heap.size, 2, none⟩ = some (.int .u64 (ww1 a)) ∧ w'.cell? ⟨w.heap.size, 3, none⟩ = some (.int .u64 (ww0 a)) ∧ w'.cell? ⟨w.heap.size + 1, 0, none⟩ = some (.int .u64 (ww3 b)) ∧ w'.cell? ⟨w.heap.size + 1, 1, none⟩ = some (.int .u64 (ww2 b)) ∧ w'.cell? ⟨w.heap.size + 1, 2, none⟩ = some (.int .u64 (ww1 b)) ∧ w'.cell? ⟨w.heap.size + 1, 3, none⟩ = some (.int .u64 (ww0 b)) ∧ w'.cell? ⟨w.heap.size + 2, 0, none⟩ = some (.int .u64 (ww3 c)) ∧ w'.cell? ⟨w.heap.size + 2, 1, none⟩ = some (.int .u64 (ww2 c)) ∧ w'.cell? ⟨w.heap.size + 2, 2, none⟩ = some (.int .u64 (ww1 c)) ∧ w'.cell? ⟨w.heap.size + 2, 3, none⟩ = some (.int .u64 (ww0 c)) ∧ w'.cell? ⟨w.heap.size + 3, 0, none⟩ = some (.int .u64 (ww3 d)) ∧ w'.cell? ⟨w.heap.size + 3, 1, none⟩ = some (.int .u64 (ww2 d)) ∧ w'.cell? ⟨w.heap.size + 3, 2, none⟩ = some (.int .u64 (ww1 d)) ∧ w'.cell? ⟨w.heap.size + 3, 3, none⟩ = some (.int .u64 (ww0 d))) ((refine minor_cells ?_ <;> repeat (first | (with_reducible exact T0) | (with_reducible refine ArgsB.drew ?_) | (with_reducible refine ArgsB.set4g ?_ (by simp; try omega) _ _ _ _))))
   (first
     | (go_at_call 121; have _t := tok1; refine (C1 _).mono ?_; rintro e w1 ⟨rfl, hB⟩; (first | (have T1 : ArgsB w w1 _ := (by with_reducible exact T0.step hB); have tltw1 := (T0.b 3 rfl).lt; have lR0w1 := R0.lt; replace R0 := R0.step hB; skip) | (have T1 : ArgsB w w1 _ := (by with_reducible exact T0.drew.step hB); have tltw1 := (T0.b 3 rfl).lt; have lR0w1 := R0.lt; replace R0 := R0.drew.step hB; skip)); clear T0; have T0 := T1; clear T1; clear hB; clear tok1 _t)
     | (go_at_call 121; refine (C2 _).mono ?_; rintro e w2 ⟨rfl, hB⟩; (first | (have T1 : ArgsB w w2 _ := (by with_reducible exact T0.step hB); have tltw2 := (T0.b 3 rfl).lt; have lR0w2 := R0.lt; replace R0 := R0.step hB; skip) | (have T1 : ArgsB w w2 _ := (by with_reducible exact T0.drew.step hB); have tltw2 := (T0.b 3 rfl).lt; have lR0w2 := R0.lt; replace R0 := R0.drew.step hB; skip)); clear T0; have T0 := T1; clear T1; clear hB)
     | (go_at_call 122; refine (C3 _).mono ?_; rintro e w3 ⟨rfl, hB⟩; (first | (have T1 : ArgsB w w3 _ := (by with_reducible exact T0.step hB); have tltw3 := (T0.b 3 rfl).lt; have lR0w3 := R0.lt; replace R0 := R0.step hB; skip) | (have T1 : ArgsB w w3 _ := (by with_reducible exact T0.drew.step hB); have tltw3 := (T0.b 3 rfl).lt; have lR0w3 := R0.lt; replace R0 := R0.drew.step hB; skip)); clear T0; have T0 := T1; clear T1; clear hB)
     | (go_at_call 120; refine (C4 _).mono ?_; rintro e w4 ⟨rfl, hB⟩; (first | (have T1 : ArgsB w w4 _ := (by with_reducible exact T0.step hB); have tltw4 := (T0.b 3 rfl).lt; have lR0w4 := R0.lt; replace R0 := R0.step hB; skip) | (have T1 : ArgsB w w4 _ := (by with_reducible exact T0.drew.step hB); have tltw4 := (T0.b 3 rfl).lt; have lR0w4 := R0.lt; replace R0 := R0.drew.step hB; skip)); clear T0; have T0 := T1; clear T1; clear hB; obtain ⟨rc0, rf0, rc1, rf1, rc2, rf2, rc3, rf3⟩ := R0.cf4; have rl := R0.lt))
 all_goals have HB := T0.below
 all_goals clear T0 R0
 all_goals go_wp2
 all_goals refine bodyPost_ret (v := W4 r) (by simp [results, Tryz.results97, go_sem, rc0, rc1, rc2, rc3]) rfl ?_
 all_goals exact ⟨rfl, by first | exact below_set4 (g := w.heap.size + 4) (by omega) HB | exact (below_set4 (g := w.heap.size + 4) (by omega) HB).drew⟩
theorem isPart_det (x : Int) (hx : told x = true) (w : World) : Calls Tryz.prog 59 #[W4 x] w (VP (.bool (small x)) w) := by
 have T0 : ArgsB w (w.alloc (.cells #[.int .u64 (ww3 x), .int .u64 (ww2 x), .int .u64 (ww1 x), .int .u64 (ww0 x)] 33)) [[.int .u64 (ww3 x), .int .u64 (ww2 x), .int .u64 (ww1 x), .int .u64 (ww0 x)]] := ar1 _ _ w
 have C := bitsW_det x hx
 clear hx
 go_enter Tryz.func59, Tryz.ntmps59
 go_wp2_with fail
 refine (C _).mono ?_
 rintro e w1 ⟨b, rfl, hb, hB⟩
 have HB := (T0.step hB).below
 have hs : Hid (small x = decide ((b : Int) ≤ 80)) := by
   show _ = _
   have := bits_small hb
   unfold small
   rw [Bool.eq_iff_iff, decide_eq_true_iff, decide_eq_true_iff]
   omega
 clear T0 hB hb C
 go_wp2
 go_ret
 exact ⟨by rw [hs.out]; simp, HB⟩
theorem eqLongOne (x0 x1 x2 x3 x4 x5 x6 x7 : Int) (w : World) : (Op.equalIn 10000 104 (L8 x0 x1 x2 x3 x4 x5 x6 x7) (L8 1 0 0 0 0 0 0 0)).run Tryz.prog w = .ok (x0 == 1 && x1 == 0 && x2 == 0 && x3 == 0 && x4 == 0 && x5 == 0 && x6 == 0 && x7 == 0) w := by
 have u3 := Tryz.underlying23
 have a3 := Tryz.isAgg23
 have z3 := Tryz.sizeOf23
 rw [show (10000 : Nat) = 9999 + 1 from rfl, Op.equalIn]
 simp only [Sem.run_bind, run_underlying Tryz.underlying104, Result.andThen_ok]
 simp only [Std.Legacy.Range.forIn_eq_forIn_range', Std.Legacy.Range.size, Nat.sub_zero, Nat.add_sub_cancel, Nat.div_one, List.range'_succ, List.range'_zero, List.forIn_cons, List.forIn_nil]
 go_simp
 by_cases h0 : x0 = 1
 · subst h0
   by_cases h1 : x1 = 0
   · subst h1
     by_cases h2 : x2 = 0
     · subst h2
       by_cases h3 : x3 = 0
       · subst h3
         by_cases h4 : x4 = 0
         · subst h4
           by_cases h5 : x5 = 0
           · subst h5
             by_cases h6 : x6 = 0
             · subst h6
               by_cases h7 : x7 = 0
               · subst h7
                 simp
               · simp [h7]
             · simp [h6]
           · simp [h5]
         · simp [h4]
       · simp [h3]
     · simp [h2]
   · simp [h1]
 · simp [h0]
theorem oneLV {z : Int} (h0 : LR z) : (lw0 z == 1 && lw1 z == 0 && lw2 z == 0 && lw3 z == 0 && lw4 z == 0 && lw5 z == 0 && lw6 z == 0 && lw7 z == 0) = decide (z = 1) := by
 rw [Bool.eq_iff_iff]
 simp only [Bool.and_eq_true, beq_iff_eq, decide_eq_true_eq]
 constructor
 · rintro ⟨⟨⟨⟨⟨⟨⟨e0, e1⟩, e2⟩, e3⟩, e4⟩, e5⟩, e6⟩, e7⟩
   have := lw_sl h0
   rw [e0, e1, e2, e3, e4, e5, e6, e7] at this
   rw [← this]; decide
 · rintro rfl
   decide
theorem eqLVOne (z : Int) (h0 : LR z) (w : World) : (Op.equalIn 10000 104 (LV z) (L8 1 0 0 0 0 0 0 0)).run Tryz.prog w = .ok (decide (z = 1)) w := by
 rw [← oneLV h0]
 exact eqLongOne _ _ _ _ _ _ _ _ w
theorem cut3_new {w X : World} {vss : List (List Value)} {rs zs : List Value} {T : TypeId} {g : Nat} (h : ArgsB w X vss) (hl : w.heap.size + vss.length ≤ X.heap.size) (R : Blk X g zs) : CutB w (X.alloc (.cells rs.toArray T)) vss rs (.pointer (some ⟨X.heap.size, 0, none⟩)) ∧ Blk (X.alloc (.cells rs.toArray T)) g zs ∧ (Value.pointer (some ⟨X.heap.size, 0, none⟩)) ≠ .pointer (some ⟨g, 0, none⟩) := by
 refine ⟨cutB_new h hl, R.alloc _, ?_⟩
 intro he
 have := R.lt
 simp at he <;> omega
theorem cut3_set8 {w X : World} {vss : List (List Value)} {zs : List Value} {v0 v1 v2 v3 v4 v5 v6 v7 z0 z1 z2 z3 z4 z5 z6 z7 : Value} {g g' : Nat} (h : ArgsB w X vss) (G : Blk X g [z0, z1, z2, z3, z4, z5, z6, z7]) (hg : w.heap.size + vss.length ≤ g) (R : Blk X g' zs) (hne : g' < g) : CutB w ((((((((X.setCell ⟨g, 0, none⟩ v0).setCell ⟨g, 1, none⟩ v1).setCell ⟨g, 2, none⟩ v2).setCell ⟨g, 3, none⟩ v3).setCell ⟨g, 4, none⟩ v4).setCell ⟨g, 5, none⟩ v5).setCell ⟨g, 6, none⟩ v6).setCell ⟨g, 7, none⟩ v7) vss [v0, v1, v2, v3, v4, v5, v6, v7] (.pointer (some ⟨g, 0, none⟩)) ∧ Blk ((((((((X.setCell ⟨g, 0, none⟩ v0).setCell ⟨g, 1, none⟩ v1).setCell ⟨g, 2, none⟩ v2).setCell ⟨g, 3, none⟩ v3).setCell ⟨g, 4, none⟩ v4).setCell ⟨g, 5, none⟩ v5).setCell ⟨g, 6, none⟩ v6).setCell ⟨g, 7, none⟩ v7) g' zs ∧ (Value.pointer (some ⟨g, 0, none⟩)) ≠ .pointer (some ⟨g', 0, none⟩) := by
 refine ⟨cutB_set8 h G hg, R.set8 (by omega), ?_⟩
 intro he
 simp at he <;> omega
theorem c3_cells {x y z : Int} {w W : World} (T0 : ArgsB w W [[.int .u64 (ww3 x), .int .u64 (ww2 x), .int .u64 (ww1 x), .int .u64 (ww0 x)], [.int .u64 (ww3 y), .int .u64 (ww2 y), .int .u64 (ww1 y), .int .u64 (ww0 y)], [.int .u64 (ww3 z), .int .u64 (ww2 z), .int .u64 (ww1 z), .int .u64 (ww0 z)]]) : (fun w' => w'.cell? ⟨w.heap.size, 0, none⟩ = some (.int .u64 (ww3 x)) ∧ w'.cell? ⟨w.heap.size, 1, none⟩ = some (.int .u64 (ww2 x)) ∧ w'.cell? ⟨w.heap.size, 2, none⟩ = some (.int .u64 (ww1 x)) ∧ w'.cell? ⟨w.heap.size, 3, none⟩ = some (.int .u64 (ww0 x)) ∧ w'.cell? ⟨w.heap.size + 1, 0, none⟩ = some (.int .u64 (ww3 y)) ∧ w'.cell? ⟨w.heap.size + 1, 1, none⟩ = some (.int .u64 (ww2 y)) ∧ w'.cell? ⟨w.heap.size + 1, 2, none⟩ = some (.int .u64 (ww1 y)) ∧ w'.cell? ⟨w.heap.size + 1, 3, none⟩ = some (.int .u64 (ww0 y)) ∧ w'.cell? ⟨w.heap.size + 2, 0, none⟩ = some (.int .u64 (ww3 z)) ∧ w'.cell? ⟨w.heap.size + 2, 1, none⟩ = some (.int .u64 (ww2 z)) ∧ w'.cell? ⟨w.heap.size + 2, 2, none⟩ = some (.int .u64 (ww1 z)) ∧ w'.cell? ⟨w.heap.size + 2, 3, none⟩ = some (.int .u64 (ww0 z))) W := ⟨(T0.b 0 rfl).c 0 rfl, (T0.b 0 rfl).c 1 rfl, (T0.b 0 rfl).c 2 rfl, (T0.b 0 rfl).c 3 rfl, (T0.b 1 rfl).c 0 rfl, (T0.b 1 rfl).c 1 rfl, (T0.b 1 rfl).c 2 rfl, (T0.b 1 rfl).c 3 rfl, (T0.b 2 rfl).c 0 rfl, (T0.b 2 rfl).c 1 rfl, (T0.b 2 rfl).c 2 rfl, (T0.b 2 rfl).c 3 rfl⟩
theorem c3_cells2 {x y z g : Int} {w W : World} {gc : Nat} (T0 : ArgsB w W [[.int .u64 (ww3 x), .int .u64 (ww2 x), .int .u64 (ww1 x), .int .u64 (ww0 x)], [.int .u64 (ww3 y), .int .u64 (ww2 y), .int .u64 (ww1 y), .int .u64 (ww0 y)], [.int .u64 (ww3 z), .int .u64 (ww2 z), .int .u64 (ww1 z), .int .u64 (ww0 z)]]) (GC : Blk W gc [.int .u64 (lw0 g), .int .u64 (lw1 g), .int .u64 (lw2 g), .int .u64 (lw3 g), .int .u64 (lw4 g), .int .u64 (lw5 g), .int .u64 (lw6 g), .int .u64 (lw7 g)]) : (fun w' => w'.cell? ⟨w.heap.size + 1, 0, none⟩ = some (.int .u64 (ww3 y)) ∧ w'.cell? ⟨w.heap.size + 1, 1, none⟩ = some (.int .u64 (ww2 y)) ∧ w'.cell? ⟨w.heap.size + 1, 2, none⟩ = some (.int .u64 (ww1 y)) ∧ w'.cell? ⟨w.heap.size + 1, 3, none⟩ = some (.int .u64 (ww0 y)) ∧ w'.cell? ⟨gc, 0, none⟩ = some (.int .u64 (lw0 g)) ∧ w'.cell? ⟨gc, 1, none⟩ = some (.int .u64 (lw1 g)) ∧ w'.cell? ⟨gc, 2, none⟩ = some (.int .u64 (lw2 g)) ∧ w'.cell? ⟨gc, 3, none⟩ = some (.int .u64 (lw3 g)) ∧ w'.cell? ⟨gc, 4, none⟩ = some (.int .u64 (lw4 g)) ∧ w'.cell? ⟨gc, 5, none⟩ = some (.int .u64 (lw5 g)) ∧ w'.cell? ⟨gc, 6, none⟩ = some (.int .u64 (lw6 g)) ∧ w'.cell? ⟨gc, 7, none⟩ = some (.int .u64 (lw7 g))) W := ⟨(T0.b 1 rfl).c 0 rfl, (T0.b 1 rfl).c 1 rfl, (T0.b 1 rfl).c 2 rfl, (T0.b 1 rfl).c 3 rfl, GC.c 0 rfl, GC.c 1 rfl, GC.c 2 rfl, GC.c 3 rfl, GC.c 4 rfl, GC.c 5 rfl, GC.c 6 rfl, GC.c 7 rfl⟩
theorem common3_det (x y z : Int) (hx : told x = true) (hy : told y = true) (hz : told z = true) (w : World) : Calls Tryz.prog 60 #[W4 x, W4 y, W4 z] w (VP (LV (Int.gcd (y.natAbs : Int) (Int.gcd (x.natAbs : Int) (z.natAbs : Int) : Int) : Int)) w) := by
 have T5 : ArgsB w ((((w.alloc (.cells #[.int .u64 (ww3 x), .int .u64 (ww2 x), .int .u64 (ww1 x), .int .u64 (ww0 x)] 33)).alloc (.cells #[.int .u64 (ww3 y), .int .u64 (ww2 y), .int .u64 (ww1 y), .int .u64 (ww0 y)] 33)).alloc (.cells #[.int .u64 (ww3 z), .int .u64 (ww2 z), .int .u64 (ww1 z), .int .u64 (ww0 z)] 33)).alloc (.cells #[.int .u64 0, .int .u64 0, .int .u64 0, .int .u64 0, .int .u64 0, .int .u64 0, .int .u64 0, .int .u64 0] 104)) [[.int .u64 (ww3 x), .int .u64 (ww2 x), .int .u64 (ww1 x), .int .u64 (ww0 x)], [.int .u64 (ww3 y), .int .u64 (ww2 y), .int .u64 (ww1 y), .int .u64 (ww0 y)], [.int .u64 (ww3 z), .int .u64 (ww2 z), .int .u64 (ww1 z), .int .u64 (ww0 z)], [.int .u64 0, .int .u64 0, .int .u64 0, .int .u64 0, .int .u64 0, .int .u64 0, .int .u64 0, .int .u64 0]] := ar4 _ _ _ _ _ _ _ _ w
 have R0 := T5.b 3 rfl
 have T0 : ArgsB w _ [[.int .u64 (ww3 x), .int .u64 (ww2 x), .int .u64 (ww1 x), .int .u64 (ww0 x)], [.int .u64 (ww3 y), .int .u64 (ww2 y), .int .u64 (ww1 y), .int .u64 (ww0 y)], [.int .u64 (ww3 z), .int .u64 (ww2 z), .int .u64 (ww1 z), .int .u64 (ww0 z)]] := T5.left (vs := [[.int .u64 0, .int .u64 0, .int .u64 0, .int .u64 0, .int .u64 0, .int .u64 0, .int .u64 0, .int .u64 0]])
 clear T5
 have A1 := longOf_det x hx
 have A2 := longOf_det z hz
 have A3 := longOf_det y hy
 have tx := told_abs hx
 have ty := told_abs hy
 have tz := told_abs hz
 have B1 := size_det x (told_lr hx) (by omega)
 have B2 := size_det z (told_lr hz) (by omega)
 have B3 := size_det y (told_lr hy) (by omega)
 have gb := gcd_le x.natAbs z.natAbs 57896044618658097711785492504343953926634992332820282019728792003956564819968 (by omega) (by omega)
 have gb2 := gcd_le y.natAbs (Int.gcd (x.natAbs : Int) (z.natAbs : Int)) 57896044618658097711785492504343953926634992332820282019728792003956564819968 (by omega) (by omega)
 have C1 := gcd_det (x.natAbs : Int) (z.natAbs : Int) ⟨by omega, by omega⟩ ⟨by omega, by omega⟩ (by omega)
 have C2 := gcd_det (y.natAbs : Int) (Int.gcd (x.natAbs : Int) (z.natAbs : Int) : Int) ⟨by omega, by omega⟩ ⟨by omega, by omega⟩ (by omega)
 clear gb gb2 tx ty tz hx hy hz
 generalize ((Int.gcd (y.natAbs : Int) (Int.gcd (x.natAbs : Int) (z.natAbs : Int) : Int) : Nat) : Int) = q at *
 generalize ((Int.gcd (x.natAbs : Int) (z.natAbs : Int) : Nat) : Int) = g at *
 generalize (x.natAbs : Int) = ax at *
 generalize (y.natAbs : Int) = ay at *
 generalize (z.natAbs : Int) = az at *
 have tok1 : True := trivial
 have tok2 : True := trivial
 go_enter Tryz.func60, Tryz.ntmps60
 go_upto_region 1 with fail
 generalize ((((w.alloc (.cells #[.int .u64 (ww3 x), .int .u64 (ww2 x), .int .u64 (ww1 x), .int .u64 (ww0 x)] 33)).alloc (.cells #[.int .u64 (ww3 y), .int .u64 (ww2 y), .int .u64 (ww1 y), .int .u64 (ww0 y)] 33)).alloc (.cells #[.int .u64 (ww3 z), .int .u64 (ww2 z), .int .u64 (ww1 z), .int .u64 (ww0 z)] 33)).alloc (.cells #[.int .u64 0, .int .u64 0, .int .u64 0, .int .u64 0, .int .u64 0, .int .u64 0, .int .u64 0, .int .u64 0] 104)) = W at *
 have hlw := R0.lt
 have hlt := (T0.b 2 rfl).lt
 go_cut [7] (fun p wx => CutB w wx [[.int .u64 (ww3 x), .int .u64 (ww2 x), .int .u64 (ww1 x), .int .u64 (ww0 x)], [.int .u64 (ww3 y), .int .u64 (ww2 y), .int .u64 (ww1 y), .int .u64 (ww0 y)], [.int .u64 (ww3 z), .int .u64 (ww2 z), .int .u64 (ww1 z), .int .u64 (ww0 z)]] [.int .u64 (lw0 g), .int .u64 (lw1 g), .int .u64 (lw2 g), .int .u64 (lw3 g), .int .u64 (lw4 g), .int .u64 (lw5 g), .int .u64 (lw6 g), .int .u64 (lw7 g)] p ∧ Blk wx (w.heap.size + 3) [.int .u64 0, .int .u64 0, .int .u64 0, .int .u64 0, .int .u64 0, .int .u64 0, .int .u64 0, .int .u64 0] ∧ p ≠ .pointer (some ⟨w.heap.size + 3, 0, none⟩))
 case first =>
   go_region_held3 (fun w' => w'.cell? ⟨w.heap.size, 0, none⟩ = some (.int .u64 (ww3 x)) ∧ w'.cell? ⟨w.heap.size, 1, none⟩ = some (.int .u64 (ww2 x)) ∧ w'.cell? ⟨w.heap.size, 2, none⟩ = some (.int .u64 (ww1 x)) ∧ w'.cell? ⟨w.heap.size, 3, none⟩ = some (.int .u64 (ww0 x)) ∧ w'.cell? ⟨w.heap.size + 1, 0, none⟩ = some (.int .u64 (ww3 y)) ∧ w'.cell? ⟨w.heap.size + 1, 1, none⟩ = some (.int .u64 (ww2 y)) ∧ w'.cell? ⟨w.heap.size + 1, 2, none⟩ = some (.int .u64 (ww1 y)) ∧ w'.cell? ⟨w.heap.size + 1, 3, none⟩ = some (.int .u64 (ww0 y)) ∧ w'.cell? ⟨w.heap.size + 2, 0, none⟩ = some (.int .u64 (ww3 z)) ∧ w'.cell? ⟨w.heap.size + 2, 1, none⟩ = some (.int .u64 (ww2 z)) ∧ w'.cell? ⟨w.heap.size + 2, 2, none⟩ = some (.int .u64 (ww1 z)) ∧ w'.cell? ⟨w.heap.size + 2, 3, none⟩ = some (.int .u64 (ww0 z))) ((refine c3_cells ?_ <;> repeat (first | (with_reducible exact T0) | (with_reducible refine ArgsB.drew ?_) | (with_reducible refine ArgsB.alloc ?_ _) | (with_reducible refine ArgsB.set8g ?_ (by simp; omega) _ _ _ _ _ _ _ _))))
     (first
       | (go_at_call 94; have _t := tok1; refine (A1 _).mono ?_; rintro e w1 ⟨rfl, hB⟩; (first | (have T1 : ArgsB w w1 _ := (by with_reducible exact T0.step hB); have tltw1 := (T0.b 2 rfl).lt; have lR0w1 := R0.lt; replace R0 := R0.step hB; (try (replace G0 := G0.step hB; obtain ⟨j0c, j0f, j1c, j1f, j2c, j2f, j3c, j3f, j4c, j4f, j5c, j5f, j6c, j6f, j7c, j7f⟩ := G0.cf8; have jlt := G0.lt))) | (have T1 : ArgsB w w1 _ := (by with_reducible exact T0.drew.step hB); have tltw1 := (T0.b 2 rfl).lt; have lR0w1 := R0.lt; replace R0 := R0.drew.step hB; (try (replace G0 := G0.drew.step hB; obtain ⟨j0c, j0f, j1c, j1f, j2c, j2f, j3c, j3f, j4c, j4f, j5c, j5f, j6c, j6f, j7c, j7f⟩ := G0.cf8; have jlt := G0.lt))) | (have T1 : ArgsB w w1 _ := (by with_reducible exact (T0.alloc _).step hB); have tltw1 := (T0.b 2 rfl).lt; have lR0w1 := R0.lt; replace R0 := (R0.alloc _).step hB; (have G0 := (Blk.new _ [.int .u64 0, .int .u64 0, .int .u64 0, .int .u64 0, .int .u64 0, .int .u64 0, .int .u64 0, .int .u64 0] _ rfl).step hB; obtain ⟨j0c, j0f, j1c, j1f, j2c, j2f, j3c, j3f, j4c, j4f, j5c, j5f, j6c, j6f, j7c, j7f⟩ := G0.cf8; have jlt := G0.lt)) | (have T1 : ArgsB w w1 _ := (by with_reducible exact (T0.alloc _).drew.step hB); have tltw1 := (T0.b 2 rfl).lt; have lR0w1 := R0.lt; replace R0 := (R0.alloc _).drew.step hB; (have G0 := (Blk.new _ [.int .u64 0, .int .u64 0, .int .u64 0, .int .u64 0, .int .u64 0, .int .u64 0, .int .u64 0, .int .u64 0] _ rfl).drew.step hB; obtain ⟨j0c, j0f, j1c, j1f, j2c, j2f, j3c, j3f, j4c, j4f, j5c, j5f, j6c, j6f, j7c, j7f⟩ := G0.cf8; have jlt := G0.lt))); clear T0; have T0 := T1; clear T1; clear hB; clear tok1 _t)
       | (go_at_call 94; refine (A2 _).mono ?_; rintro e w2 ⟨rfl, hB⟩; (first | (have T1 : ArgsB w w2 _ := (by with_reducible exact T0.step hB); have tltw2 := (T0.b 2 rfl).lt; have lR0w2 := R0.lt; replace R0 := R0.step hB; (try (replace G0 := G0.step hB; obtain ⟨j0c, j0f, j1c, j1f, j2c, j2f, j3c, j3f, j4c, j4f, j5c, j5f, j6c, j6f, j7c, j7f⟩ := G0.cf8; have jlt := G0.lt))) | (have T1 : ArgsB w w2 _ := (by with_reducible exact T0.drew.step hB); have tltw2 := (T0.b 2 rfl).lt; have lR0w2 := R0.lt; replace R0 := R0.drew.step hB; (try (replace G0 := G0.drew.step hB; obtain ⟨j0c, j0f, j1c, j1f, j2c, j2f, j3c, j3f, j4c, j4f, j5c, j5f, j6c, j6f, j7c, j7f⟩ := G0.cf8; have jlt := G0.lt))) | (have T1 : ArgsB w w2 _ := (by with_reducible exact (T0.alloc _).step hB); have tltw2 := (T0.b 2 rfl).lt; have lR0w2 := R0.lt; replace R0 := (R0.alloc _).step hB; (have G0 := (Blk.new _ [.int .u64 0, .int .u64 0, .int .u64 0, .int .u64 0, .int .u64 0, .int .u64 0, .int .u64 0, .int .u64 0] _ rfl).step hB; obtain ⟨j0c, j0f, j1c, j1f, j2c, j2f, j3c, j3f, j4c, j4f, j5c, j5f, j6c, j6f, j7c, j7f⟩ := G0.cf8; have jlt := G0.lt)) | (have T1 : ArgsB w w2 _ := (by with_reducible exact (T0.alloc _).drew.step hB); have tltw2 := (T0.b 2 rfl).lt; have lR0w2 := R0.lt; replace R0 := (R0.alloc _).drew.step hB; (have G0 := (Blk.new _ [.int .u64 0, .int .u64 0, .int .u64 0, .int .u64 0, .int .u64 0, .int .u64 0, .int .u64 0, .int .u64 0] _ rfl).drew.step hB; obtain ⟨j0c, j0f, j1c, j1f, j2c, j2f, j3c, j3f, j4c, j4f, j5c, j5f, j6c, j6f, j7c, j7f⟩ := G0.cf8; have jlt := G0.lt))); clear T0; have T0 := T1; clear T1; clear hB)
       | (go_at_call 95; have _t := tok2; refine (B1 _).mono ?_; rintro e w3 ⟨rfl, hB⟩; (first | (have T1 : ArgsB w w3 _ := (by with_reducible exact T0.step hB); have tltw3 := (T0.b 2 rfl).lt; have lR0w3 := R0.lt; replace R0 := R0.step hB; (try (replace G0 := G0.step hB; obtain ⟨j0c, j0f, j1c, j1f, j2c, j2f, j3c, j3f, j4c, j4f, j5c, j5f, j6c, j6f, j7c, j7f⟩ := G0.cf8; have jlt := G0.lt))) | (have T1 : ArgsB w w3 _ := (by with_reducible exact T0.drew.step hB); have tltw3 := (T0.b 2 rfl).lt; have lR0w3 := R0.lt; replace R0 := R0.drew.step hB; (try (replace G0 := G0.drew.step hB; obtain ⟨j0c, j0f, j1c, j1f, j2c, j2f, j3c, j3f, j4c, j4f, j5c, j5f, j6c, j6f, j7c, j7f⟩ := G0.cf8; have jlt := G0.lt))) | (have T1 : ArgsB w w3 _ := (by with_reducible exact (T0.alloc _).step hB); have tltw3 := (T0.b 2 rfl).lt; have lR0w3 := R0.lt; replace R0 := (R0.alloc _).step hB; (have G0 := (Blk.new _ [.int .u64 0, .int .u64 0, .int .u64 0, .int .u64 0, .int .u64 0, .int .u64 0, .int .u64 0, .int .u64 0] _ rfl).step hB; obtain ⟨j0c, j0f, j1c, j1f, j2c, j2f, j3c, j3f, j4c, j4f, j5c, j5f, j6c, j6f, j7c, j7f⟩ := G0.cf8; have jlt := G0.lt)) | (have T1 : ArgsB w w3 _ := (by with_reducible exact (T0.alloc _).drew.step hB); have tltw3 := (T0.b 2 rfl).lt; have lR0w3 := R0.lt; replace R0 := (R0.alloc _).drew.step hB; (have G0 := (Blk.new _ [.int .u64 0, .int .u64 0, .int .u64 0, .int .u64 0, .int .u64 0, .int .u64 0, .int .u64 0, .int .u64 0] _ rfl).drew.step hB; obtain ⟨j0c, j0f, j1c, j1f, j2c, j2f, j3c, j3f, j4c, j4f, j5c, j5f, j6c, j6f, j7c, j7f⟩ := G0.cf8; have jlt := G0.lt))); clear T0; have T0 := T1; clear T1; clear hB; clear tok2 _t)
       | (go_at_call 95; refine (B2 _).mono ?_; rintro e w4 ⟨rfl, hB⟩; (first | (have T1 : ArgsB w w4 _ := (by with_reducible exact T0.step hB); have tltw4 := (T0.b 2 rfl).lt; have lR0w4 := R0.lt; replace R0 := R0.step hB; (try (replace G0 := G0.step hB; obtain ⟨j0c, j0f, j1c, j1f, j2c, j2f, j3c, j3f, j4c, j4f, j5c, j5f, j6c, j6f, j7c, j7f⟩ := G0.cf8; have jlt := G0.lt))) | (have T1 : ArgsB w w4 _ := (by with_reducible exact T0.drew.step hB); have tltw4 := (T0.b 2 rfl).lt; have lR0w4 := R0.lt; replace R0 := R0.drew.step hB; (try (replace G0 := G0.drew.step hB; obtain ⟨j0c, j0f, j1c, j1f, j2c, j2f, j3c, j3f, j4c, j4f, j5c, j5f, j6c, j6f, j7c, j7f⟩ := G0.cf8; have jlt := G0.lt))) | (have T1 : ArgsB w w4 _ := (by with_reducible exact (T0.alloc _).step hB); have tltw4 := (T0.b 2 rfl).lt; have lR0w4 := R0.lt; replace R0 := (R0.alloc _).step hB; (have G0 := (Blk.new _ [.int .u64 0, .int .u64 0, .int .u64 0, .int .u64 0, .int .u64 0, .int .u64 0, .int .u64 0, .int .u64 0] _ rfl).step hB; obtain ⟨j0c, j0f, j1c, j1f, j2c, j2f, j3c, j3f, j4c, j4f, j5c, j5f, j6c, j6f, j7c, j7f⟩ := G0.cf8; have jlt := G0.lt)) | (have T1 : ArgsB w w4 _ := (by with_reducible exact (T0.alloc _).drew.step hB); have tltw4 := (T0.b 2 rfl).lt; have lR0w4 := R0.lt; replace R0 := (R0.alloc _).drew.step hB; (have G0 := (Blk.new _ [.int .u64 0, .int .u64 0, .int .u64 0, .int .u64 0, .int .u64 0, .int .u64 0, .int .u64 0, .int .u64 0] _ rfl).drew.step hB; obtain ⟨j0c, j0f, j1c, j1f, j2c, j2f, j3c, j3f, j4c, j4f, j5c, j5f, j6c, j6f, j7c, j7f⟩ := G0.cf8; have jlt := G0.lt))); clear T0; have T0 := T1; clear T1; clear hB)
       | (go_at_call 93; refine (C1 _).mono ?_; rintro e w5 ⟨rfl, hB⟩; (first | (have T1 : ArgsB w w5 _ := (by with_reducible exact T0.step hB); have tltw5 := (T0.b 2 rfl).lt; have lR0w5 := R0.lt; replace R0 := R0.step hB; (try (replace G0 := G0.step hB; obtain ⟨j0c, j0f, j1c, j1f, j2c, j2f, j3c, j3f, j4c, j4f, j5c, j5f, j6c, j6f, j7c, j7f⟩ := G0.cf8; have jlt := G0.lt))) | (have T1 : ArgsB w w5 _ := (by with_reducible exact T0.drew.step hB); have tltw5 := (T0.b 2 rfl).lt; have lR0w5 := R0.lt; replace R0 := R0.drew.step hB; (try (replace G0 := G0.drew.step hB; obtain ⟨j0c, j0f, j1c, j1f, j2c, j2f, j3c, j3f, j4c, j4f, j5c, j5f, j6c, j6f, j7c, j7f⟩ := G0.cf8; have jlt := G0.lt))) | (have T1 : ArgsB w w5 _ := (by with_reducible exact (T0.alloc _).step hB); have tltw5 := (T0.b 2 rfl).lt; have lR0w5 := R0.lt; replace R0 := (R0.alloc _).step hB; (have G0 := (Blk.new _ [.int .u64 0, .int .u64 0, .int .u64 0, .int .u64 0, .int .u64 0, .int .u64 0, .int .u64 0, .int .u64 0] _ rfl).step hB; obtain ⟨j0c, j0f, j1c, j1f, j2c, j2f, j3c, j3f, j4c, j4f, j5c, j5f, j6c, j6f, j7c, j7f⟩ := G0.cf8; have jlt := G0.lt)) | (have T1 : ArgsB w w5 _ := (by with_reducible exact (T0.alloc _).drew.step hB); have tltw5 := (T0.b 2 rfl).lt; have lR0w5 := R0.lt; replace R0 := (R0.alloc _).drew.step hB; (have G0 := (Blk.new _ [.int .u64 0, .int .u64 0, .int .u64 0, .int .u64 0, .int .u64 0, .int .u64 0, .int .u64 0, .int .u64 0] _ rfl).drew.step hB; obtain ⟨j0c, j0f, j1c, j1f, j2c, j2f, j3c, j3f, j4c, j4f, j5c, j5f, j6c, j6f, j7c, j7f⟩ := G0.cf8; have jlt := G0.lt))); clear T0; have T0 := T1; clear T1; clear hB))
   all_goals go_wp2_with fail
   all_goals go_meet
   all_goals have hl : w.heap.size + ([[.int .u64 (ww3 x), .int .u64 (ww2 x), .int .u64 (ww1 x), .int .u64 (ww0 x)], [.int .u64 (ww3 y), .int .u64 (ww2 y), .int .u64 (ww1 y), .int .u64 (ww0 y)], [.int .u64 (ww3 z), .int .u64 (ww2 z), .int .u64 (ww1 z), .int .u64 (ww0 z)]] : List (List Value)).length ≤ w5.heap.size := (T0.b 2 rfl).lt
   all_goals have hr := R0.lt
   all_goals first | (with_reducible exact cut3_new T0 hl R0) | (with_reducible exact cut3_set8 T0 G0 (by simp; omega) R0 (by omega))
 case rest =>
   clear T0 R0 tok1 tok2 A1 A2 B1 B2 C1 hlw hlt
   obtain ⟨⟨gc, hp, hgc, T0, GC⟩, R0, hne⟩ := hcut
   subst hp
   simp at hgc hne
   go_upto_region 2 with fail
   go_region_held3 (fun w' => w'.cell? ⟨w.heap.size + 1, 0, none⟩ = some (.int .u64 (ww3 y)) ∧ w'.cell? ⟨w.heap.size + 1, 1, none⟩ = some (.int .u64 (ww2 y)) ∧ w'.cell? ⟨w.heap.size + 1, 2, none⟩ = some (.int .u64 (ww1 y)) ∧ w'.cell? ⟨w.heap.size + 1, 3, none⟩ = some (.int .u64 (ww0 y)) ∧ w'.cell? ⟨gc, 0, none⟩ = some (.int .u64 (lw0 g)) ∧ w'.cell? ⟨gc, 1, none⟩ = some (.int .u64 (lw1 g)) ∧ w'.cell? ⟨gc, 2, none⟩ = some (.int .u64 (lw2 g)) ∧ w'.cell? ⟨gc, 3, none⟩ = some (.int .u64 (lw3 g)) ∧ w'.cell? ⟨gc, 4, none⟩ = some (.int .u64 (lw4 g)) ∧ w'.cell? ⟨gc, 5, none⟩ = some (.int .u64 (lw5 g)) ∧ w'.cell? ⟨gc, 6, none⟩ = some (.int .u64 (lw6 g)) ∧ w'.cell? ⟨gc, 7, none⟩ = some (.int .u64 (lw7 g))) ((refine c3_cells2 (x := x) (z := z) ?_ ?_ <;> repeat (first | (with_reducible exact T0) | (with_reducible exact GC) | (with_reducible refine ArgsB.drew ?_) | (with_reducible refine Blk.drew ?_) | (with_reducible refine ArgsB.set8g ?_ (by simp; try omega) _ _ _ _ _ _ _ _) | (with_reducible refine Blk.set8 ?_ (by omega)))))
     (first
       | (go_at_call 94; refine (A3 _).mono ?_; rintro e w1 ⟨rfl, hB⟩; (first | (have T1 : ArgsB w w1 _ := (by with_reducible exact T0.step hB); have tltw1 := (T0.b 2 rfl).lt; have lR0w1 := R0.lt; replace R0 := R0.step hB; have lGCw1 := GC.lt; replace GC := GC.step hB; skip) | (have T1 : ArgsB w w1 _ := (by with_reducible exact T0.drew.step hB); have tltw1 := (T0.b 2 rfl).lt; have lR0w1 := R0.lt; replace R0 := R0.drew.step hB; have lGCw1 := GC.lt; replace GC := GC.drew.step hB; skip)); clear T0; have T0 := T1; clear T1; clear hB)
       | (go_at_call 95; refine (B3 _).mono ?_; rintro e w2 ⟨rfl, hB⟩; (first | (have T1 : ArgsB w w2 _ := (by with_reducible exact T0.step hB); have tltw2 := (T0.b 2 rfl).lt; have lR0w2 := R0.lt; replace R0 := R0.step hB; have lGCw2 := GC.lt; replace GC := GC.step hB; skip) | (have T1 : ArgsB w w2 _ := (by with_reducible exact T0.drew.step hB); have tltw2 := (T0.b 2 rfl).lt; have lR0w2 := R0.lt; replace R0 := R0.drew.step hB; have lGCw2 := GC.lt; replace GC := GC.drew.step hB; skip)); clear T0; have T0 := T1; clear T1; clear hB)
       | (go_at_call 93; refine (C2 _).mono ?_; rintro e w3 ⟨rfl, hB⟩; (first | (have T1 : ArgsB w w3 _ := (by with_reducible exact T0.step hB); have tltw3 := (T0.b 2 rfl).lt; have lR0w3 := R0.lt; replace R0 := R0.step hB; have lGCw3 := GC.lt; replace GC := GC.step hB; skip) | (have T1 : ArgsB w w3 _ := (by with_reducible exact T0.drew.step hB); have tltw3 := (T0.b 2 rfl).lt; have lR0w3 := R0.lt; replace R0 := R0.drew.step hB; have lGCw3 := GC.lt; replace GC := GC.drew.step hB; skip)); clear T0; have T0 := T1; clear T1; clear hB; obtain ⟨rc0, rf0, rc1, rf1, rc2, rf2, rc3, rf3, rc4, rf4, rc5, rf5, rc6, rf6, rc7, rf7⟩ := R0.cf8; have rl := R0.lt))
   all_goals have HB := T0.below
   all_goals clear T0 GC R0
   all_goals go_wp2
   all_goals refine bodyPost_ret (v := LV q) (by simp [results, Tryz.results60, go_sem, rc0, rc1, rc2, rc3, rc4, rc5, rc6, rc7]) rfl ?_
   all_goals exact ⟨rfl, by first | exact below_set8 (g := w.heap.size + 3) (by omega) HB | exact (below_set8 (g := w.heap.size + 3) (by omega) HB).drew⟩
end Go.Proofs.YtpmnmlhfaoajdaaGreat
