/- The walk of the model's quotient and rest of digits, bit by bit. -/
import Derived.Test.YtddniklhpkagmaaDivH
import Derived.Test.YtddniklhpkagmaaDivB
import Derived.Test.YtddniklhpkagmaaBase3
namespace Go.Proofs.Ytddniklhpkagmaa
open Go.RowKit
def DivP (n : Nat) (X Y : Int) (w : World) (e : Ending) (w' : World) : Prop :=
  ∃ (qo : Option Addr) (qn qc : Nat) (qs : List Int) (ro : Option Addr) (rn rc : Nat) (rs : List Int), e = .returned (.tuple #[.slice qo qn qc, .slice ro rn rc]) ∧
    (qs.length = qn ∧ qn ≤ qc ∧ qn ≤ n + 1 ∧ Nrm qs ∧ val qs = X / Y ∧ Rd w' qo qs) ∧ (rs.length = rn ∧ rn ≤ rc ∧ rn ≤ n ∧ Nrm rs ∧ val rs = X % Y ∧ Rd w' ro rs) ∧ Below w.heap.size w w'
theorem bits_le32 {v : Int} {b n : Nat} (h : BitsOf v b) (hv : v < pw n) : b ≤ 32 * n := by
  apply Decidable.byContradiction
  intro hn
  have hp := p2_pow (32 * n)
  rw [show 32 * n / 32 = n by omega, show 32 * n % 32 = 0 by omega] at hp
  simp only [Int.pow_zero, Int.mul_one] at hp
  rw [hp] at hv
  rcases h.2.2 with h2 | h2
  · omega
  · have := ipow2_mono (show 32 * n ≤ b - 1 by omega)
    omega
/-- What lies in memory between the rounds. -/
structure DvM (W wr : World) (g : Nat) (qs : List Int) (ro : Option Addr) (rn rc : Nat) (rs : List Int) (n : Nat) : Prop where
  below : Below W.heap.size W wr
  q : Blk wr g (qs.map (Value.int .u32))
  rlen : rs.length = rn
  rcap : rn ≤ rc
  rle : rn ≤ n
  rnrm : Nrm rs
  rrd : Rd wr ro rs
  rne : ∀ b off, ro = some ⟨b, off, none⟩ → rs ≠ [] → b ≠ g
theorem DvM.step {W wr wr' : World} {g : Nat} {qs : List Int} {ro : Option Addr} {rn rc : Nat} {rs : List Int} {n : Nat} (h : DvM W wr g qs ro rn rc rs n) (hB : Below wr.heap.size wr wr') : DvM W wr' g qs ro rn rc rs n :=
  ⟨h.below.trans (hB.mono h.below.size), h.q.step hB, h.rlen, h.rcap, h.rle, h.rnrm, h.rrd.below hB (Nat.le_refl _), h.rne⟩
theorem Rd.setNe {w : World} {ao : Option Addr} {ds : List Int} (h : Rd w ao ds) {p : Addr} (hp : ∀ b off, ao = some ⟨b, off, none⟩ → ds ≠ [] → b ≠ p.block) (u : Value) : Rd (w.setCell p u) ao ds := by
  intro i hi
  obtain ⟨b, off, e, hb, hc⟩ := h i hi
  refine ⟨b, off, e, by simpa [World.setCell] using hb, (World.cell?_setCell_other _ _ _ _ ?_).trans hc⟩
  intro e2
  rw [e2] at hp
  exact hp b off e (by rintro rfl; simp at hi) rfl
set_option maxRecDepth 100000 in
set_option maxHeartbeats 4000000 in
theorem divAbs_any (ao bo : Option Addr) (n m ca cb : Nat) (xs ys : List Int) (w : World) (hx : xs.length = n) (hy : ys.length = m) (nx : Nrm xs) (ny : Nrm ys) (rx : Rd w ao xs) (ry : Rd w bo ys) (hc : n ≤ ca) (hn : n ≤ 10000) (hm : m ≤ 10000) (hY : 0 < val ys) :
    Calls Try.prog 97 #[.slice ao n ca, .slice bo m cb] w (DivP n (val xs) (val ys) w) := by
  obtain ⟨i0, hi, hz0, hz1, hz2⟩ := info_parts Try.info88
  go_enter Try.func97, Try.ntmps97
  go_wp2_with fail
  refine (bits_any ao n ca xs _ hx nx rx (by omega)).mono ?_
  rintro e w1 ⟨bx, rfl, hbx, hB⟩
  replace rx := rx.below hB (Nat.le_refl _)
  replace ry := ry.below hB (Nat.le_refl _)
  have HB1 := hB
  clear hB
  go_wp2_with fail
  refine (bits_any bo m cb ys _ hy ny ry (by omega)).mono ?_
  rintro e w2 ⟨bz, rfl, hbz, hB⟩
  replace rx := rx.below hB (Nat.le_refl _)
  replace ry := ry.below hB (Nat.le_refl _)
  have HB2 : Below w.heap.size w w2 := HB1.trans (hB.mono HB1.size)
  clear hB HB1
  have l1 := bits_le32 (n := n) hbx (by rw [← hx]; exact val_lt nx.1)
  have l2 := bits_le32 (n := m) hbz (by rw [← hy]; exact val_lt ny.1)
  by_cases hlt : bx < bz
  · obtain ⟨v1, v2, v3⟩ := dv_less hbx hbz hlt
    have i1 : (bx : Int) - bz < 0 := by omega
    clear hi hz0 hz1 hz2 hbx hbz
    go_wp2
    go_ret2
    exact ⟨none, 0, 0, [], ao, n, ca, xs, rfl, ⟨rfl, by omega, by omega, nrm_nil, by rw [v1]; rfl, Rd.nil _ _⟩, ⟨hx, hc, Nat.le_refl _, nx, v2.symm, rx⟩, HB2⟩
  · have HI := dv_start hbx hbz hY (by omega) ((bx - bz) / 32 + 1)
    obtain ⟨N, hN⟩ : ∃ N, bx - bz = N := ⟨_, rfl⟩
    have eN : (bx : Int) - bz = (N : Int) := by omega
    have hN1 : N ≤ 32 * n := by omega
    rw [hN] at HI
    clear hbx hbz hN hlt l1 l2
    obtain ⟨K, hK⟩ : ∃ K, N / 32 = K := ⟨_, rfl⟩
    have eK : (N : Int) / 32 = (K : Int) := by omega
    rw [hK] at HI
    go_wp2_with (at_make; refine wpList_make_full _ rfl _ _ 55 rfl w2.heap.size 109 i0 (.int .u32 0) 1 Try.underlying55 hi hz0 hz1 _ _ _ _ (K + 1) rfl rfl (by omega) (by omega) (by rw [hz2]; omega) (by unfold maxLen; omega) (Nat.le_refl _) ?_)
    intro w3 hown hgrow
    have M0 : DvM w2 w3 w2.heap.size (List.replicate (K + 1) 0) ao n ca xs n := by
      rw [made_one] at hown
      refine ⟨(Below.refl _ _).grown hgrow (Nat.le_refl _) (by simp), ⟨(hown.lt _ rfl).2, fun j v hj => ?_⟩, hx, hc, Nat.le_refl _, nx, rx.below ((Below.refl _ _).grown hgrow (Nat.le_refl _) (by simp)) (Nat.le_refl _), ?_⟩
      · have hjl : j < K + 1 := by
          apply Decidable.byContradiction
          intro hn
          rw [List.getElem?_eq_none (by simp; omega)] at hj
          cases hj
        refine ⟨?_, hown.frozenAt j⟩
        rw [hown.cellAt j (by omega)]
        simpa using hj
      · rintro b off rfl hne
        obtain ⟨b', off', e, hb, _⟩ := rx 0 (List.length_pos_iff.2 hne)
        cases e
        omega
    have HBW : Below w.heap.size w w3 := HB2.trans (M0.below.mono HB2.size)
    clear hown hgrow hi hz0 hz1 hz2
    have hKn : K ≤ n := by omega
    go_wp2
    go_loopw [8, 9] (fun r i wr => ∃ (k : Nat) (ro : Option Addr) (rn rc : Nat) (rs qs : List Int), k ≤ N + 1 ∧ i = .int .i64 ((k : Int) - 1) ∧ r = .slice ro rn rc ∧ DvI (val xs) (val ys) qs (val rs) k (K + 1) ∧ DvM w2 wr w2.heap.size qs ro rn rc rs n) (fun _ i _ => (intOf i + 1).toNat)
    case atStart => exact ⟨N + 1, ao, n, ca, xs, _, Nat.le_refl _, by go_num, rfl, HI, M0⟩
    case round =>
      clear HI M0
      obtain ⟨k, ro, rn, rc, rs, qs, hk, rfl, rfl, hI, hM⟩ := hrel
      by_cases hk0 : 0 < k
      · obtain ⟨j, rfl⟩ : ∃ j, k = j + 1 := ⟨k - 1, by omega⟩
        rw [show (((j + 1 : Nat) : Int) - 1) = (j : Int) by omega]
        have ryr := ry.below hM.below (Nat.le_refl _)
        go_wp2_with fail
        refine (left_any bo m cb j ys _ hy ny.1 ryr (by omega) (by omega)).mono ?_
        rintro e w4 ⟨so, sn, sc, ss, rfl, k1, k2, k3, k4, k5, k6, hB⟩
        have hM4 := hM.step hB
        have e2 : val ss = 2 ^ j * val ys := by rw [k5, ← Int.mul_assoc, p2_pow]
        clear hM hB k5 ryr
        go_wp2_with fail
        refine (cmpAbs_any ro so rn sn rc sc rs ss _ hM4.rlen k1 hM4.rnrm k4 hM4.rrd k6 (by have := hM4.rle; omega) (by omega)).mono ?_
        rintro e w5 ⟨rfl, hB⟩
        have hM5 := hM4.step hB
        replace k6 := k6.below hB (Nat.le_refl _)
        clear hM4 hB
        by_cases hle : val rs < 2 ^ j * val ys
        · have hcm : decide (0 ≤ cmpI (val rs) (val ss)) = false := by rw [cmpI_lt (by rw [e2]; exact hle)]; decide
          have R1 := dv_skip hI (by omega) hle
          clear hI e2 k1 k2 k3 k4 k6
          generalize cmpI (val rs) (val ss) = cm at *
          go_wp2
          go_roundw
          case rel => exact ⟨j, ro, rn, rc, rs, qs, by omega, by go_num, rfl, R1, hM5⟩
          case measure => simp [intOf]
        · have hcm : 0 ≤ cmpI (val rs) (val ss) := by
            rcases Int.lt_trichotomy (val rs) (val ss) with h | h | h
            · rw [e2] at h; exact absurd h hle
            · rw [cmpI_eq h]; decide
            · rw [cmpI_gt h]; decide
          generalize cmpI (val rs) (val ss) = cm at *
          go_wp2_with fail
          refine (subAbs_at ro so rn sn rc sc rs ss _ hM5.rlen k1 hM5.rnrm.1 k4.1 hM5.rrd k6 (by have := hM5.rle; omega) (by omega) (by rw [e2]; omega)).mono ?_
          rintro e w6 ⟨⟨o6, c6, z6, rfl, d1, d2, d3, d4, d5, hB⟩, c6', he⟩
          simp only [Ending.returned.injEq, Value.slice.injEq, true_and] at he
          obtain ⟨rfl, rfl⟩ := he
          have hM6 := hM5.step hB
          have hg5 := hM5.q.lt
          clear hM5 hB k1 k2 k3 k4 k6 hcm
          go_wp2_with fail
          refine (trim_at false (some ⟨w5.heap.size, 0, none⟩) rn c6 z6 _ d1 d2 d3 d5 (by have := hM6.rle; omega)).mono ?_
          rintro e w7 ⟨⟨s7, o7, n7, c7, z7, rfl, t1, t2, t3, t4, t5, t6, t7, hB⟩, s8, o8, n8, c8, he, ho⟩
          simp only [Ending.returned.injEq, Value.agg.injEq, Array.mk.injEq, List.cons.injEq, Value.bool.injEq, Value.slice.injEq, and_true] at he
          obtain ⟨rfl, rfl, rfl, rfl⟩ := he
          have hM7 := hM6.step hB
          have hjl : j / 32 < qs.length := by rw [hI.len]; omega
          obtain ⟨R1, oq⟩ := dv_take hI hjl (by omega)
          have ev : val z7 = val rs - 2 ^ j * val ys := by rw [t5, d4, e2]
          rw [← ev] at R1
          have cq := hM7.q.c (j / 32) (v := .int .u32 qs[j / 32]) (by simp [hjl])
          have fq := hM7.q.f (j / 32) (v := .int .u32 qs[j / 32]) (by simp [hjl])
          have hNe : ∀ b off, o7 = some ⟨b, off, none⟩ → z7 ≠ [] → b ≠ w2.heap.size := by
            rintro b off e _
            rcases ho with ho | ho
            · rw [ho] at e; cases e; omega
            · rw [ho] at e; cases e
          have R2 : DvM w2 (w7.setCell ⟨w2.heap.size, j / 32, none⟩ (.int .u32 (qs[j / 32] + 2 ^ (j % 32)))) w2.heap.size (qs.set (j / 32) (qs[j / 32] + 2 ^ (j % 32))) o7 n7 c7 z7 n := by
            refine ⟨hM7.below.setCell (Nat.le_refl _) _, ?_, t1, t2, by have := hM7.rle; omega, t4, t7.setNe hNe _, hNe⟩
            have := hM7.q.setI (j / 32) (by simpa using hjl) (.int .u32 (qs[j / 32] + 2 ^ (j % 32)))
            rwa [← List.map_set] at this
          clear hM6 hM7 t1 t2 t3 t4 t5 t6 t7 d1 d2 d3 d4 d5 hB ho hNe ev hI e2
          have e3 : (j : Int) / 32 = ((j / 32 : Nat) : Int) := by omega
          have e4 : (j : Int) % 32 = ((j % 32 : Nat) : Int) := by omega
          have e5 : ((j / 32 : Nat) : Int) < (K : Int) + 1 := by omega
          have fd := field_d (.bool s7) (.slice o7 n7 c7)
          have e6 : (2 : Int) ^ (j % 32) % 4294967296 = 2 ^ (j % 32) := by
            have h31 := ipow2_mono (show j % 32 ≤ 31 by omega)
            have hp := ipow_pos (j % 32)
            have : (2 : Int) ^ 31 = 2147483648 := by decide
            omega
          generalize hjq : j / 32 = jq at *
          generalize hjr : j % 32 = jr at *
          go_wp2
          go_roundw
          case rel =>
            exact ⟨j, o7, n7, c7, z7, _, by omega, rfl, rfl, R1, R2⟩
          case measure => simp [intOf]
      · obtain rfl : k = 0 := by omega
        obtain ⟨v1, v2⟩ := dv_end hI hY
        have hq := hM.q
        have rq : Rd wr (some ⟨w2.heap.size, 0, none⟩) qs := fun i hi => ⟨w2.heap.size, 0, rfl, hq.lt, by rw [Nat.zero_add]; exact hq.c i (by simp [hi])⟩
        have hlq := hI.len
        have hdq := hI.dig
        clear hI hq
        go_wp2_with fail
        refine (trim_at false (some ⟨w2.heap.size, 0, none⟩) (K + 1) (K + 1) qs _ hlq (Nat.le_refl _) hdq rq (by omega)).mono ?_
        rintro e w7 ⟨⟨s7, o7, n7, c7, z7, rfl, t1, t2, t3, t4, t5, t6, t7, hB⟩, _⟩
        have hM7 := hM.step hB
        have HBE : Below w.heap.size w w7 := HB2.trans (hM7.below.mono HB2.size)
        clear hM hB
        have fd := field_d (.bool s7) (.slice o7 n7 c7)
        clear t6
        go_wp2
        go_ret2
        exact ⟨o7, n7, c7, z7, ro, rn, rc, rs, rfl, ⟨t1, t2, by omega, t4, by rw [t5]; exact v1, t7⟩, ⟨hM7.rlen, hM7.rcap, hM7.rle, hM7.rnrm, v2, hM7.rrd⟩, HBE⟩
end Go.Proofs.Ytddniklhpkagmaa
