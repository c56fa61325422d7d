/- Part 6 of the walks that the proof leans on. -/
import Derived.Test.YtnnojeggjnddpaaPart5
import Derived.Test.YtnnojeggjnddpaaPart2
import Derived.Test.YtnnojeggjnddpaaPart4
import Derived.Deep.RegionHeld3
import Derived.Test.YtnnojeggjnddpaaPart1
import Derived.Deep.RegionWith
import Derived.Test.YtnnojeggjnddpaaPart3
/- The walk of the model's quotient and rest of digits, bit by bit. -/
namespace Go.Proofs.Ytnnojeggjnddpaa
open Go.RowKit
def DivP (n : Nat) (X Y : Int) (w : World) (e : Ending) (w' : World) : Prop :=
  ∃ (qo : Option Addr) (qn qc : Nat) (qs : List Int) (ro : Option Addr) (rn rc : Nat) (rs : List Int), e = .returned (.tuple #[.slice qo qn qc, .slice ro rn rc]) ∧
    (qs.length = qn ∧ qn ≤ qc ∧ qn ≤ n + 1 ∧ Nrm qs ∧ val qs = X / Y ∧ Rd w' qo qs) ∧ (rs.length = rn ∧ rn ≤ rc ∧ rn ≤ n ∧ Nrm rs ∧ val rs = X % Y ∧ Rd w' ro rs) ∧ Below w.heap.size w w'
theorem bits_le32 {v : Int} {b n : Nat} (h : BitsOf v b) (hv : v < pw n) : b ≤ 32 * n := by
  apply Decidable.byContradiction
  intro hn
  have hp := p2_pow (32 * n)
  rw [show 32 * n / 32 = n by omega, show 32 * n % 32 = 0 by omega] at hp
  simp only [Int.pow_zero, Int.mul_one] at hp
  rw [hp] at hv
  rcases h.2.2 with h2 | h2
  · omega
  · have := ipow2_mono (show 32 * n ≤ b - 1 by omega)
    omega
/-- What lies in memory between the rounds. -/
structure DvM (W wr : World) (g : Nat) (qs : List Int) (ro : Option Addr) (rn rc : Nat) (rs : List Int) (n : Nat) : Prop where
  below : Below W.heap.size W wr
  q : Blk wr g (qs.map (Value.int .u32))
  rlen : rs.length = rn
  rcap : rn ≤ rc
  rle : rn ≤ n
  rnrm : Nrm rs
  rrd : Rd wr ro rs
  rne : ∀ b off, ro = some ⟨b, off, none⟩ → rs ≠ [] → b ≠ g
theorem DvM.step {W wr wr' : World} {g : Nat} {qs : List Int} {ro : Option Addr} {rn rc : Nat} {rs : List Int} {n : Nat} (h : DvM W wr g qs ro rn rc rs n) (hB : Below wr.heap.size wr wr') : DvM W wr' g qs ro rn rc rs n :=
  ⟨h.below.trans (hB.mono h.below.size), h.q.step hB, h.rlen, h.rcap, h.rle, h.rnrm, h.rrd.below hB (Nat.le_refl _), h.rne⟩
theorem Rd.setNe {w : World} {ao : Option Addr} {ds : List Int} (h : Rd w ao ds) {p : Addr} (hp : ∀ b off, ao = some ⟨b, off, none⟩ → ds ≠ [] → b ≠ p.block) (u : Value) : Rd (w.setCell p u) ao ds := by
  intro i hi
  obtain ⟨b, off, e, hb, hc⟩ := h i hi
  refine ⟨b, off, e, by simpa [World.setCell] using hb, (World.cell?_setCell_other _ _ _ _ ?_).trans hc⟩
  intro e2
  rw [e2] at hp
  exact hp b off e (by rintro rfl; simp at hi) rfl
set_option maxRecDepth 100000 in
set_option maxHeartbeats 4000000 in
theorem divAbs_any (ao bo : Option Addr) (n m ca cb : Nat) (xs ys : List Int) (w : World) (hx : xs.length = n) (hy : ys.length = m) (nx : Nrm xs) (ny : Nrm ys) (rx : Rd w ao xs) (ry : Rd w bo ys) (hc : n ≤ ca) (hn : n ≤ 10000) (hm : m ≤ 10000) (hY : 0 < val ys) :
    Calls Try.prog 113 #[.slice ao n ca, .slice bo m cb] w (DivP n (val xs) (val ys) w) := by
  obtain ⟨i0, hi, hz0, hz1, hz2⟩ := info_parts Try.info88
  go_enter Try.func113, Try.ntmps113
  go_wp2_with fail
  refine (bits_any ao n ca xs _ hx nx rx (by omega)).mono ?_
  rintro e w1 ⟨bx, rfl, hbx, hB⟩
  replace rx := rx.below hB (Nat.le_refl _)
  replace ry := ry.below hB (Nat.le_refl _)
  have HB1 := hB
  clear hB
  go_wp2_with fail
  refine (bits_any bo m cb ys _ hy ny ry (by omega)).mono ?_
  rintro e w2 ⟨bz, rfl, hbz, hB⟩
  replace rx := rx.below hB (Nat.le_refl _)
  replace ry := ry.below hB (Nat.le_refl _)
  have HB2 : Below w.heap.size w w2 := HB1.trans (hB.mono HB1.size)
  clear hB HB1
  have l1 := bits_le32 (n := n) hbx (by rw [← hx]; exact val_lt nx.1)
  have l2 := bits_le32 (n := m) hbz (by rw [← hy]; exact val_lt ny.1)
  by_cases hlt : bx < bz
  · obtain ⟨v1, v2, v3⟩ := dv_less hbx hbz hlt
    have i1 : (bx : Int) - bz < 0 := by omega
    clear hi hz0 hz1 hz2 hbx hbz
    go_wp2
    go_ret2
    exact ⟨none, 0, 0, [], ao, n, ca, xs, rfl, ⟨rfl, by omega, by omega, nrm_nil, by rw [v1]; rfl, Rd.nil _ _⟩, ⟨hx, hc, Nat.le_refl _, nx, v2.symm, rx⟩, HB2⟩
  · have HI := dv_start hbx hbz hY (by omega) ((bx - bz) / 32 + 1)
    obtain ⟨N, hN⟩ : ∃ N, bx - bz = N := ⟨_, rfl⟩
    have eN : (bx : Int) - bz = (N : Int) := by omega
    have hN1 : N ≤ 32 * n := by omega
    rw [hN] at HI
    clear hbx hbz hN hlt l1 l2
    obtain ⟨K, hK⟩ : ∃ K, N / 32 = K := ⟨_, rfl⟩
    have eK : (N : Int) / 32 = (K : Int) := by omega
    rw [hK] at HI
    go_wp2_with (at_make; refine wpList_make_full _ rfl _ _ 64 rfl w2.heap.size 112 i0 (.int .u32 0) 1 Try.underlying64 hi hz0 hz1 _ _ _ _ (K + 1) rfl rfl (by omega) (by omega) (by rw [hz2]; omega) (by unfold maxLen; omega) (Nat.le_refl _) ?_)
    intro w3 hown hgrow
    have M0 : DvM w2 w3 w2.heap.size (List.replicate (K + 1) 0) ao n ca xs n := by
      rw [made_one] at hown
      refine ⟨(Below.refl _ _).grown hgrow (Nat.le_refl _) (by simp), ⟨(hown.lt _ rfl).2, fun j v hj => ?_⟩, hx, hc, Nat.le_refl _, nx, rx.below ((Below.refl _ _).grown hgrow (Nat.le_refl _) (by simp)) (Nat.le_refl _), ?_⟩
      · have hjl : j < K + 1 := by
          apply Decidable.byContradiction
          intro hn
          rw [List.getElem?_eq_none (by simp; omega)] at hj
          cases hj
        refine ⟨?_, hown.frozenAt j⟩
        rw [hown.cellAt j (by omega)]
        simpa using hj
      · rintro b off rfl hne
        obtain ⟨b', off', e, hb, _⟩ := rx 0 (List.length_pos_iff.2 hne)
        cases e
        omega
    have HBW : Below w.heap.size w w3 := HB2.trans (M0.below.mono HB2.size)
    clear hown hgrow hi hz0 hz1 hz2
    have hKn : K ≤ n := by omega
    go_wp2
    go_loopw [8, 9] (fun r i wr => ∃ (k : Nat) (ro : Option Addr) (rn rc : Nat) (rs qs : List Int), k ≤ N + 1 ∧ i = .int .i64 ((k : Int) - 1) ∧ r = .slice ro rn rc ∧ DvI (val xs) (val ys) qs (val rs) k (K + 1) ∧ DvM w2 wr w2.heap.size qs ro rn rc rs n) (fun _ i _ => (intOf i + 1).toNat)
    case atStart => exact ⟨N + 1, ao, n, ca, xs, _, Nat.le_refl _, by go_num, rfl, HI, M0⟩
    case round =>
      clear HI M0
      obtain ⟨k, ro, rn, rc, rs, qs, hk, rfl, rfl, hI, hM⟩ := hrel
      by_cases hk0 : 0 < k
      · obtain ⟨j, rfl⟩ : ∃ j, k = j + 1 := ⟨k - 1, by omega⟩
        rw [show (((j + 1 : Nat) : Int) - 1) = (j : Int) by omega]
        have ryr := ry.below hM.below (Nat.le_refl _)
        go_wp2_with fail
        refine (left_any bo m cb j ys _ hy ny.1 ryr (by omega) (by omega)).mono ?_
        rintro e w4 ⟨so, sn, sc, ss, rfl, k1, k2, k3, k4, k5, k6, hB⟩
        have hM4 := hM.step hB
        have e2 : val ss = 2 ^ j * val ys := by rw [k5, ← Int.mul_assoc, p2_pow]
        clear hM hB k5 ryr
        go_wp2_with fail
        refine (cmpAbs_any ro so rn sn rc sc rs ss _ hM4.rlen k1 hM4.rnrm k4 hM4.rrd k6 (by have := hM4.rle; omega) (by omega)).mono ?_
        rintro e w5 ⟨rfl, hB⟩
        have hM5 := hM4.step hB
        replace k6 := k6.below hB (Nat.le_refl _)
        clear hM4 hB
        by_cases hle : val rs < 2 ^ j * val ys
        · have hcm : decide (0 ≤ cmpI (val rs) (val ss)) = false := by rw [cmpI_lt (by rw [e2]; exact hle)]; decide
          have R1 := dv_skip hI (by omega) hle
          clear hI e2 k1 k2 k3 k4 k6
          generalize cmpI (val rs) (val ss) = cm at *
          go_wp2
          go_roundw
          case rel => exact ⟨j, ro, rn, rc, rs, qs, by omega, by go_num, rfl, R1, hM5⟩
          case measure => simp [intOf]
        · have hcm : 0 ≤ cmpI (val rs) (val ss) := by
            rcases Int.lt_trichotomy (val rs) (val ss) with h | h | h
            · rw [e2] at h; exact absurd h hle
            · rw [cmpI_eq h]; decide
            · rw [cmpI_gt h]; decide
          generalize cmpI (val rs) (val ss) = cm at *
          go_wp2_with fail
          refine (subAbs_at ro so rn sn rc sc rs ss _ hM5.rlen k1 hM5.rnrm.1 k4.1 hM5.rrd k6 (by have := hM5.rle; omega) (by omega) (by rw [e2]; omega)).mono ?_
          rintro e w6 ⟨⟨o6, c6, z6, rfl, d1, d2, d3, d4, d5, hB⟩, c6', he⟩
          simp only [Ending.returned.injEq, Value.slice.injEq, true_and] at he
          obtain ⟨rfl, rfl⟩ := he
          have hM6 := hM5.step hB
          have hg5 := hM5.q.lt
          clear hM5 hB k1 k2 k3 k4 k6 hcm
          go_wp2_with fail
          refine (trim_at false (some ⟨w5.heap.size, 0, none⟩) rn c6 z6 _ d1 d2 d3 d5 (by have := hM6.rle; omega)).mono ?_
          rintro e w7 ⟨⟨s7, o7, n7, c7, z7, rfl, t1, t2, t3, t4, t5, t6, t7, hB⟩, s8, o8, n8, c8, he, ho⟩
          simp only [Ending.returned.injEq, Value.agg.injEq, Array.mk.injEq, List.cons.injEq, Value.bool.injEq, Value.slice.injEq, and_true] at he
          obtain ⟨rfl, rfl, rfl, rfl⟩ := he
          have hM7 := hM6.step hB
          have hjl : j / 32 < qs.length := by rw [hI.len]; omega
          obtain ⟨R1, oq⟩ := dv_take hI hjl (by omega)
          have ev : val z7 = val rs - 2 ^ j * val ys := by rw [t5, d4, e2]
          rw [← ev] at R1
          have cq := hM7.q.c (j / 32) (v := .int .u32 qs[j / 32]) (by simp [hjl])
          have fq := hM7.q.f (j / 32) (v := .int .u32 qs[j / 32]) (by simp [hjl])
          have hNe : ∀ b off, o7 = some ⟨b, off, none⟩ → z7 ≠ [] → b ≠ w2.heap.size := by
            rintro b off e _
            rcases ho with ho | ho
            · rw [ho] at e; cases e; omega
            · rw [ho] at e; cases e
          have R2 : DvM w2 (w7.setCell ⟨w2.heap.size, j / 32, none⟩ (.int .u32 (qs[j / 32] + 2 ^ (j % 32)))) w2.heap.size (qs.set (j / 32) (qs[j / 32] + 2 ^ (j % 32))) o7 n7 c7 z7 n := by
            refine ⟨hM7.below.setCell (Nat.le_refl _) _, ?_, t1, t2, by have := hM7.rle; omega, t4, t7.setNe hNe _, hNe⟩
            have := hM7.q.setI (j / 32) (by simpa using hjl) (.int .u32 (qs[j / 32] + 2 ^ (j % 32)))
            rwa [← List.map_set] at this
          clear hM6 hM7 t1 t2 t3 t4 t5 t6 t7 d1 d2 d3 d4 d5 hB ho hNe ev hI e2
          have e3 : (j : Int) / 32 = ((j / 32 : Nat) : Int) := by omega
          have e4 : (j : Int) % 32 = ((j % 32 : Nat) : Int) := by omega
          have e5 : ((j / 32 : Nat) : Int) < (K : Int) + 1 := by omega
          have fd := field_d (.bool s7) (.slice o7 n7 c7)
          have e6 : (2 : Int) ^ (j % 32) % 4294967296 = 2 ^ (j % 32) := by
            have h31 := ipow2_mono (show j % 32 ≤ 31 by omega)
            have hp := ipow_pos (j % 32)
            have : (2 : Int) ^ 31 = 2147483648 := by decide
            omega
          generalize hjq : j / 32 = jq at *
          generalize hjr : j % 32 = jr at *
          go_wp2
          go_roundw
          case rel =>
            exact ⟨j, o7, n7, c7, z7, _, by omega, rfl, rfl, R1, R2⟩
          case measure => simp [intOf]
      · obtain rfl : k = 0 := by omega
        obtain ⟨v1, v2⟩ := dv_end hI hY
        have hq := hM.q
        have rq : Rd wr (some ⟨w2.heap.size, 0, none⟩) qs := fun i hi => ⟨w2.heap.size, 0, rfl, hq.lt, by rw [Nat.zero_add]; exact hq.c i (by simp [hi])⟩
        have hlq := hI.len
        have hdq := hI.dig
        clear hI hq
        go_wp2_with fail
        refine (trim_at false (some ⟨w2.heap.size, 0, none⟩) (K + 1) (K + 1) qs _ hlq (Nat.le_refl _) hdq rq (by omega)).mono ?_
        rintro e w7 ⟨⟨s7, o7, n7, c7, z7, rfl, t1, t2, t3, t4, t5, t6, t7, hB⟩, _⟩
        have hM7 := hM.step hB
        have HBE : Below w.heap.size w w7 := HB2.trans (hM7.below.mono HB2.size)
        clear hM hB
        have fd := field_d (.bool s7) (.slice o7 n7 c7)
        clear t6
        go_wp2
        go_ret2
        exact ⟨o7, n7, c7, z7, ro, rn, rc, rs, rfl, ⟨t1, t2, by omega, t4, by rw [t5]; exact v1, t7⟩, ⟨hM7.rlen, hM7.rcap, hM7.rle, hM7.rnrm, v2, hM7.rrd⟩, HBE⟩
end Go.Proofs.Ytnnojeggjnddpaa

/- The walk of the model's greatest common divisor. -/
namespace Go.Proofs.Ytnnojeggjnddpaa
open Go.RowKit
/-- The digits that lie behind a slice. -/
def digsOf (w : World) : Value → List Int
  | .slice (some a) n _ => (List.range n).map fun i => match w.cell? ⟨a.block, a.off + i, none⟩ with | some v => intOf v | none => 0
  | _ => []
theorem digs_of {w : World} {ao : Option Addr} {n cap : Nat} {ds : List Int} (h : Rd w ao ds) (hl : ds.length = n) : digsOf w (.slice ao n cap) = ds := by
  by_cases h0 : n = 0
  · subst h0
    have : ds = [] := List.eq_nil_of_length_eq_zero hl
    subst this
    cases ao <;> simp [digsOf]
  · obtain ⟨b, off, rfl, _, _⟩ := h 0 (by omega)
    simp only [digsOf]
    apply List.ext_getElem
    · simp [hl]
    · intro i h1 h2
      obtain ⟨b', off', e, _, hc⟩ := h i h2
      cases e
      simp [hc, intOf]
structure GdI (W wr : World) (xo : Option Addr) (xn xc : Nat) (xs : List Int) (yo : Option Addr) (yn yc : Nat) (ys : List Int) (k G : Nat) : Prop where
  below : Below W.heap.size W wr
  xlen : xs.length = xn
  xcap : xn ≤ xc
  xle : xn ≤ k
  xnrm : Nrm xs
  xrd : Rd wr xo xs
  ylen : ys.length = yn
  ycap : yn ≤ yc
  yle : yn ≤ k
  ynrm : Nrm ys
  yrd : Rd wr yo ys
  gcd : Int.gcd (val xs) (val ys) = G
theorem gcd_step {x y : Int} (hx : 0 ≤ x) (hy : 0 < y) : Int.gcd y (x % y) = Int.gcd x y := by
  obtain ⟨a, rfl⟩ := Int.eq_ofNat_of_zero_le hx
  obtain ⟨b, rfl⟩ := Int.eq_ofNat_of_zero_le (show 0 ≤ y by omega)
  rw [show ((a : Int) % (b : Int)) = ((a % b : Nat) : Int) from (Int.natCast_emod a b).symm, Int.gcd_natCast_natCast, Int.gcd_natCast_natCast, Nat.gcd_comm a b, Nat.gcd_rec b a, Nat.gcd_comm]
set_option maxRecDepth 100000 in
set_option maxHeartbeats 2000000 in
theorem gcd_any (s t : Bool) (ao bo : Option Addr) (n m ca cb k : Nat) (xs ys : List Int) (x y : Int) (w : World) (hx : IsNum w s ao n ca xs x k) (hy : IsNum w t bo m cb ys y k) (hk : k ≤ 9000) :
    Calls Try.prog 92 #[.agg #[.bool s, .slice ao n ca], .agg #[.bool t, .slice bo m cb]] w (NumP k (Int.gcd x y : Int) w) := by
  have T0 := two_start w (.bool s) (.slice ao n ca) (.bool t) (.slice bo m cb)
  have HX := hx.below T0.below
  have HY := hy.below T0.below
  have G0 : Int.gcd (val xs) (val ys) = Int.gcd x y := by rw [hx.val, hy.val]; simp [Int.gcd]
  clear hx hy
  go_enter Try.func92, Try.ntmps92
  go_upto_region 1 with fail
  generalize ((w.alloc (Obj.cells #[Value.bool s, Value.slice ao n ca] 66)).alloc (Obj.cells #[Value.bool t, Value.slice bo m cb] 66)).alloc (Obj.cells #[Value.bool false, Value.slice none 0 0] 66) = W at *
  have q1 := T0.a1; have q3 := T0.b1
  have I0 : GdI W W ao n ca xs bo m cb ys k (Int.gcd x y) := ⟨Below.refl _ _, HX.len, HX.cap, HX.le, HX.nrm, HX.rd, HY.len, HY.cap, HY.le, HY.nrm, HY.rd, G0⟩
  clear HX HY G0
  have hsz := T0.sz
  go_wp2
  go_loopw [5, 6] (fun u v wr => ∃ (xo : Option Addr) (xn xc : Nat) (xs : List Int) (yo : Option Addr) (yn yc : Nat) (ys : List Int), u = .slice xo xn xc ∧ v = .slice yo yn yc ∧ GdI W wr xo xn xc xs yo yn yc ys k (Int.gcd x y)) (fun _ v wr => (val (digsOf wr v)).toNat)
  case atStart => exact ⟨ao, n, ca, xs, bo, m, cb, ys, rfl, rfl, I0⟩
  case round =>
    clear I0
    obtain ⟨xo, xn, xc, xs, yo, yn, yc, ys, rfl, rfl, I0⟩ := hrel
    by_cases hy0 : 0 < yn
    · have i1 : (0 : Int) < (yn : Int) := by omega
      have hyp := nrm_pos I0.ynrm (by intro e; have := I0.ylen; rw [e] at this; simp at this; omega)
      have hd := digs_of (cap := yc) I0.yrd I0.ylen
      go_wp2_with fail
      refine (divAbs_any xo yo xn yn xc yc xs ys _ I0.xlen I0.ylen I0.xnrm I0.ynrm I0.xrd I0.yrd I0.xcap (by have := I0.xle; omega) (by have := I0.yle; omega) (by omega)).mono ?_
      rintro e w4 ⟨qo, qn, qc, qs, ro, rn, rc, rs, rfl, -, ⟨r1, r2, r3, r4, r5, r6⟩, hB⟩
      have I1 : GdI W w4 yo yn yc ys ro rn rc rs k (Int.gcd x y) := ⟨I0.below.trans (hB.mono I0.below.size), I0.ylen, I0.ycap, I0.yle, I0.ynrm, I0.yrd.below hB (Nat.le_refl _), r1, r2, by have := I0.xle; omega, r4, r6, by rw [r5, gcd_step (val_nonneg I0.xnrm.1) (by omega)]; exact I0.gcd⟩
      have hlt : (val rs).toNat < (val ys).toNat := by
        have h1 := Int.emod_lt_of_pos (val xs) (show 0 < val ys by omega)
        have h2 := Int.emod_nonneg (val xs) (show val ys ≠ 0 by omega)
        rw [r5]
        omega
      have hd2 := digs_of (cap := rc) r6 r1
      clear I0 hB r1 r2 r3 r4 r5 r6
      go_wp2
      go_roundw
      case rel => exact ⟨yo, yn, yc, ys, ro, rn, rc, rs, rfl, rfl, I1⟩
      case measure => rw [hd, hd2]; exact hlt
    · obtain rfl : yn = 0 := by omega
      have hys : ys = [] := List.eq_nil_of_length_eq_zero I0.ylen
      have hG : val xs = ((Int.gcd x y : Int).natAbs : Int) := by
        rw [← I0.gcd, hys]
        have := val_nonneg I0.xnrm.1
        simp [val, Int.gcd]
        omega
      have T1 := T0.step I0.below
      have hxk := I0.xle
      clear q1 q3
      go_wp2_with fail
      refine (trim_any false xo xn xc xs _ I0.xlen I0.xcap I0.xnrm.1 I0.xrd (by omega)).mono ?_
      rintro e w3 ⟨neg', ao', n', cap', ds', rfl, k1, k2, k3, k4, k5, k6, k7, k8⟩
      have T2 := T1.step k8
      have HN := num_of (z := (Int.gcd x y : Int)) (k := k) k1 k2 (by omega) k4 (k5.trans hG) (k6.trans (by rw [hG])) k7 rfl (by intro _; simp)
      have c0 := T2.r0; have c1 := T2.r1; have f0 := T2.f0; have f1 := T2.f1
      have HB := T2.below
      clear k1 k2 k3 k4 k5 k6 k7 k8 T1 T2 I0
      go_wp2
      refine bodyPost_ret (v := .agg #[.bool neg', .slice ao' n' cap']) (by simp [results, Try.results92, go_sem, c0, c1]) rfl ?_
      exact num_ret (by omega) c0 c1 HN HB
end Go.Proofs.Ytnnojeggjnddpaa

/- The walk of the model's common divisor of two numbers of four words. -/
namespace Go.Proofs.Ytnnojeggjnddpaa
open Go.RowKit
end Go.Proofs.Ytnnojeggjnddpaa

/- Fractions: whether one is right. -/
namespace Go.Proofs.Ytnnojeggjnddpaa
open Go.RowKit
abbrev Rt (a3 a2 a1 a0 b3 b2 b1 b0 : Int) : Value := .agg #[.int .u64 a3, .int .u64 a2, .int .u64 a1, .int .u64 a0, .int .u64 b3, .int .u64 b2, .int .u64 b1, .int .u64 b0]
/-- Whether up / down is right. -/
def rightB (x y : Int) : Bool := decide (0 < y ∧ Int.gcd x y = 1)
set_option maxRecDepth 100000 in
set_option maxHeartbeats 2000000 in
theorem eqOne (c3 c2 c1 c0 : Int) (w : World) : (Op.equalIn 10000 26 (.agg #[.int .u64 c3, .int .u64 c2, .int .u64 c1, .int .u64 c0]) (.agg #[.int .u64 0, .int .u64 0, .int .u64 0, .int .u64 1])).run Try.prog w = .ok (c3 == 0 && c2 == 0 && c1 == 0 && c0 == 1) w := by
  have u3 := Try.underlying22
  have a3 := Try.isAgg22
  have z3 := Try.sizeOf22
  rw [show (10000 : Nat) = 9999 + 1 from rfl, Op.equalIn]
  simp only [Sem.run_bind, run_underlying Try.underlying26, Result.andThen_ok]
  go_simp
  by_cases hc3 : c3 = 0
  · subst hc3
    by_cases hc2 : c2 = 0
    · subst hc2
      by_cases hc1 : c1 = 0
      · subst hc1
        by_cases hc0 : c0 = 1
        · subst hc0
          simp
        · simp [hc0]
      · simp [hc1]
    · simp [hc2]
  · simp [hc3]
theorem one_words {c3 c2 c1 c0 : Int} (h3 : Word c3) (h2 : Word c2) (h1 : Word c1) (h0 : Word c0) {z : Int} (hz : sw c3 c2 c1 c0 = z) : (c3 == 0 && c2 == 0 && c1 == 0 && c0 == 1) = decide (z = 1) := by
  rw [Bool.eq_iff_iff]
  simp only [Bool.and_eq_true, beq_iff_eq, decide_eq_true_eq]
  constructor
  · rintro ⟨⟨⟨rfl, rfl⟩, rfl⟩, rfl⟩
    rw [← hz]; decide
  · intro h
    have e : sw 0 0 0 1 = 1 := by decide
    obtain ⟨e3, e2, e1, e0⟩ := sw_inj h3 h2 h1 h0 ⟨by decide, by decide⟩ ⟨by decide, by decide⟩ ⟨by decide, by decide⟩ ⟨by decide, by decide⟩ (hz.trans (h.trans e.symm))
    exact ⟨⟨⟨e3, e2⟩, e1⟩, e0⟩
theorem sw_one {c3 c2 c1 c0 : Int} (h3 : Word c3) (h2 : Word c2) (h1 : Word c1) (h0 : Word c0) (hz : sw c3 c2 c1 c0 = 1) : c3 = 0 ∧ c2 = 0 ∧ c1 = 0 ∧ c0 = 1 := by
  have e : sw 0 0 0 1 = 1 := by decide
  exact sw_inj h3 h2 h1 h0 ⟨by decide, by decide⟩ ⟨by decide, by decide⟩ ⟨by decide, by decide⟩ ⟨by decide, by decide⟩ (hz.trans e.symm)
theorem rt_cells {b3 b2 b1 b0 c3 c2 c1 c0 a3 a2 a1 a0 : Int} {w W : World} {gc : Nat} (X : Blk W w.heap.size [.int .u64 a3, .int .u64 a2, .int .u64 a1, .int .u64 a0, .int .u64 b3, .int .u64 b2, .int .u64 b1, .int .u64 b0]) (Y : Blk W gc [.int .u64 c3, .int .u64 c2, .int .u64 c1, .int .u64 c0]) : (fun w' => w'.cell? ⟨w.heap.size, 4, none⟩ = some (.int .u64 b3) ∧ w'.cell? ⟨w.heap.size, 5, none⟩ = some (.int .u64 b2) ∧ w'.cell? ⟨w.heap.size, 6, none⟩ = some (.int .u64 b1) ∧ w'.cell? ⟨w.heap.size, 7, none⟩ = some (.int .u64 b0) ∧ w'.cell? ⟨gc, 0, none⟩ = some (.int .u64 c3) ∧ w'.cell? ⟨gc, 1, none⟩ = some (.int .u64 c2) ∧ w'.cell? ⟨gc, 2, none⟩ = some (.int .u64 c1) ∧ w'.cell? ⟨gc, 3, none⟩ = some (.int .u64 c0)) W :=
  ⟨X.c 4 rfl, X.c 5 rfl, X.c 6 rfl, X.c 7 rfl, Y.c 0 rfl, Y.c 1 rfl, Y.c 2 rfl, Y.c 3 rfl⟩
set_option maxRecDepth 100000 in
set_option maxHeartbeats 2000000 in
theorem right_any (a3 a2 a1 a0 b3 b2 b1 b0 : Int) (h3 : Word a3) (h2 : Word a2) (h1 : Word a1) (h0 : Word a0) (k3 : Word b3) (k2 : Word b2) (k1 : Word b1) (k0 : Word b0) (w : World) : Calls Try.prog 58 #[Rt a3 a2 a1 a0 b3 b2 b1 b0] w (BoolP (rightB (sw a3 a2 a1 a0) (sw b3 b2 b1 b0)) w) := by
  have X0 := Blk.new w [.int .u64 a3, .int .u64 a2, .int .u64 a1, .int .u64 a0, .int .u64 b3, .int .u64 b2, .int .u64 b1, .int .u64 b0] 37 rfl
  have HB := (Below.refl _ w).alloc (Nat.le_refl _) (.cells #[.int .u64 a3, .int .u64 a2, .int .u64 a1, .int .u64 a0, .int .u64 b3, .int .u64 b2, .int .u64 b1, .int .u64 b0] 37)
  go_enter Try.func58, Try.ntmps58
  go_wp2_with fail
  refine (implGcd_any a3 a2 a1 a0 b3 b2 b1 b0 h3 h2 h1 h0 k3 k2 k1 k0 _).mono ?_
  rintro e w1 ⟨hB, ⟨ht, c3, c2, c1, c0, rfl, g3, g2, g1, g0, gv⟩ | ⟨ht, rfl⟩⟩
  · replace X0 := X0.step hB
    replace HB := HB.trans (hB.mono HB.size)
    have xlt := X0.lt
    go_upto_region 2 with fail
    have Y0 := Blk.new w1 [.int .u64 c3, .int .u64 c2, .int .u64 c1, .int .u64 c0] 26 rfl
    replace X0 := X0.alloc (.cells #[.int .u64 c3, .int .u64 c2, .int .u64 c1, .int .u64 c0] 26)
    replace HB := HB.alloc HB.size (.cells #[.int .u64 c3, .int .u64 c2, .int .u64 c1, .int .u64 c0] 26)
    rw [show ([.int .u64 c3, .int .u64 c2, .int .u64 c1, .int .u64 c0] : List Value).toArray = #[.int .u64 c3, .int .u64 c2, .int .u64 c1, .int .u64 c0] from rfl] at Y0
    generalize w1.alloc (.cells #[.int .u64 c3, .int .u64 c2, .int .u64 c1, .int .u64 c0] 26) = W at *
    generalize w1.heap.size = gc at *
    have EO := eqOne c3 c2 c1 c0
    rw [one_words g3 g2 g1 g0 gv] at EO
    obtain ⟨G, hG⟩ : ∃ G, decide (((Int.gcd (sw a3 a2 a1 a0) (sw b3 b2 b1 b0) : Nat) : Int) = 1) = G := ⟨_, rfl⟩
    simp only [hG] at EO
    have HG : Hid (G = decide (Int.gcd (sw a3 a2 a1 a0) (sw b3 b2 b1 b0) = 1)) := by
      show _ = _
      rw [← hG, Bool.eq_iff_iff]
      simp only [decide_eq_true_eq]
      omega
    have SG := implSign_any b3 b2 b1 b0 k3 k2 k1 k0
    have OF := fun W => implOf_any 1 W (by decide) (by decide)
    clear hB ht gv hG
    by_cases hs : 0 < sw b3 b2 b1 b0
    · rw [cmpI_gt hs] at SG
      have HR : Hid (rightB (sw a3 a2 a1 a0) (sw b3 b2 b1 b0) = G) := by
        show _ = _
        rw [HG.out]
        unfold rightB
        simp [hs]
      clear HG
      go_region_held3 (fun w' => w'.cell? ⟨w.heap.size, 4, none⟩ = some (.int .u64 b3) ∧ w'.cell? ⟨w.heap.size, 5, none⟩ = some (.int .u64 b2) ∧ w'.cell? ⟨w.heap.size, 6, none⟩ = some (.int .u64 b1) ∧ w'.cell? ⟨w.heap.size, 7, none⟩ = some (.int .u64 b0) ∧ w'.cell? ⟨gc, 0, none⟩ = some (.int .u64 c3) ∧ w'.cell? ⟨gc, 1, none⟩ = some (.int .u64 c2) ∧ w'.cell? ⟨gc, 2, none⟩ = some (.int .u64 c1) ∧ w'.cell? ⟨gc, 3, none⟩ = some (.int .u64 c0)) (first | (with_reducible exact rt_cells X0 Y0) | (with_reducible exact rt_cells X0.drew Y0.drew))
        (first
          | (go_at_call 34; refine (SG _).mono ?_; rintro e w2 ⟨rfl, hB⟩; (first | (replace X0 := X0.step hB; replace Y0 := Y0.step hB; replace HB := HB.trans (hB.mono HB.size)) | (replace X0 := X0.drew.step hB; replace Y0 := Y0.drew.step hB; replace HB := HB.drew.trans (hB.mono HB.size))); clear hB)
          | (go_at_call 95; refine (OF _).mono ?_; rintro e w3 ⟨o3, o2, o1, o0, rfl, p3, p2, p1, p0, po, hB⟩; obtain ⟨rfl, rfl, rfl, rfl⟩ := sw_one p3 p2 p1 p0 po; (first | (replace X0 := X0.step hB; replace Y0 := Y0.step hB; replace HB := HB.trans (hB.mono HB.size)) | (replace X0 := X0.drew.step hB; replace Y0 := Y0.drew.step hB; replace HB := HB.drew.trans (hB.mono HB.size))); clear hB))
      all_goals go_wp2
      all_goals go_ret
      all_goals exact ⟨by simp [HR.out], by first | exact HB | exact HB.drew⟩
    · have HR : Hid (rightB (sw a3 a2 a1 a0) (sw b3 b2 b1 b0) = false) := by
        show _ = _
        unfold rightB
        simp [hs]
      have hcs : cmpI (sw b3 b2 b1 b0) 0 = -1 ∨ cmpI (sw b3 b2 b1 b0) 0 = 0 := by
        rcases Int.lt_trichotomy (sw b3 b2 b1 b0) 0 with h | h | h
        · exact Or.inl (cmpI_lt h)
        · exact Or.inr (cmpI_eq h)
        · exact absurd h hs
      clear HG
      have hm1 : ((-1 : Int) == 1) = false := by decide
      have hm0 : ((0 : Int) == 1) = false := by decide
      rcases hcs with hc | hc
      · rw [hc] at SG
        clear hc
        have q4 := X0.c 4 rfl; have q5 := X0.c 5 rfl; have q6 := X0.c 6 rfl; have q7 := X0.c 7 rfl
        go_region_with ((go_at_call 34; refine (SG _).mono ?_; rintro e w2 ⟨rfl, hB⟩; (first | (replace HB := HB.trans (hB.mono HB.size)) | (replace HB := HB.drew.trans (hB.mono HB.size))); clear hB))
        all_goals go_wp2
        all_goals go_ret
        all_goals exact ⟨by rw [HR.out]; rfl, by first | exact HB | exact HB.drew⟩
      · rw [hc] at SG
        clear hc
        have q4 := X0.c 4 rfl; have q5 := X0.c 5 rfl; have q6 := X0.c 6 rfl; have q7 := X0.c 7 rfl
        go_region_with ((go_at_call 34; refine (SG _).mono ?_; rintro e w2 ⟨rfl, hB⟩; (first | (replace HB := HB.trans (hB.mono HB.size)) | (replace HB := HB.drew.trans (hB.mono HB.size))); clear hB))
        all_goals go_wp2
        all_goals go_ret
        all_goals exact ⟨by rw [HR.out]; rfl, by first | exact HB | exact HB.drew⟩
  · replace HB := HB.trans (hB.mono HB.size)
    have HR : Hid (rightB (sw a3 a2 a1 a0) (sw b3 b2 b1 b0) = false) := by
      show _ = _
      unfold rightB
      apply decide_eq_false
      rintro ⟨_, h⟩
      rw [h] at ht
      revert ht
      decide
    clear hB ht X0
    go_upto_region 2 with fail
    replace HB := HB.alloc HB.size (.cells #[.int .u64 0, .int .u64 0, .int .u64 0, .int .u64 0] 26)
    generalize w1.alloc (.cells #[.int .u64 0, .int .u64 0, .int .u64 0, .int .u64 0] 26) = W at *
    go_quiet (fail)
    go_wp2
    go_ret
    exact ⟨by simp [HR.out], bdrew HB _⟩
set_option maxRecDepth 100000 in
set_option maxHeartbeats 400000 in
theorem implRatioOk_any (a3 a2 a1 a0 b3 b2 b1 b0 : Int) (h3 : Word a3) (h2 : Word a2) (h1 : Word a1) (h0 : Word a0) (k3 : Word b3) (k2 : Word b2) (k1 : Word b1) (k0 : Word b0) (w : World) : Calls Try.prog 37 #[Rt a3 a2 a1 a0 b3 b2 b1 b0] w (BoolP (rightB (sw a3 a2 a1 a0) (sw b3 b2 b1 b0)) w) := by
  have HB := (Below.refl _ w).alloc (Nat.le_refl _) (.cells #[.int .u64 a3, .int .u64 a2, .int .u64 a1, .int .u64 a0, .int .u64 b3, .int .u64 b2, .int .u64 b1, .int .u64 b0] 37)
  go_enter Try.func37, Try.ntmps37
  go_wp2_with fail
  refine (right_any a3 a2 a1 a0 b3 b2 b1 b0 h3 h2 h1 h0 k3 k2 k1 k0 _).mono ?_
  rintro e w1 ⟨rfl, hB⟩
  replace HB := HB.trans (hB.mono HB.size)
  go_wp2
  go_ret
  exact ⟨rfl, HB⟩
/-- Two numbers as they lie in memory, side by side. -/
def TwoNP (x y : Int) (w : World) (e : Ending) (w' : World) : Prop :=
  ∃ (s : Bool) (ao : Option Addr) (n cap : Nat) (ds : List Int) (t : Bool) (bo : Option Addr) (m c : Nat) (es : List Int), e = .returned (.agg #[.bool s, .slice ao n cap, .bool t, .slice bo m c]) ∧ IsNum w' s ao n cap ds x 8 ∧ IsNum w' t bo m c es y 8 ∧ Below w.heap.size w w'
theorem IsNum.set {w : World} {s : Bool} {ao : Option Addr} {n cap : Nat} {ds : List Int} {z : Int} {k : Nat} (h : IsNum w s ao n cap ds z k) {p : Addr} {v : Value} (h0 : w.cell? p = some v) (hv : ∀ i, v ≠ .int .u32 i) (u : Value) : IsNum (w.setCell p u) s ao n cap ds z k :=
  ⟨h.neg, h.len, h.cap, h.rd.set u h0 hv, h.nrm, h.val, h.le⟩
theorem twoN_ret {w w3 : World} {x y : Int} {s : Bool} {ao : Option Addr} {n cap : Nat} {ds : List Int} {t : Bool} {bo : Option Addr} {m c : Nat} {es : List Int} {R : Nat} (hR : w.heap.size ≤ R) (G : Blk w3 R [.bool false, .slice none 0 0, .bool false, .slice none 0 0]) (h : IsNum w3 s ao n cap ds x 8) (h' : IsNum w3 t bo m c es y 8) (hb : Below w.heap.size w w3) :
    TwoNP x y w (.returned (.agg #[.bool s, .slice ao n cap, .bool t, .slice bo m c])) ((((w3.setCell ⟨R, 0, none⟩ (.bool s)).setCell ⟨R, 1, none⟩ (.slice ao n cap)).setCell ⟨R, 2, none⟩ (.bool t)).setCell ⟨R, 3, none⟩ (.slice bo m c)) := by
  have G1 := G.setI 0 (by simp) (.bool s)
  have G2 := G1.setI 1 (by simp) (.slice ao n cap)
  have G3 := G2.setI 2 (by simp) (.bool t)
  refine ⟨s, ao, n, cap, ds, t, bo, m, c, es, rfl, ?_, ?_, (((hb.setCell hR _).setCell hR _).setCell hR _).setCell hR _⟩
  · exact (((h.set (G.c 0 rfl) (by simp) _).set (G1.c 1 rfl) (by simp) _).set (G2.c 2 rfl) (by simp) _).set (G3.c 3 rfl) (by simp) _
  · exact (((h'.set (G.c 0 rfl) (by simp) _).set (G1.c 1 rfl) (by simp) _).set (G2.c 2 rfl) (by simp) _).set (G3.c 3 rfl) (by simp) _
theorem TwoNP.drew {x y : Int} {w w' : World} {e : Ending} (h : TwoNP x y w e w') : TwoNP x y w e w'.drew := by
  obtain ⟨s, ao, n, cap, ds, t, bo, m, c, es, he, N1, N2, hB⟩ := h
  exact ⟨s, ao, n, cap, ds, t, bo, m, c, es, he, ⟨N1.neg, N1.len, N1.cap, N1.rd, N1.nrm, N1.val, N1.le⟩, ⟨N2.neg, N2.len, N2.cap, N2.rd, N2.nrm, N2.val, N2.le⟩, hB.drew⟩
theorem l2_cells {a3 a2 a1 a0 b3 b2 b1 b0 : Int} {w W : World} (X : Blk W w.heap.size [.int .u64 a3, .int .u64 a2, .int .u64 a1, .int .u64 a0, .int .u64 b3, .int .u64 b2, .int .u64 b1, .int .u64 b0]) : (fun w' => w'.cell? ⟨w.heap.size, 0, none⟩ = some (.int .u64 a3) ∧ w'.cell? ⟨w.heap.size, 1, none⟩ = some (.int .u64 a2) ∧ w'.cell? ⟨w.heap.size, 2, none⟩ = some (.int .u64 a1) ∧ w'.cell? ⟨w.heap.size, 3, none⟩ = some (.int .u64 a0) ∧ w'.cell? ⟨w.heap.size, 4, none⟩ = some (.int .u64 b3) ∧ w'.cell? ⟨w.heap.size, 5, none⟩ = some (.int .u64 b2) ∧ w'.cell? ⟨w.heap.size, 6, none⟩ = some (.int .u64 b1) ∧ w'.cell? ⟨w.heap.size, 7, none⟩ = some (.int .u64 b0)) W :=
  ⟨X.c 0 rfl, X.c 1 rfl, X.c 2 rfl, X.c 3 rfl, X.c 4 rfl, X.c 5 rfl, X.c 6 rfl, X.c 7 rfl⟩
set_option maxRecDepth 100000 in
set_option maxHeartbeats 1000000 in
theorem l2Of_any (a3 a2 a1 a0 b3 b2 b1 b0 : Int) (h3 : Word a3) (h2 : Word a2) (h1 : Word a1) (h0 : Word a0) (k3 : Word b3) (k2 : Word b2) (k1 : Word b1) (k0 : Word b0) (w : World) : Calls Try.prog 55 #[Rt a3 a2 a1 a0 b3 b2 b1 b0] w (TwoNP (sw a3 a2 a1 a0) (sw b3 b2 b1 b0) w) := by
  have X0 := (Blk.new w [.int .u64 a3, .int .u64 a2, .int .u64 a1, .int .u64 a0, .int .u64 b3, .int .u64 b2, .int .u64 b1, .int .u64 b0] 37 rfl).alloc (.cells #[.bool false, .slice none 0 0, .bool false, .slice none 0 0] 86)
  have Y0 := Blk.new (w.alloc (.cells #[.int .u64 a3, .int .u64 a2, .int .u64 a1, .int .u64 a0, .int .u64 b3, .int .u64 b2, .int .u64 b1, .int .u64 b0] 37)) [.bool false, .slice none 0 0, .bool false, .slice none 0 0] 86 (g := w.heap.size + 1) (by simp)
  have HB := ((Below.refl _ w).alloc (Nat.le_refl _) (.cells #[.int .u64 a3, .int .u64 a2, .int .u64 a1, .int .u64 a0, .int .u64 b3, .int .u64 b2, .int .u64 b1, .int .u64 b0] 37)).alloc (by simp) (.cells #[.bool false, .slice none 0 0, .bool false, .slice none 0 0] 86)
  have tok1 : True := trivial
  rw [show ([.int .u64 a3, .int .u64 a2, .int .u64 a1, .int .u64 a0, .int .u64 b3, .int .u64 b2, .int .u64 b1, .int .u64 b0] : List Value).toArray = #[.int .u64 a3, .int .u64 a2, .int .u64 a1, .int .u64 a0, .int .u64 b3, .int .u64 b2, .int .u64 b1, .int .u64 b0] from rfl] at X0
  go_enter Try.func55, Try.ntmps55
  go_wp2_with fail
  generalize (w.alloc (.cells #[.int .u64 a3, .int .u64 a2, .int .u64 a1, .int .u64 a0, .int .u64 b3, .int .u64 b2, .int .u64 b1, .int .u64 b0] 37)).alloc (.cells #[.bool false, .slice none 0 0, .bool false, .slice none 0 0] 86) = W at *
  go_region_held3 (fun w' => w'.cell? ⟨w.heap.size, 0, none⟩ = some (.int .u64 a3) ∧ w'.cell? ⟨w.heap.size, 1, none⟩ = some (.int .u64 a2) ∧ w'.cell? ⟨w.heap.size, 2, none⟩ = some (.int .u64 a1) ∧ w'.cell? ⟨w.heap.size, 3, none⟩ = some (.int .u64 a0) ∧ w'.cell? ⟨w.heap.size, 4, none⟩ = some (.int .u64 b3) ∧ w'.cell? ⟨w.heap.size, 5, none⟩ = some (.int .u64 b2) ∧ w'.cell? ⟨w.heap.size, 6, none⟩ = some (.int .u64 b1) ∧ w'.cell? ⟨w.heap.size, 7, none⟩ = some (.int .u64 b0)) (first | (with_reducible exact l2_cells X0) | (with_reducible exact l2_cells X0.drew) | (refine l2_cells ?_; repeat (first | (with_reducible exact X0) | (with_reducible exact X0.drew) | (with_reducible refine Blk.setO ?_ (by show w.heap.size ≠ w.heap.size + 1; omega) _))))
    (first
      | (go_at_call 43; have _t := tok1; refine (from_any a3 a2 a1 a0 h3 h2 h1 h0 _).mono ?_; rintro e w1 ⟨s1, ao1, n1, c1, ds1, rfl, N1, hB⟩; (first | (replace X0 := X0.step hB; replace Y0 := Y0.step hB; replace HB := HB.trans (hB.mono HB.size)) | (replace X0 := X0.drew.step hB; replace Y0 := Y0.drew.step hB; replace HB := HB.drew.trans (hB.mono HB.size))); clear tok1 _t hB)
      | (go_at_call 43; refine (from_any b3 b2 b1 b0 k3 k2 k1 k0 _).mono ?_; rintro e w2 ⟨s2, ao2, n2, c2, ds2, rfl, N2, hB⟩; (first | (replace X0 := X0.step hB; replace Y0 := Y0.step hB; replace HB := HB.trans (hB.mono HB.size); replace N1 := N1.below hB) | (replace X0 := X0.drew.step hB; replace Y0 := Y0.drew.step hB; replace HB := HB.drew.trans (hB.mono HB.size); replace N1 := N1.drew.below hB)); have o0 := Y0.c 0 rfl; have p0 := Y0.f 0 rfl; have o1 := Y0.c 1 rfl; have p1 := Y0.f 1 rfl; have o2 := Y0.c 2 rfl; have p2 := Y0.f 2 rfl; have o3 := Y0.c 3 rfl; have p3 := Y0.f 3 rfl; have olt := Y0.lt; clear hB))
  all_goals have HF : Hid (TwoNP (sw a3 a2 a1 a0) (sw b3 b2 b1 b0) w (.returned (.agg #[.bool s1, .slice ao1 n1 c1, .bool s2, .slice ao2 n2 c2])) _) := twoN_ret (R := w.heap.size + 1) (by omega) Y0 N1 N2 HB
  all_goals clear X0 Y0 N1 N2 HB
  all_goals go_wp2
  all_goals refine bodyPost_ret (v := .agg #[.bool s1, .slice ao1 n1 c1, .bool s2, .slice ao2 n2 c2]) (by simp [results, Try.results55, go_sem, o0, o1, o2, o3]) rfl ?_
  all_goals first | exact HF.out | exact HF.out.drew
end Go.Proofs.Ytnnojeggjnddpaa

/- Fractions in their order: the program's walks. -/
namespace Go.Proofs.Ytnnojeggjnddpaa
open Go.RowKit
end Go.Proofs.Ytnnojeggjnddpaa

/- The words of a number, as its bits lie. -/
namespace Go.Proofs.Ytnnojeggjnddpaa
open Go.RowKit
/-- The words of a number, as its bits lie. -/
def ww0 (z : Int) : Int := z % 18446744073709551616
def ww1 (z : Int) : Int := z / 18446744073709551616 % 18446744073709551616
def ww2 (z : Int) : Int := z / 340282366920938463463374607431768211456 % 18446744073709551616
def ww3 (z : Int) : Int := z / 6277101735386680763835789423207666416102355444464034512896 % 18446744073709551616
theorem wd_of {a3 a2 a1 a0 z : Int} (h3 : Word a3) (h2 : Word a2) (h1 : Word a1) (h0 : Word a0) (h : sw a3 a2 a1 a0 = z) : a3 = ww3 z ∧ a2 = ww2 z ∧ a1 = ww1 z ∧ a0 = ww0 z := by
  unfold Word sw uw ww3 ww2 ww1 ww0 at *
  split at h <;> omega
abbrev W4 (z : Int) : Value := .agg #[.int .u64 (ww3 z), .int .u64 (ww2 z), .int .u64 (ww1 z), .int .u64 (ww0 z)]
def VP (v : Value) (w : World) (e : Ending) (w' : World) : Prop := e = .returned v ∧ Below w.heap.size w w'
end Go.Proofs.Ytnnojeggjnddpaa

/- The quotient and the rest of numbers with signs: the reckoning. -/
namespace Go.Proofs.Ytnnojeggjnddpaa
open Go.RowKit
theorem div_unique {x y q r : Int} (hy : y ≠ 0) (he : x = q * y + r) (h0 : 0 ≤ r) (h1 : r < (y.natAbs : Int)) : x / y = q ∧ x % y = r := by
  have hm : x % y = r := by
    rw [he, Int.add_comm, Int.add_mul_emod_self_right]
    rcases Int.lt_or_gt_of_ne hy with h | h
    · rw [← Int.emod_neg]
      exact Int.emod_eq_of_lt h0 (by omega)
    · exact Int.emod_eq_of_lt h0 (by omega)
  refine ⟨?_, hm⟩
  have e := Int.emod_add_mul_ediv x y
  rw [hm] at e
  have e2 : y * (x / y) = y * q := by rw [Int.mul_comm y q]; omega
  exact Int.eq_of_mul_eq_mul_left hy e2
/-- By the sizes without signs. -/
theorem div_parts (x y : Int) (hy : y ≠ 0) : ∃ Q R : Int, (x.natAbs : Int) / (y.natAbs : Int) = Q ∧ (x.natAbs : Int) % (y.natAbs : Int) = R ∧ 0 ≤ Q ∧ 0 ≤ R ∧ R < (y.natAbs : Int) ∧ (x.natAbs : Int) = Q * (y.natAbs : Int) + R := by
  have hp : (0 : Int) < (y.natAbs : Int) := by omega
  refine ⟨_, _, rfl, rfl, Int.ediv_nonneg (by omega) (by omega), Int.emod_nonneg _ (by omega), Int.emod_lt_of_pos _ hp, ?_⟩
  have := Int.emod_add_mul_ediv (x.natAbs : Int) (y.natAbs : Int)
  rw [Int.mul_comm] at this
  omega
theorem div_signs {x y Q R : Int} (hy : y ≠ 0) (h0 : 0 ≤ R) (h1 : R < (y.natAbs : Int)) (he : (x.natAbs : Int) = Q * (y.natAbs : Int) + R) :
    (0 ≤ x → 0 < y → x / y = Q ∧ x % y = R) ∧ (0 ≤ x → y < 0 → x / y = -Q ∧ x % y = R) ∧ (x < 0 → R = 0 → 0 < y → x / y = -Q ∧ x % y = 0) ∧ (x < 0 → R = 0 → y < 0 → x / y = Q ∧ x % y = 0) ∧
    (x < 0 → 0 < R → 0 < y → x / y = -Q - 1 ∧ x % y = -R + y) ∧ (x < 0 → 0 < R → y < 0 → x / y = Q + 1 ∧ x % y = -R - y) := by
  refine ⟨?_, ?_, ?_, ?_, ?_, ?_⟩
  · intro hx hp
    rw [show (x.natAbs : Int) = x by omega, show (y.natAbs : Int) = y by omega] at he
    exact div_unique hy he h0 h1
  · intro hx hp
    rw [show (x.natAbs : Int) = x by omega, show (y.natAbs : Int) = -y by omega] at he
    exact div_unique hy (by rw [he, Int.neg_mul, Int.mul_neg]) h0 h1
  · intro hx hR hp
    rw [show (x.natAbs : Int) = -x by omega, show (y.natAbs : Int) = y by omega] at he
    exact div_unique hy (by rw [Int.neg_mul]; omega) (by omega) (by omega)
  · intro hx hR hp
    rw [show (x.natAbs : Int) = -x by omega, show (y.natAbs : Int) = -y by omega, Int.mul_neg] at he
    exact div_unique hy (by omega) (by omega) (by omega)
  · intro hx hR hp
    rw [show (x.natAbs : Int) = -x by omega, show (y.natAbs : Int) = y by omega] at he
    exact div_unique hy (by rw [Int.sub_mul, Int.neg_mul]; omega) (by omega) (by omega)
  · intro hx hR hp
    rw [show (x.natAbs : Int) = -x by omega, show (y.natAbs : Int) = -y by omega, Int.mul_neg] at he
    exact div_unique hy (by rw [Int.add_mul]; omega) (by omega) (by omega)
end Go.Proofs.Ytnnojeggjnddpaa

/- Quotients with their signs: the reckoning, and the walks of the pieces. -/
namespace Go.Proofs.Ytnnojeggjnddpaa
open Go.RowKit
/-- The number with its sign turned where b holds. -/
theorem signedL_any (x0 x1 x2 x3 x4 x5 x6 x7 : Int) (b : Bool) (wx : Words [x0, x1, x2, x3, x4, x5, x6, x7]) (hv : val64 [x0, x1, x2, x3, x4, x5, x6, x7] < 6703903964971298549787012499102923063739682910296196688861780721860882015036773488400937149083451713845015929093243025426876941405973284973216824503042048) (w : World) : Calls Try.prog 53 #[L8 x0 x1 x2 x3 x4 x5 x6 x7, .bool b] w (TimesP (if b then -val64 [x0, x1, x2, x3, x4, x5, x6, x7] else val64 [x0, x1, x2, x3, x4, x5, x6, x7]) w) := by
  refine (signed_any x0 x1 x2 x3 x4 x5 x6 x7 b wx w).mono ?_
  rintro e w1 ⟨z0, z1, z2, z3, z4, z5, z6, z7, rfl, wz, ⟨c, c0, c1, hz⟩, hB⟩
  refine ⟨z0, z1, z2, z3, z4, z5, z6, z7, rfl, wz, ?_, hB⟩
  obtain ⟨t1, t2, t3⟩ := sl_top wz
  have v0 := val64_nonneg wx
  unfold sl
  generalize val64 [z0, z1, z2, z3, z4, z5, z6, z7] = Z at *
  generalize val64 [x0, x1, x2, x3, x4, x5, x6, x7] = X at *
  simp only [t1]
  clear t1
  cases b
  · simp only [Bool.false_eq_true, if_false] at hz ⊢
    rw [if_pos (by omega)]
    omega
  · simp only [if_true] at hz ⊢
    obtain rfl | rfl : c = 0 ∨ c = 1 := by omega
    · rw [if_pos (by omega)]; omega
    · rw [if_neg (by omega)]; omega
/-- What is told, its words known ahead. -/
def tellV (z : Int) : Value := if told z then .tuple #[W4 z, .bool true] else .tuple #[W4 0, .bool false]
theorem tellWide_det (x0 x1 x2 x3 x4 x5 x6 x7 : Int) (wx : Words [x0, x1, x2, x3, x4, x5, x6, x7]) (z : Int) (hz : sl x0 x1 x2 x3 x4 x5 x6 x7 = z) (w : World) : Calls Try.prog 52 #[L8 x0 x1 x2 x3 x4 x5 x6 x7] w (VP (tellV z) w) := by
  refine (tellWide_any x0 x1 x2 x3 x4 x5 x6 x7 wx w).mono ?_
  rw [hz]
  rintro e w' ⟨hB, ⟨ht, a3, a2, a1, a0, rfl, g3, g2, g1, g0, hs⟩ | ⟨ht, rfl⟩⟩
  · obtain ⟨rfl, rfl, rfl, rfl⟩ := wd_of g3 g2 g1 g0 hs
    exact ⟨by unfold tellV; rw [ht]; rfl, hB⟩
  · exact ⟨by unfold tellV; rw [ht]; rfl, hB⟩
set_option maxRecDepth 100000 in
set_option maxHeartbeats 2000000 in
theorem eqZ4 (b3 b2 b1 b0 : Int) (w : World) : (Op.equalIn 10000 26 (.agg #[.int .u64 b3, .int .u64 b2, .int .u64 b1, .int .u64 b0]) (.agg #[.int .u64 0, .int .u64 0, .int .u64 0, .int .u64 0])).run Try.prog w = .ok (b3 == 0 && b2 == 0 && b1 == 0 && b0 == 0) w := by
  have u3 := Try.underlying22
  have a3 := Try.isAgg22
  have z3 := Try.sizeOf22
  rw [show (10000 : Nat) = 9999 + 1 from rfl, Op.equalIn]
  simp only [Sem.run_bind, run_underlying Try.underlying26, Result.andThen_ok]
  go_simp
  by_cases hb3 : b3 = 0
  · subst hb3
    by_cases hb2 : b2 = 0
    · subst hb2
      by_cases hb1 : b1 = 0
      · subst hb1
        by_cases hb0 : b0 = 0
        · subst hb0
          simp
        · simp [hb0]
      · simp [hb1]
    · simp [hb2]
  · simp [hb3]
theorem zero4 {b3 b2 b1 b0 : Int} (h3 : Word b3) (h2 : Word b2) (h1 : Word b1) (h0 : Word b0) : (b3 == 0 && b2 == 0 && b1 == 0 && b0 == 0) = decide (sw b3 b2 b1 b0 = 0) := by
  rw [Bool.eq_iff_iff]
  simp only [Bool.and_eq_true, beq_iff_eq, decide_eq_true_eq]
  unfold sw uw Word at *
  split <;> omega
end Go.Proofs.Ytnnojeggjnddpaa

/- The program's quotient of two numbers of four words: what lies in memory around the division. -/
namespace Go.Proofs.Ytnnojeggjnddpaa
open Go.RowKit
theorem ArgsB.set8 {w W : World} {a b c d : List Value} (h : ArgsB w W [a, b, c, d]) {g : Nat} (hg : w.heap.size + 3 < g) (v0 v1 v2 v3 v4 v5 v6 v7 : Value) : ArgsB w ((((((((W.setCell ⟨g, 0, none⟩ v0).setCell ⟨g, 1, none⟩ v1).setCell ⟨g, 2, none⟩ v2).setCell ⟨g, 3, none⟩ v3).setCell ⟨g, 4, none⟩ v4).setCell ⟨g, 5, none⟩ v5).setCell ⟨g, 6, none⟩ v6).setCell ⟨g, 7, none⟩ v7) [a, b, c, d] :=
  ((((((((h.set (by exact hg) _).set (by exact hg) _).set (by exact hg) _).set (by exact hg) _).set (by exact hg) _).set (by exact hg) _).set (by exact hg) _).set (by exact hg) _)
end Go.Proofs.Ytnnojeggjnddpaa

/- The walk of the program's quotient and rest of two numbers of four words. -/
namespace Go.Proofs.Ytnnojeggjnddpaa
open Go.RowKit
theorem W40 : W4 0 = .agg #[.int .u64 0, .int .u64 0, .int .u64 0, .int .u64 0] := by simp [ww3, ww2, ww1, ww0]
theorem tellV_ex (z : Int) : ∃ c3 c2 c1 c0 : Int, tellV z = .tuple #[.agg #[.int .u64 c3, .int .u64 c2, .int .u64 c1, .int .u64 c0], .bool (told z)] ∧ (told z → W4 z = .agg #[.int .u64 c3, .int .u64 c2, .int .u64 c1, .int .u64 c0]) := by
  by_cases h : told z
  · exact ⟨ww3 z, ww2 z, ww1 z, ww0 z, by unfold tellV; rw [if_pos h, h], fun _ => rfl⟩
  · exact ⟨0, 0, 0, 0, by unfold tellV; rw [if_neg h, Bool.eq_false_iff.2 h, W40], fun h' => absurd h' h⟩
end Go.Proofs.Ytnnojeggjnddpaa

/- Two rows of four values, and a flag, laid behind the arguments. -/
namespace Go.Proofs.Ytnnojeggjnddpaa
open Go.RowKit
theorem Blk.stored4g {W : World} {g : Nat} {z0 z1 z2 z3 : Value} (G : Blk W g [z0, z1, z2, z3]) (v0 v1 v2 v3 : Value) : Blk ((((W.setCell ⟨g, 0, none⟩ v0).setCell ⟨g, 1, none⟩ v1).setCell ⟨g, 2, none⟩ v2).setCell ⟨g, 3, none⟩ v3) g [v0, v1, v2, v3] :=
  (((G.setI 0 (by simp) v0).setI 1 (by simp) v1).setI 2 (by simp) v2).setI 3 (by simp) v3
def CutY (w wx : World) (vss : List (List Value)) (xs ys : List Value) (b : Bool) (p q r : Value) : Prop :=
  ∃ g g', p = (.pointer (some ⟨g, 0, none⟩)) ∧ q = (.pointer (some ⟨g', 0, none⟩)) ∧ r = .bool b ∧ g ≠ g' ∧ w.heap.size + vss.length ≤ g ∧ w.heap.size + vss.length ≤ g' ∧ ArgsB w wx vss ∧ Blk wx g xs ∧ Blk wx g' ys
theorem CutY.drew {w wx : World} {vss : List (List Value)} {xs ys : List Value} {b : Bool} {p q r : Value} (h : CutY w wx vss xs ys b p q r) : CutY w wx.drew vss xs ys b p q r := by
  obtain ⟨g, g', e, f, i, n, l, l', A, B, C⟩ := h
  exact ⟨g, g', e, f, i, n, l, l', A.drew, B.drew, C.drew⟩
end Go.Proofs.Ytnnojeggjnddpaa

/- Rows of eight values laid behind the arguments. -/
namespace Go.Proofs.Ytnnojeggjnddpaa
open Go.RowKit
theorem ArgsB.set8g {w W : World} {vss : List (List Value)} (h : ArgsB w W vss) {g : Nat} (hg : w.heap.size + vss.length ≤ g) (v0 v1 v2 v3 v4 v5 v6 v7 : Value) : ArgsB w ((((((((W.setCell ⟨g, 0, none⟩ v0).setCell ⟨g, 1, none⟩ v1).setCell ⟨g, 2, none⟩ v2).setCell ⟨g, 3, none⟩ v3).setCell ⟨g, 4, none⟩ v4).setCell ⟨g, 5, none⟩ v5).setCell ⟨g, 6, none⟩ v6).setCell ⟨g, 7, none⟩ v7) vss := ((((((((h.set (by exact hg) _).set (by exact hg) _).set (by exact hg) _).set (by exact hg) _).set (by exact hg) _).set (by exact hg) _).set (by exact hg) _).set (by exact hg) _)
end Go.Proofs.Ytnnojeggjnddpaa

/- The walk of what a long is when it is divided by a divisor of it, told as four words. -/
namespace Go.Proofs.Ytnnojeggjnddpaa
open Go.RowKit
/-- What is told of a quotient with its sign. -/
def shareZ (x d : Int) (b : Bool) : Int := if decide (x < 0) != b then -((x.natAbs : Int) / d) else (x.natAbs : Int) / d
end Go.Proofs.Ytnnojeggjnddpaa

/- The walk of the model's quotient and rest of numbers with signs. -/
namespace Go.Proofs.Ytnnojeggjnddpaa
open Go.RowKit
def Div2P (k : Nat) (x y : Int) (w : World) (e : Ending) (w' : World) : Prop :=
  ∃ (s2 : Bool) (o2 : Option Addr) (n2 c2 : Nat) (d2 : List Int) (s3 : Bool) (o3 : Option Addr) (n3 c3 : Nat) (d3 : List Int), e = .returned (.tuple #[.agg #[.bool s2, .slice o2 n2 c2], .agg #[.bool s3, .slice o3 n3 c3]]) ∧ IsNum w' s2 o2 n2 c2 d2 (x / y) (k + 3) ∧ IsNum w' s3 o3 n3 c3 d3 (x % y) (k + 3) ∧ Below w.heap.size w w'
theorem num_put {w : World} {s : Bool} {ao : Option Addr} {n cap : Nat} {ds : List Int} {z : Int} {k R : Nat} {p : Bool} {q : Option Addr} {q1 q2 : Nat} (h : IsNum w s ao n cap ds z k) (B : Blk w R [.bool p, .slice q q1 q2]) (u0 u1 : Value) : IsNum ((w.setCell ⟨R, 0, none⟩ u0).setCell ⟨R, 1, none⟩ u1) s ao n cap ds z k := by
  have h1 := h.rd.set u0 (B.c 0 rfl) (by intro x e; cases e)
  have B1 := B.setI 0 (by simp) u0
  have h2 := h1.set u1 (B1.c 1 rfl) (by intro x e; cases e)
  exact ⟨h.neg, h.len, h.cap, h2, h.nrm, h.val, h.le⟩
theorem num_more {w : World} {s : Bool} {ao : Option Addr} {n cap : Nat} {ds : List Int} {z : Int} {k k' : Nat} (h : IsNum w s ao n cap ds z k) (hk : k ≤ k') : IsNum w s ao n cap ds z k' := ⟨h.neg, h.len, h.cap, h.rd, h.nrm, h.val, Nat.le_trans h.le hk⟩
theorem num_drawn {w : World} {s : Bool} {ao : Option Addr} {n cap : Nat} {ds : List Int} {z : Int} {k : Nat} (h : IsNum w s ao n cap ds z k) : IsNum w.drew s ao n cap ds z k := ⟨h.neg, h.len, h.cap, h.rd, h.nrm, h.val, h.le⟩
theorem div_done {w W : World} {s2 s3 : Bool} {o2 o3 : Option Addr} {n2 c2 n3 c3 : Nat} {d2 d3 : List Int} {x y : Int} {k : Nat} (HB : Below w.heap.size w W) (NU : IsNum W s2 o2 n2 c2 d2 (x / y) (k + 3)) (NV : IsNum W s3 o3 n3 c3 d3 (x % y) (k + 3)) (C : Blk W (w.heap.size + 1 + 1) [.bool false, .slice none 0 0]) (D : Blk W (w.heap.size + 1 + 1 + 1) [.bool false, .slice none 0 0]) :
    Div2P k x y w (.returned (.tuple #[.agg #[.bool s2, .slice o2 n2 c2], .agg #[.bool s3, .slice o3 n3 c3]])) ((((W.setCell ⟨w.heap.size + 1 + 1, 0, none⟩ (.bool s2)).setCell ⟨w.heap.size + 1 + 1, 1, none⟩ (.slice o2 n2 c2)).setCell ⟨w.heap.size + 1 + 1 + 1, 0, none⟩ (.bool s3)).setCell ⟨w.heap.size + 1 + 1 + 1, 1, none⟩ (.slice o3 n3 c3)) := by
  have D' := (D.setO (p := ⟨w.heap.size + 1 + 1, 0, none⟩) (by simp) (.bool s2)).setO (p := ⟨w.heap.size + 1 + 1, 1, none⟩) (by simp) (.slice o2 n2 c2)
  refine ⟨s2, o2, n2, c2, d2, s3, o3, n3, c3, d3, rfl, num_put (num_put NU C _ _) D' _ _, num_put (num_put NV C _ _) D' _ _, ?_⟩
  exact (((HB.setCell (p := ⟨w.heap.size + 1 + 1, 0, none⟩) (by simp; omega) _).setCell (p := ⟨w.heap.size + 1 + 1, 1, none⟩) (by simp; omega) _).setCell (p := ⟨w.heap.size + 1 + 1 + 1, 0, none⟩) (by simp; omega) _).setCell (p := ⟨w.heap.size + 1 + 1 + 1, 1, none⟩) (by simp; omega) _
theorem div_drawn {w W : World} {k : Nat} {x y : Int} {e : Ending} (h : Div2P k x y w e W) : Div2P k x y w e W.drew := by
  obtain ⟨s2, o2, n2, c2, d2, s3, o3, n3, c3, d3, e, h1, h2, hB⟩ := h
  exact ⟨s2, o2, n2, c2, d2, s3, o3, n3, c3, d3, e, num_drawn h1, num_drawn h2, hB.drew⟩
theorem div_alloc {w W : World} {k : Nat} {x y : Int} {e : Ending} (h : Div2P k x y w e W) (o : Obj) : Div2P k x y w e (W.alloc o) := by
  obtain ⟨s2, o2, n2, c2, d2, s3, o3, n3, c3, d3, e, h1, h2, hB⟩ := h
  exact ⟨s2, o2, n2, c2, d2, s3, o3, n3, c3, d3, e, h1.below ((Below.refl _ _).alloc (Nat.le_refl _) o), h2.below ((Below.refl _ _).alloc (Nat.le_refl _) o), hB.alloc hB.size o⟩
set_option maxRecDepth 100000 in
set_option maxHeartbeats 4000000 in
theorem div_any (s t : Bool) (ao bo : Option Addr) (n m ca cb k : Nat) (xs ys : List Int) (x y : Int) (w : World) (hx : IsNum w s ao n ca xs x k) (hy : IsNum w t bo m cb ys y k) (hk : k ≤ 9000) (hy0 : y ≠ 0) :
    Calls Try.prog 130 #[.agg #[.bool s, .slice ao n ca], .agg #[.bool t, .slice bo m cb]] w (Div2P k x y w) := by
  obtain ⟨Q, R, eQ, eR, hQ0, hR0, hR1, hqr⟩ := div_parts x y hy0
  have DS := div_signs hy0 hR0 hR1 hqr
  have hs : Hid (s = decide (x < 0)) := hx.neg
  have ht : Hid (t = decide (y < 0)) := hy.neg
  have A := (((Blk.new w [.bool s, .slice ao n ca] 66 rfl).alloc (.cells #[.bool t, .slice bo m cb] 66)).alloc (.cells #[.bool false, .slice none 0 0] 66)).alloc (.cells #[.bool false, .slice none 0 0] 66)
  have B := ((Blk.new (w.alloc (.cells #[.bool s, .slice ao n ca] 66)) [.bool t, .slice bo m cb] 66 (g := w.heap.size + 1) (by simp)).alloc (.cells #[.bool false, .slice none 0 0] 66)).alloc (.cells #[.bool false, .slice none 0 0] 66)
  have C := (Blk.new ((w.alloc (.cells #[.bool s, .slice ao n ca] 66)).alloc (.cells #[.bool t, .slice bo m cb] 66)) [.bool false, .slice none 0 0] 66 (g := w.heap.size + 1 + 1) (by simp)).alloc (.cells #[.bool false, .slice none 0 0] 66)
  have D := Blk.new (((w.alloc (.cells #[.bool s, .slice ao n ca] 66)).alloc (.cells #[.bool t, .slice bo m cb] 66)).alloc (.cells #[.bool false, .slice none 0 0] 66)) [.bool false, .slice none 0 0] 66 (g := w.heap.size + 1 + 1 + 1) (by simp)
  have HB0 : Below w.heap.size w ((((w.alloc (.cells #[.bool s, .slice ao n ca] 66)).alloc (.cells #[.bool t, .slice bo m cb] 66)).alloc (.cells #[.bool false, .slice none 0 0] 66)).alloc (.cells #[.bool false, .slice none 0 0] 66)) := ((((Below.refl _ _).alloc (Nat.le_refl _) _).alloc (by simp) _).alloc (by simp; omega) _).alloc (by simp; omega) _
  replace hx := hx.below HB0
  replace hy := hy.below HB0
  have hyp : 0 < val ys := by rw [hy.val]; omega
  go_enter Try.func130, Try.ntmps130
  go_wp2_with fail
  refine (divAbs_any ao bo n m ca cb xs ys _ hx.len hy.len hx.nrm hy.nrm hx.rd hy.rd hx.cap (by have := hx.le; omega) (by have := hy.le; omega) hyp).mono ?_
  rintro e w1 ⟨qo, qn, qc, qs, ro, rn, rc, rs, rfl, ⟨a1, a2, a3, a4, a5, a6⟩, ⟨b1, b2, b3, b4, b5, b6⟩, hB⟩
  rw [hx.val, hy.val] at a5 b5
  rw [eQ] at a5
  rw [eR] at b5
  have hnk := hx.le
  replace hy := hy.below hB
  replace A := A.step hB; replace B := B.step hB; replace C := C.step hB; replace D := D.step hB
  have HB1 : Below w.heap.size w w1 := HB0.trans (hB.mono HB0.size)
  clear hB HB0 hx hyp
  have p0 := A.c 0 rfl; have p1 := A.c 1 rfl; have pl := A.lt; have q0 := B.c 0 rfl; have q1 := B.c 1 rfl; have ql := B.lt
  go_wp2_with fail
  refine (trim_any _ qo qn qc qs _ a1 a2 a4.1 a6 (by omega)).mono ?_
  rintro e w2 ⟨s2, o2, n2, c2, d2, rfl, t1, t2, t3, t4, t5, t6, t7, hB⟩
  have NU : IsNum w2 s2 o2 n2 c2 d2 (if s = t then Q else -Q) (k + 1) := num_of t1 t2 (by omega) t4 (t5.trans a5) (by rw [t6, a5]) t7 (by split <;> omega) (by intro hz; cases s <;> cases t <;> simp at hz ⊢ <;> omega)
  replace b6 := b6.below hB (Nat.le_refl _)
  replace hy := hy.below hB
  replace A := A.step hB; replace B := B.step hB; replace C := C.step hB; replace D := D.step hB
  have HB2 : Below w.heap.size w w2 := HB1.trans (hB.mono HB1.size)
  clear hB HB1 t1 t2 t3 t4 t5 t6 t7 a1 a2 a3 a4 a5 a6 p0 p1 pl q0 q1 ql
  have p0 := A.c 0 rfl; have p1 := A.c 1 rfl; have pl := A.lt; have q0 := B.c 0 rfl; have q1 := B.c 1 rfl; have ql := B.lt
  have hDU := D.lt
  have U := Blk.new w2 [.bool s2, .slice o2 n2 c2] 66 rfl
  have hal : Below w2.heap.size w2 (w2.alloc (.cells #[.bool s2, .slice o2 n2 c2] 66)) := (Below.refl _ _).alloc (Nat.le_refl _) _
  replace A := A.step hal; replace B := B.step hal; replace C := C.step hal; replace D := D.step hal
  replace NU := NU.below hal
  replace hy := hy.below hal
  replace b6 := b6.below hal (Nat.le_refl _)
  replace HB2 := HB2.alloc HB2.size (.cells #[.bool s2, .slice o2 n2 c2] 66)
  clear hal
  go_wp2_with fail
  refine (trim_any s ro rn rc rs _ b1 b2 b4.1 b6 (by omega)).mono ?_
  rintro e w3 ⟨s3, o3, n3, c3, d3, rfl, t1, t2, t3, t4, t5, t6, t7, hB⟩
  have NV : IsNum w3 s3 o3 n3 c3 d3 (if s then -R else R) (k + 1) := num_of t1 t2 (by omega) t4 (t5.trans b5) (by rw [t6, b5]) t7 (by split <;> omega) (by intro hz; cases s <;> simp at hz ⊢ <;> omega)
  replace hy := hy.below hB
  replace NU := NU.below hB
  replace A := A.step hB; replace B := B.step hB; replace C := C.step hB; replace D := D.step hB; replace U := U.step hB
  have HB3 : Below w.heap.size w w3 := HB2.trans (hB.mono HB2.size)
  have hUl := U.lt; have hBl := B.lt; have hCl := C.lt; have hDl := D.lt
  have nBU : w.heap.size + 1 + 1 + 1 < w2.heap.size := hDU
  clear hB HB2 t1 t2 t3 t4 t5 t6 t7 b1 b2 b3 b4 b5 b6 p0 p1 pl q0 q1 ql
  have q0 := B.c 0 rfl; have q1 := B.c 1 rfl; have ql := B.lt; have u0 := U.c 0 rfl; have uf0 := U.f 0 rfl; have u1 := U.c 1 rfl; have uf1 := U.f 1 rfl; have ul := U.lt; have c0 := C.c 0 rfl; have cf0 := C.f 0 rfl; have c1 := C.c 1 rfl; have cf1 := C.f 1 rfl; have cl := C.lt; have d0 := D.c 0 rfl; have df0 := D.f 0 rfl; have d1 := D.c 1 rfl; have df1 := D.f 1 rfl; have dl := D.lt
  have NU3 := NU; have NV3 := NV; have C3 := C; have D3 := D; have HB3' := HB3
  have V := Blk.new w3 [.bool s3, .slice o3 n3 c3] 66 rfl
  have hal : Below w3.heap.size w3 (w3.alloc (.cells #[.bool s3, .slice o3 n3 c3] 66)) := (Below.refl _ _).alloc (Nat.le_refl _) _
  replace B := B.step hal; replace C := C.step hal; replace D := D.step hal; replace U := U.step hal
  replace NU := NU.below hal
  replace NV := NV.below hal
  replace hy := hy.below hal
  have HB4 := HB3.alloc HB3.size (.cells #[.bool s3, .slice o3 n3 c3] 66)
  have nUV : w2.heap.size < w3.heap.size := hUl
  clear hal HB3
  have hneg := NV.neg
  by_cases hv : s3 = true
  · subst hv
    have es : s = true := by
      apply Decidable.byContradiction
      intro h
      rw [Bool.eq_false_iff.2 h] at hneg
      simp at hneg
      omega
    have hRp : 0 < R := by rw [es] at hneg; simp at hneg; exact hneg
    have hx0 : x < 0 := by have := hs.out; rw [es] at this; simpa using this.symm
    subst es
    obtain ⟨-, -, -, -, D5, D6⟩ := DS
    have J : ∀ W, Below (w3.alloc (.cells #[.bool true, .slice o3 n3 c3] 66)).heap.size (w3.alloc (.cells #[.bool true, .slice o3 n3 c3] 66)) W → (Blk W (w.heap.size + 1) [.bool t, .slice bo m cb] ∧ Blk W (w.heap.size + 1 + 1) [.bool false, .slice none 0 0] ∧ Blk W (w.heap.size + 1 + 1 + 1) [.bool false, .slice none 0 0] ∧ Blk W w2.heap.size [.bool s2, .slice o2 n2 c2] ∧ Blk W w3.heap.size [.bool true, .slice o3 n3 c3]) ∧ IsNum W s2 o2 n2 c2 d2 (if true = t then Q else -Q) (k + 1) ∧ IsNum W true o3 n3 c3 d3 (-R) (k + 1) ∧ IsNum W t bo m cb ys y k ∧ Below w.heap.size w W :=
      fun W h => ⟨⟨B.step h, C.step h, D.step h, U.step h, V.step h⟩, NU.below h, by simpa using NV.below h, hy.below h, HB4.trans (h.mono HB4.size)⟩
    clear NU NV NU3 NV3 C3 D3 HB3' A B C D U V HB4 hy hneg hs
    cases t
    · have hyp : 0 < y := by have := ht.out; simp at this; omega
      go_upto_region 8 with fail
      generalize w3.alloc (.cells #[.bool true, .slice o3 n3 c3] 66) = W0 at *
      obtain ⟨⟨jb, jc, jd, ju, jv⟩, jn, jr, jy, jB⟩ := J W0 (Below.refl _ _)
      clear u0 u1 uf0 uf1 ul q0 q1 ql c0 c1 cf0 cf1 cl d0 d1 df0 df1 dl
      have u0 := ju.c 0 rfl; have uf0 := ju.f 0 rfl; have u1 := ju.c 1 rfl; have uf1 := ju.f 1 rfl; have ul := ju.lt
      go_region_with ((first
        | (go_at_call 57; refine (int_any 1 _ (by decide) (by decide)).mono ?_; rintro e w5 ⟨s5, o5, n5, c5, d5, rfl, N5, hB⟩; have K5 : Below W0.heap.size W0 w5 := ((Below.refl _ _).drew).trans hB; obtain ⟨⟨ib, ic, id', iu, iv⟩, jn5, ir, iy, iB⟩ := J w5 K5; have h0 := iu.c 0 rfl; have hf0 := iu.f 0 rfl; have h1 := iu.c 1 rfl; have hf1 := iu.f 1 rfl; have hl := iu.lt; clear hB)
        | (go_at_call 93; refine (sub_any s2 s5 o2 o5 n2 n5 c2 c5 (k + 2) d2 d5 _ _ _ (num_more jn5 (by omega)) (num_more N5 (by omega)) (by omega)).mono ?_; rintro e w6 ⟨s6, o6, n6, c6, d6, rfl, N6, hB⟩; have K6 : Below W0.heap.size W0 w6 := K5.trans (hB.mono K5.size); obtain ⟨⟨lb, lc, ld, lu, lv⟩, ln, lr, ly, lB⟩ := J w6 K6; have i0 := lu.c 0 rfl; have if0 := lu.f 0 rfl; have i1 := lu.c 1 rfl; have if1 := lu.f 1 rfl; have il := lu.lt; clear hB)))
      all_goals have g1 : w.heap.size + 1 ≠ w2.heap.size := by omega
      all_goals have g2 : w.heap.size + 1 + 1 ≠ w2.heap.size := by omega
      all_goals have g3 : w.heap.size + 1 + 1 + 1 ≠ w2.heap.size := by omega
      all_goals have g4 : w3.heap.size ≠ w2.heap.size := by omega
      all_goals have B6 := ((lb.setO (p := ⟨w2.heap.size, 0, none⟩) (by exact g1) (.bool s6)).setO (p := ⟨w2.heap.size, 1, none⟩) (by exact g1) (.slice o6 n6 c6))
      all_goals have C6 := ((lc.setO (p := ⟨w2.heap.size, 0, none⟩) (by exact g2) (.bool s6)).setO (p := ⟨w2.heap.size, 1, none⟩) (by exact g2) (.slice o6 n6 c6))
      all_goals have D6' := ((ld.setO (p := ⟨w2.heap.size, 0, none⟩) (by exact g3) (.bool s6)).setO (p := ⟨w2.heap.size, 1, none⟩) (by exact g3) (.slice o6 n6 c6))
      all_goals have V6 := ((lv.setO (p := ⟨w2.heap.size, 0, none⟩) (by exact g4) (.bool s6)).setO (p := ⟨w2.heap.size, 1, none⟩) (by exact g4) (.slice o6 n6 c6))
      all_goals have M6 := num_put N6 lu (.bool s6) (.slice o6 n6 c6)
      all_goals have R6 := num_put lr lu (.bool s6) (.slice o6 n6 c6)
      all_goals have Y6 := num_put ly lu (.bool s6) (.slice o6 n6 c6)
      all_goals have U6 := (lu.setI 0 (by simp) (.bool s6)).setI 1 (by simp) (.slice o6 n6 c6)
      all_goals have L6 := (lB.setCell (p := ⟨w2.heap.size, 0, none⟩) (by simp; omega) (.bool s6)).setCell (p := ⟨w2.heap.size, 1, none⟩) (by simp; omega) (.slice o6 n6 c6)
      all_goals clear u0 u1 uf0 uf1 ul h0 h1 hf0 hf1 hl i0 i1 if0 if1 il jb jc jd ju jv jn jr jy jB ib ic id' iu iv jn5 ir iy iB lb lc ld lu lv ln lr ly lB N5 N6 K5 K6 J
      all_goals generalize ((w6.setCell ⟨w2.heap.size, 0, none⟩ (.bool s6)).setCell ⟨w2.heap.size, 1, none⟩ (.slice o6 n6 c6)) = W6 at *
      all_goals (have v0 := V6.c 0 rfl; have v1 := V6.c 1 rfl; have vl := V6.lt; have x0 := B6.c 0 rfl; have x1 := B6.c 1 rfl; have xl := B6.lt)
      all_goals go_wp2_with fail
      all_goals refine (add_any true false o3 bo n3 m c3 cb (k + 1) d3 ys _ _ _ R6 (num_more Y6 (by omega)) (by omega)).mono ?_
      all_goals rintro e w7 ⟨s7, o7, n7, c7, d7, rfl, N7, hB⟩
      all_goals (replace C6 := C6.step hB; replace D6' := D6'.step hB; replace V6 := V6.step hB; replace U6 := U6.step hB; replace M6 := M6.below hB; replace L6 := L6.trans (hB.mono L6.size))
      all_goals clear hB v0 v1 vl x0 x1 xl
      all_goals have g5 : w.heap.size + 1 + 1 ≠ w3.heap.size := by omega
      all_goals have g6 : w.heap.size + 1 + 1 + 1 ≠ w3.heap.size := by omega
      all_goals have g7 : w2.heap.size ≠ w3.heap.size := by omega
      all_goals (have v0 := V6.c 0 rfl; have vf0 := V6.f 0 rfl; have v1 := V6.c 1 rfl; have vf1 := V6.f 1 rfl; have vl := V6.lt)
      all_goals have C7 := ((C6.setO (p := ⟨w3.heap.size, 0, none⟩) (by exact g5) (.bool s7)).setO (p := ⟨w3.heap.size, 1, none⟩) (by exact g5) (.slice o7 n7 c7))
      all_goals have D7 := ((D6'.setO (p := ⟨w3.heap.size, 0, none⟩) (by exact g6) (.bool s7)).setO (p := ⟨w3.heap.size, 1, none⟩) (by exact g6) (.slice o7 n7 c7))
      all_goals have U7 := ((U6.setO (p := ⟨w3.heap.size, 0, none⟩) (by exact g7) (.bool s7)).setO (p := ⟨w3.heap.size, 1, none⟩) (by exact g7) (.slice o7 n7 c7))
      all_goals have M7 := num_put M6 V6 (.bool s7) (.slice o7 n7 c7)
      all_goals have P7 := num_put N7 V6 (.bool s7) (.slice o7 n7 c7)
      all_goals have L7 := (L6.setCell (p := ⟨w3.heap.size, 0, none⟩) (by simp; omega) (.bool s7)).setCell (p := ⟨w3.heap.size, 1, none⟩) (by simp; omega) (.slice o7 n7 c7)
      all_goals obtain ⟨E1, E2⟩ := D5 hx0 hRp hyp
      all_goals rw [show (if true = false then Q else -Q) - 1 = x / y by rw [E1]; simp] at M7
      all_goals rw [show -R + y = x % y by rw [E2]] at P7
      all_goals have F := div_done (k := k) L7 M7 (num_more P7 (Nat.le_succ _)) C7 D7
      all_goals (have c0 := C7.c 0 rfl; have cf0 := C7.f 0 rfl; have c1 := C7.c 1 rfl; have cf1 := C7.f 1 rfl; have cl := C7.lt; have d0 := D7.c 0 rfl; have df0 := D7.f 0 rfl; have d1 := D7.c 1 rfl; have df1 := D7.f 1 rfl; have dl := D7.lt; have u0 := U7.c 0 rfl; have u1 := U7.c 1 rfl; have ul := U7.lt)
      all_goals clear C6 D6' V6 U6 M6 L6 C7 D7 U7 M7 P7 L7 N7 g1 g2 g3 g4 g5 g6 g7
      all_goals go_wp2
      all_goals go_region
      all_goals go_wp2
      all_goals refine bodyPost_ret (v := .tuple #[.agg #[.bool s6, .slice o6 n6 c6], .agg #[.bool s7, .slice o7 n7 c7]]) (by simp [results, Try.results130, go_sem, c0, c1, d0, d1]) rfl ?_
      all_goals exact div_drawn F
    · have hyp : y < 0 := by have := ht.out; simpa using this.symm
      go_upto_region 6 with fail
      generalize w3.alloc (.cells #[.bool true, .slice o3 n3 c3] 66) = W0 at *
      obtain ⟨⟨jb, jc, jd, ju, jv⟩, jn, jr, jy, jB⟩ := J W0 (Below.refl _ _)
      clear u0 u1 uf0 uf1 ul q0 q1 ql c0 c1 cf0 cf1 cl d0 d1 df0 df1 dl
      have u0 := ju.c 0 rfl; have uf0 := ju.f 0 rfl; have u1 := ju.c 1 rfl; have uf1 := ju.f 1 rfl; have ul := ju.lt
      go_region_with ((first
        | (go_at_call 57; refine (int_any 1 _ (by decide) (by decide)).mono ?_; rintro e w5 ⟨s5, o5, n5, c5, d5, rfl, N5, hB⟩; have K5 : Below W0.heap.size W0 w5 := ((Below.refl _ _).drew).trans hB; obtain ⟨⟨ib, ic, id', iu, iv⟩, jn5, ir, iy, iB⟩ := J w5 K5; have h0 := iu.c 0 rfl; have hf0 := iu.f 0 rfl; have h1 := iu.c 1 rfl; have hf1 := iu.f 1 rfl; have hl := iu.lt; clear hB)
        | (go_at_call 81; refine (add_any s2 s5 o2 o5 n2 n5 c2 c5 (k + 2) d2 d5 _ _ _ (num_more jn5 (by omega)) (num_more N5 (by omega)) (by omega)).mono ?_; rintro e w6 ⟨s6, o6, n6, c6, d6, rfl, N6, hB⟩; have K6 : Below W0.heap.size W0 w6 := K5.trans (hB.mono K5.size); obtain ⟨⟨lb, lc, ld, lu, lv⟩, ln, lr, ly, lB⟩ := J w6 K6; have i0 := lu.c 0 rfl; have if0 := lu.f 0 rfl; have i1 := lu.c 1 rfl; have if1 := lu.f 1 rfl; have il := lu.lt; clear hB)))
      all_goals have g1 : w.heap.size + 1 ≠ w2.heap.size := by omega
      all_goals have g2 : w.heap.size + 1 + 1 ≠ w2.heap.size := by omega
      all_goals have g3 : w.heap.size + 1 + 1 + 1 ≠ w2.heap.size := by omega
      all_goals have g4 : w3.heap.size ≠ w2.heap.size := by omega
      all_goals have B6 := ((lb.setO (p := ⟨w2.heap.size, 0, none⟩) (by exact g1) (.bool s6)).setO (p := ⟨w2.heap.size, 1, none⟩) (by exact g1) (.slice o6 n6 c6))
      all_goals have C6 := ((lc.setO (p := ⟨w2.heap.size, 0, none⟩) (by exact g2) (.bool s6)).setO (p := ⟨w2.heap.size, 1, none⟩) (by exact g2) (.slice o6 n6 c6))
      all_goals have D6' := ((ld.setO (p := ⟨w2.heap.size, 0, none⟩) (by exact g3) (.bool s6)).setO (p := ⟨w2.heap.size, 1, none⟩) (by exact g3) (.slice o6 n6 c6))
      all_goals have V6 := ((lv.setO (p := ⟨w2.heap.size, 0, none⟩) (by exact g4) (.bool s6)).setO (p := ⟨w2.heap.size, 1, none⟩) (by exact g4) (.slice o6 n6 c6))
      all_goals have M6 := num_put N6 lu (.bool s6) (.slice o6 n6 c6)
      all_goals have R6 := num_put lr lu (.bool s6) (.slice o6 n6 c6)
      all_goals have Y6 := num_put ly lu (.bool s6) (.slice o6 n6 c6)
      all_goals have U6 := (lu.setI 0 (by simp) (.bool s6)).setI 1 (by simp) (.slice o6 n6 c6)
      all_goals have L6 := (lB.setCell (p := ⟨w2.heap.size, 0, none⟩) (by simp; omega) (.bool s6)).setCell (p := ⟨w2.heap.size, 1, none⟩) (by simp; omega) (.slice o6 n6 c6)
      all_goals clear u0 u1 uf0 uf1 ul h0 h1 hf0 hf1 hl i0 i1 if0 if1 il jb jc jd ju jv jn jr jy jB ib ic id' iu iv jn5 ir iy iB lb lc ld lu lv ln lr ly lB N5 N6 K5 K6 J
      all_goals generalize ((w6.setCell ⟨w2.heap.size, 0, none⟩ (.bool s6)).setCell ⟨w2.heap.size, 1, none⟩ (.slice o6 n6 c6)) = W6 at *
      all_goals (have v0 := V6.c 0 rfl; have v1 := V6.c 1 rfl; have vl := V6.lt; have x0 := B6.c 0 rfl; have x1 := B6.c 1 rfl; have xl := B6.lt)
      all_goals go_wp2_with fail
      all_goals refine (sub_any true true o3 bo n3 m c3 cb (k + 1) d3 ys _ _ _ R6 (num_more Y6 (by omega)) (by omega)).mono ?_
      all_goals rintro e w7 ⟨s7, o7, n7, c7, d7, rfl, N7, hB⟩
      all_goals (replace C6 := C6.step hB; replace D6' := D6'.step hB; replace V6 := V6.step hB; replace U6 := U6.step hB; replace M6 := M6.below hB; replace L6 := L6.trans (hB.mono L6.size))
      all_goals clear hB v0 v1 vl x0 x1 xl
      all_goals have g5 : w.heap.size + 1 + 1 ≠ w3.heap.size := by omega
      all_goals have g6 : w.heap.size + 1 + 1 + 1 ≠ w3.heap.size := by omega
      all_goals have g7 : w2.heap.size ≠ w3.heap.size := by omega
      all_goals (have v0 := V6.c 0 rfl; have vf0 := V6.f 0 rfl; have v1 := V6.c 1 rfl; have vf1 := V6.f 1 rfl; have vl := V6.lt)
      all_goals have C7 := ((C6.setO (p := ⟨w3.heap.size, 0, none⟩) (by exact g5) (.bool s7)).setO (p := ⟨w3.heap.size, 1, none⟩) (by exact g5) (.slice o7 n7 c7))
      all_goals have D7 := ((D6'.setO (p := ⟨w3.heap.size, 0, none⟩) (by exact g6) (.bool s7)).setO (p := ⟨w3.heap.size, 1, none⟩) (by exact g6) (.slice o7 n7 c7))
      all_goals have U7 := ((U6.setO (p := ⟨w3.heap.size, 0, none⟩) (by exact g7) (.bool s7)).setO (p := ⟨w3.heap.size, 1, none⟩) (by exact g7) (.slice o7 n7 c7))
      all_goals have M7 := num_put M6 V6 (.bool s7) (.slice o7 n7 c7)
      all_goals have P7 := num_put N7 V6 (.bool s7) (.slice o7 n7 c7)
      all_goals have L7 := (L6.setCell (p := ⟨w3.heap.size, 0, none⟩) (by simp; omega) (.bool s7)).setCell (p := ⟨w3.heap.size, 1, none⟩) (by simp; omega) (.slice o7 n7 c7)
      all_goals obtain ⟨E1, E2⟩ := D6 hx0 hRp hyp
      all_goals rw [show (if True then Q else -Q) + 1 = x / y by rw [E1]; simp] at M7
      all_goals rw [show -R - y = x % y by rw [E2]] at P7
      all_goals have F := div_done (k := k) L7 M7 (num_more P7 (Nat.le_succ _)) C7 D7
      all_goals (have c0 := C7.c 0 rfl; have cf0 := C7.f 0 rfl; have c1 := C7.c 1 rfl; have cf1 := C7.f 1 rfl; have cl := C7.lt; have d0 := D7.c 0 rfl; have df0 := D7.f 0 rfl; have d1 := D7.c 1 rfl; have df1 := D7.f 1 rfl; have dl := D7.lt; have u0 := U7.c 0 rfl; have u1 := U7.c 1 rfl; have ul := U7.lt)
      all_goals clear C6 D6' V6 U6 M6 L6 C7 D7 U7 M7 P7 L7 N7 g1 g2 g3 g4 g5 g6 g7
      all_goals go_wp2
      all_goals go_region
      all_goals go_wp2
      all_goals refine bodyPost_ret (v := .tuple #[.agg #[.bool s6, .slice o6 n6 c6], .agg #[.bool s7, .slice o7 n7 c7]]) (by simp [results, Try.results130, go_sem, c0, c1, d0, d1]) rfl ?_
      all_goals exact div_drawn F
  · have hv := Bool.eq_false_iff.2 hv
    subst hv
    have hres : (if s = t then Q else -Q) = x / y ∧ (if s then -R else R) = x % y := by
      have hs := hs.out
      have ht := ht.out
      obtain ⟨D1, D2, D3, D4, -, -⟩ := DS
      by_cases hx0 : x < 0
      · have es : s = true := by rw [hs]; simp [hx0]
        have hR : R = 0 := by rw [es] at hneg; simp at hneg; omega
        by_cases hy1 : y < 0
        · have et : t = true := by rw [ht]; simp [hy1]
          obtain ⟨e1, e2⟩ := D4 hx0 hR hy1
          rw [e1, e2, es, et, hR]; simp
        · have et : t = false := by rw [ht]; simp [hy1]
          obtain ⟨e1, e2⟩ := D3 hx0 hR (by omega)
          rw [e1, e2, es, et, hR]; simp
      · have es : s = false := by rw [hs]; simp [hx0]
        by_cases hy1 : y < 0
        · have et : t = true := by rw [ht]; simp [hy1]
          obtain ⟨e1, e2⟩ := D2 (by omega) hy1
          rw [e1, e2, es, et]; simp
        · have et : t = false := by rw [ht]; simp [hy1]
          obtain ⟨e1, e2⟩ := D1 (by omega) (by omega)
          rw [e1, e2, es, et]; simp
    rw [hres.1] at NU3
    rw [hres.2] at NV3
    have F := div_alloc (div_done HB3' (num_more NU3 (Nat.add_le_add_left (by decide) k)) (num_more NV3 (Nat.add_le_add_left (by decide) k)) C3 D3) (.cells #[.bool false, .slice o3 n3 c3] 66)
    clear hres hneg DS NU NV NU3 NV3 C3 D3 HB3' A B C D U V HB4
    go_wp2
    go_region
    all_goals go_wp2
    all_goals refine bodyPost_ret (v := .tuple #[.agg #[.bool s2, .slice o2 n2 c2], .agg #[.bool false, .slice o3 n3 c3]]) (by simp [results, Try.results130, go_sem, World.cell?_alloc_past, c0, c1, d0, d1, cl, dl]) rfl ?_
    all_goals exact div_drawn F
end Go.Proofs.Ytnnojeggjnddpaa

/- Fractions: the model's word on whether one is right, and the law over both. -/
namespace Go.Proofs.Ytnnojeggjnddpaa
open Go.RowKit
set_option maxRecDepth 100000 in
set_option maxHeartbeats 2000000 in
theorem specRatioOk_any (a3 a2 a1 a0 b3 b2 b1 b0 : Int) (h3 : Word a3) (h2 : Word a2) (h1 : Word a1) (h0 : Word a0) (k3 : Word b3) (k2 : Word b2) (k1 : Word b1) (k0 : Word b0) (w : World) : Calls Try.prog 54 #[Rt a3 a2 a1 a0 b3 b2 b1 b0] w (BoolP (rightB (sw a3 a2 a1 a0) (sw b3 b2 b1 b0)) w) := by
  have HB := (Below.refl _ w).alloc (Nat.le_refl _) (.cells #[.int .u64 a3, .int .u64 a2, .int .u64 a1, .int .u64 a0, .int .u64 b3, .int .u64 b2, .int .u64 b1, .int .u64 b0] 37)
  go_enter Try.func54, Try.ntmps54
  go_wp2_with fail
  refine (l2Of_any a3 a2 a1 a0 b3 b2 b1 b0 h3 h2 h1 h0 k3 k2 k1 k0 _).mono ?_
  rintro e w1 ⟨s, ao, n, cap, ds, t, bo, m, c, es, rfl, N1, N2, hB⟩
  replace HB := HB.trans (hB.mono HB.size)
  clear hB h3 h2 h1 h0 k3 k2 k1 k0
  generalize sw a3 a2 a1 a0 = x at *
  generalize sw b3 b2 b1 b0 = y at *
  go_upto_region 2 with fail
  have X0 : Blk (w1.alloc (.cells #[.bool s, .slice ao n cap, .bool t, .slice bo m c] 86)) w1.heap.size [.bool s, .slice ao n cap, .bool t, .slice bo m c] := Blk.new w1 [.bool s, .slice ao n cap, .bool t, .slice bo m c] 86 rfl
  replace N1 := N1.below ((Below.refl w1.heap.size w1).alloc (Nat.le_refl _) (.cells #[.bool s, .slice ao n cap, .bool t, .slice bo m c] 86))
  replace N2 := N2.below ((Below.refl w1.heap.size w1).alloc (Nat.le_refl _) (.cells #[.bool s, .slice ao n cap, .bool t, .slice bo m c] 86))
  replace HB := HB.alloc HB.size (.cells #[.bool s, .slice ao n cap, .bool t, .slice bo m c] 86)
  generalize w1.alloc (.cells #[.bool s, .slice ao n cap, .bool t, .slice bo m c] 86) = W at *
  generalize w1.heap.size = gx at *
  by_cases hs : 0 < y
  · obtain ⟨q, hq⟩ : ∃ q, cmpI (Int.gcd x y : Int) 1 = q := ⟨_, rfl⟩
    have HR : Hid (rightB x y = (q == 0)) := by
      show _ = _
      unfold rightB
      rw [← hq, Bool.eq_iff_iff]
      simp only [decide_eq_true_eq, beq_iff_eq]
      unfold cmpI
      split
      · constructor
        · rintro ⟨_, h⟩; omega
        · intro h; exact absurd h (by decide)
      · split
        · constructor
          · rintro ⟨_, h⟩; omega
          · intro h; exact absurd h (by decide)
        · exact ⟨fun _ => rfl, fun _ => ⟨hs, by omega⟩⟩
    have x0c := X0.c 0 rfl; have x1c := X0.c 1 rfl; have x2c := X0.c 2 rfl; have x3c := X0.c 3 rfl
    go_wp2_with fail
    refine (sign_any t bo m c es _ 8 _ N2).mono ?_
    rintro e w2 ⟨rfl, hB⟩
    rw [cmpI_gt hs]
    replace X0 := X0.step hB; replace HB := HB.trans (hB.mono HB.size); replace N1 := N1.below hB; replace N2 := N2.below hB
    clear hB x0c x1c x2c x3c
    have x0c := X0.c 0 rfl; have x1c := X0.c 1 rfl; have x2c := X0.c 2 rfl; have x3c := X0.c 3 rfl
    go_wp2_with fail
    refine (gcd_any s t ao bo n m cap c 8 ds es _ _ _ N1 N2 (by omega)).mono ?_
    rintro e w3 ⟨s3, ao3, n3, c3, ds3, rfl, N3, hB⟩
    replace HB := HB.trans (hB.mono HB.size)
    clear hB N1 N2 x0c x1c x2c x3c X0
    go_wp2_with fail
    refine (int_any 1 _ (by decide) (by decide)).mono ?_
    rintro e w4 ⟨s4, ao4, n4, c4, ds4, rfl, N4, hB⟩
    replace HB := HB.trans (hB.mono HB.size); replace N3 := N3.below hB
    clear hB
    go_wp2_with fail
    refine (cmp_any s3 s4 ao3 ao4 n3 n4 c3 c4 8 ds3 ds4 _ _ _ N3 (num_more N4 (by decide)) (by omega)).mono ?_
    rintro e w5 ⟨rfl, hB⟩
    rw [hq]
    replace HB := HB.trans (hB.mono HB.size)
    clear hB N3 N4 hq
    go_wp2
    go_ret
    exact ⟨by simp [HR.out], HB⟩
  · have HR : Hid (rightB x y = false) := by
      show _ = _
      unfold rightB
      simp [hs]
    have hcs : cmpI y 0 = -1 ∨ cmpI y 0 = 0 := by
      rcases Int.lt_trichotomy y 0 with h | h | h
      · exact Or.inl (cmpI_lt h)
      · exact Or.inr (cmpI_eq h)
      · exact absurd h hs
    have x0c := X0.c 0 rfl; have x1c := X0.c 1 rfl; have x2c := X0.c 2 rfl; have x3c := X0.c 3 rfl
    go_wp2_with fail
    refine (sign_any t bo m c es _ 8 _ N2).mono ?_
    rintro e w2 ⟨rfl, hB⟩
    replace HB := HB.trans (hB.mono HB.size)
    clear hB x0c x1c x2c x3c X0 N1 N2
    rcases hcs with hc | hc
    · rw [hc]
      go_wp2
      go_ret
      exact ⟨by rw [HR.out]; rfl, HB⟩
    · rw [hc]
      go_wp2
      go_ret
      exact ⟨by rw [HR.out]; rfl, HB⟩
end Go.Proofs.Ytnnojeggjnddpaa

/- Fractions in their order: the program's and the model's answer, and the law over both. -/
namespace Go.Proofs.Ytnnojeggjnddpaa
open Go.RowKit
end Go.Proofs.Ytnnojeggjnddpaa

/- The walk of a fraction in its lowest terms. -/
namespace Go.Proofs.Ytnnojeggjnddpaa
open Go.RowKit
/-- Above and below in lowest terms, below above 0. -/
def lowN (x y : Int) : Int := shareZ x (Int.gcd x y) (decide (y < 0))
def lowD (x y : Int) : Int := shareZ y (Int.gcd x y) (decide (y < 0))
/-- A fraction in lowest terms as it is told. -/
def ratV (x y : Int) : Value := if y ≠ 0 ∧ told (lowN x y) = true ∧ told (lowD x y) = true then .tuple #[Rt (ww3 (lowN x y)) (ww2 (lowN x y)) (ww1 (lowN x y)) (ww0 (lowN x y)) (ww3 (lowD x y)) (ww2 (lowD x y)) (ww1 (lowD x y)) (ww0 (lowD x y)), .bool true] else .tuple #[.agg #[.int .u64 0, .int .u64 0, .int .u64 0, .int .u64 0, .int .u64 0, .int .u64 0, .int .u64 0, .int .u64 0], .bool false]
end Go.Proofs.Ytnnojeggjnddpaa

/- Two numbers of digits laid behind the arguments; the model's tell of a number, its value known. -/
namespace Go.Proofs.Ytnnojeggjnddpaa
open Go.RowKit
theorem IsNum.step {w w' : World} {s : Bool} {ao : Option Addr} {n cap : Nat} {ds : List Int} {z : Int} {k : Nat} (h : IsNum w s ao n cap ds z k) (hb : Below w.heap.size w w') : IsNum w' s ao n cap ds z k := h.below hb
theorem IsNum.alloc {w : World} {s : Bool} {ao : Option Addr} {n cap : Nat} {ds : List Int} {z : Int} {k : Nat} (h : IsNum w s ao n cap ds z k) (o : Obj) : IsNum (w.alloc o) s ao n cap ds z k := h.below ((Below.refl _ _).alloc (Nat.le_refl _) o)
theorem ArgsB.set2 {w W : World} {vss : List (List Value)} (h : ArgsB w W vss) {g : Nat} (hg : w.heap.size + vss.length ≤ g) (v0 v1 : Value) : ArgsB w ((W.setCell ⟨g, 0, none⟩ v0).setCell ⟨g, 1, none⟩ v1) vss := (h.set (by exact hg) _).set (by exact hg) _
theorem Blk.set2 {W : World} {vs : List Value} {v0 v1 : Value} {g g' : Nat} (G : Blk W g' vs) (hg : g' ≠ g) : Blk ((W.setCell ⟨g, 0, none⟩ v0).setCell ⟨g, 1, none⟩ v1) g' vs := (G.setO (by exact hg) _).setO (by exact hg) _
theorem Blk.stored2 {W : World} {g : Nat} {z0 z1 : Value} (G : Blk W g [z0, z1]) (v0 v1 : Value) : Blk ((W.setCell ⟨g, 0, none⟩ v0).setCell ⟨g, 1, none⟩ v1) g [v0, v1] := (G.setI 0 (by simp) v0).setI 1 (by simp) v1
theorem tellP_VP {z : Int} {w w' : World} {e : Ending} (h : TellP z w e w') : VP (tellV z) w e w' := by
  rcases h.2 with ⟨t, a3, a2, a1, a0, rfl, h3, h2, h1, h0, hz⟩ | ⟨t, rfl⟩
  · obtain ⟨rfl, rfl, rfl, rfl⟩ := wd_of h3 h2 h1 h0 hz
    exact ⟨by unfold tellV; rw [if_pos t], h.1⟩
  · exact ⟨by unfold tellV; rw [if_neg (by simp [t]), W40], h.1⟩
theorem toW_det (s : Bool) (ao : Option Addr) (n cap : Nat) (ds : List Int) (z : Int) (k : Nat) (w : World) (h : IsNum w s ao n cap ds z k) (hk : k ≤ 1000000) :
    Calls Try.prog 48 #[.agg #[.bool s, .slice ao n cap]] w (VP (tellV z) w) := (toW_any s ao n cap ds z k w h hk).mono fun _ _ => tellP_VP
theorem sd_cells {a3 a2 a1 a0 b3 b2 b1 b0 : Int} {w W : World} {cs : List (List Value)} (h : ArgsB w W ([.int .u64 a3, .int .u64 a2, .int .u64 a1, .int .u64 a0] :: [.int .u64 b3, .int .u64 b2, .int .u64 b1, .int .u64 b0] :: cs)) : (fun w' => w'.cell? ⟨w.heap.size, 0, none⟩ = some (.int .u64 a3) ∧ w'.cell? ⟨w.heap.size, 1, none⟩ = some (.int .u64 a2) ∧ w'.cell? ⟨w.heap.size, 2, none⟩ = some (.int .u64 a1) ∧ w'.cell? ⟨w.heap.size, 3, none⟩ = some (.int .u64 a0) ∧ w'.cell? ⟨w.heap.size + 1, 0, none⟩ = some (.int .u64 b3) ∧ w'.cell? ⟨w.heap.size + 1, 1, none⟩ = some (.int .u64 b2) ∧ w'.cell? ⟨w.heap.size + 1, 2, none⟩ = some (.int .u64 b1) ∧ w'.cell? ⟨w.heap.size + 1, 3, none⟩ = some (.int .u64 b0)) W :=
  ⟨(h.b 0 rfl).c 0 rfl, (h.b 0 rfl).c 1 rfl, (h.b 0 rfl).c 2 rfl, (h.b 0 rfl).c 3 rfl, (h.b 1 rfl).c 0 rfl, (h.b 1 rfl).c 1 rfl, (h.b 1 rfl).c 2 rfl, (h.b 1 rfl).c 3 rfl⟩
end Go.Proofs.Ytnnojeggjnddpaa

/- The walk of the model's quotient and rest of two numbers of four words. -/
namespace Go.Proofs.Ytnnojeggjnddpaa
open Go.RowKit
end Go.Proofs.Ytnnojeggjnddpaa
