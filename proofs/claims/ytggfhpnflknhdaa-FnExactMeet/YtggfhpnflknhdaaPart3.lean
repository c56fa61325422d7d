/- Part 3 of the walks that the proof leans on. -/
import Derived.Test.YtggfhpnflknhdaaPart2
import Derived.Test.YtggfhpnflknhdaaPart1
import Derived.Deep.RegionHeld3
import Derived.Deep.DeepCutAuto
import Derived.Test.YtggfhpnflknhdaaRows
import Derived.ProofKit
import Derived.Lib.SmallJoins
import Derived.Deep.Strs
/- The walk of the model's quotient and rest of digits, bit by bit. -/
namespace Go.Proofs.Ytggfhpnflknhdaa
open Go.RowKit
def DivP (n : Nat) (X Y : Int) (w : World) (e : Ending) (w' : World) : Prop :=
  ∃ (qo : Option Addr) (qn qc : Nat) (qs : List Int) (ro : Option Addr) (rn rc : Nat) (rs : List Int), e = .returned (.tuple #[.slice qo qn qc, .slice ro rn rc]) ∧
    (qs.length = qn ∧ qn ≤ qc ∧ qn ≤ n + 1 ∧ Nrm qs ∧ val qs = X / Y ∧ Rd w' qo qs) ∧ (rs.length = rn ∧ rn ≤ rc ∧ rn ≤ n ∧ Nrm rs ∧ val rs = X % Y ∧ Rd w' ro rs) ∧ Below w.heap.size w w'
theorem bits_le32 {v : Int} {b n : Nat} (h : BitsOf v b) (hv : v < pw n) : b ≤ 32 * n := by
  apply Decidable.byContradiction
  intro hn
  have hp := p2_pow (32 * n)
  rw [show 32 * n / 32 = n by omega, show 32 * n % 32 = 0 by omega] at hp
  simp only [Int.pow_zero, Int.mul_one] at hp
  rw [hp] at hv
  rcases h.2.2 with h2 | h2
  · omega
  · have := ipow2_mono (show 32 * n ≤ b - 1 by omega)
    omega
/-- What lies in memory between the rounds. -/
structure DvM (W wr : World) (g : Nat) (qs : List Int) (ro : Option Addr) (rn rc : Nat) (rs : List Int) (n : Nat) : Prop where
  below : Below W.heap.size W wr
  q : Blk wr g (qs.map (Value.int .u32))
  rlen : rs.length = rn
  rcap : rn ≤ rc
  rle : rn ≤ n
  rnrm : Nrm rs
  rrd : Rd wr ro rs
  rne : ∀ b off, ro = some ⟨b, off, none⟩ → rs ≠ [] → b ≠ g
theorem DvM.step {W wr wr' : World} {g : Nat} {qs : List Int} {ro : Option Addr} {rn rc : Nat} {rs : List Int} {n : Nat} (h : DvM W wr g qs ro rn rc rs n) (hB : Below wr.heap.size wr wr') : DvM W wr' g qs ro rn rc rs n :=
  ⟨h.below.trans (hB.mono h.below.size), h.q.step hB, h.rlen, h.rcap, h.rle, h.rnrm, h.rrd.below hB (Nat.le_refl _), h.rne⟩
theorem Rd.setNe {w : World} {ao : Option Addr} {ds : List Int} (h : Rd w ao ds) {p : Addr} (hp : ∀ b off, ao = some ⟨b, off, none⟩ → ds ≠ [] → b ≠ p.block) (u : Value) : Rd (w.setCell p u) ao ds := by
  intro i hi
  obtain ⟨b, off, e, hb, hc⟩ := h i hi
  refine ⟨b, off, e, by simpa [World.setCell] using hb, (World.cell?_setCell_other _ _ _ _ ?_).trans hc⟩
  intro e2
  rw [e2] at hp
  exact hp b off e (by rintro rfl; simp at hi) rfl
set_option maxRecDepth 100000 in
set_option maxHeartbeats 4000000 in
theorem divAbs_any (ao bo : Option Addr) (n m ca cb : Nat) (xs ys : List Int) (w : World) (hx : xs.length = n) (hy : ys.length = m) (nx : Nrm xs) (ny : Nrm ys) (rx : Rd w ao xs) (ry : Rd w bo ys) (hc : n ≤ ca) (hn : n ≤ 10000) (hm : m ≤ 10000) (hY : 0 < val ys) :
    Calls Try.prog 133 #[.slice ao n ca, .slice bo m cb] w (DivP n (val xs) (val ys) w) := by
  obtain ⟨i0, hi, hz0, hz1, hz2⟩ := info_parts Try.info88
  go_enter Try.func133, Try.ntmps133
  go_wp2_with fail
  refine (bits_any ao n ca xs _ hx nx rx (by omega)).mono ?_
  rintro e w1 ⟨bx, rfl, hbx, hB⟩
  replace rx := rx.below hB (Nat.le_refl _)
  replace ry := ry.below hB (Nat.le_refl _)
  have HB1 := hB
  clear hB
  go_wp2_with fail
  refine (bits_any bo m cb ys _ hy ny ry (by omega)).mono ?_
  rintro e w2 ⟨bz, rfl, hbz, hB⟩
  replace rx := rx.below hB (Nat.le_refl _)
  replace ry := ry.below hB (Nat.le_refl _)
  have HB2 : Below w.heap.size w w2 := HB1.trans (hB.mono HB1.size)
  clear hB HB1
  have l1 := bits_le32 (n := n) hbx (by rw [← hx]; exact val_lt nx.1)
  have l2 := bits_le32 (n := m) hbz (by rw [← hy]; exact val_lt ny.1)
  by_cases hlt : bx < bz
  · obtain ⟨v1, v2, v3⟩ := dv_less hbx hbz hlt
    have i1 : (bx : Int) - bz < 0 := by omega
    clear hi hz0 hz1 hz2 hbx hbz
    go_wp2
    go_ret2
    exact ⟨none, 0, 0, [], ao, n, ca, xs, rfl, ⟨rfl, by omega, by omega, nrm_nil, by rw [v1]; rfl, Rd.nil _ _⟩, ⟨hx, hc, Nat.le_refl _, nx, v2.symm, rx⟩, HB2⟩
  · have HI := dv_start hbx hbz hY (by omega) ((bx - bz) / 32 + 1)
    obtain ⟨N, hN⟩ : ∃ N, bx - bz = N := ⟨_, rfl⟩
    have eN : (bx : Int) - bz = (N : Int) := by omega
    have hN1 : N ≤ 32 * n := by omega
    rw [hN] at HI
    clear hbx hbz hN hlt l1 l2
    obtain ⟨K, hK⟩ : ∃ K, N / 32 = K := ⟨_, rfl⟩
    have eK : (N : Int) / 32 = (K : Int) := by omega
    rw [hK] at HI
    go_wp2_with (at_make; refine wpList_make_full _ rfl _ _ 71 rfl w2.heap.size 162 i0 (.int .u32 0) 1 Try.underlying71 hi hz0 hz1 _ _ _ _ (K + 1) rfl rfl (by omega) (by omega) (by rw [hz2]; omega) (by unfold maxLen; omega) (Nat.le_refl _) ?_)
    intro w3 hown hgrow
    have M0 : DvM w2 w3 w2.heap.size (List.replicate (K + 1) 0) ao n ca xs n := by
      rw [made_one] at hown
      refine ⟨(Below.refl _ _).grown hgrow (Nat.le_refl _) (by simp), ⟨(hown.lt _ rfl).2, fun j v hj => ?_⟩, hx, hc, Nat.le_refl _, nx, rx.below ((Below.refl _ _).grown hgrow (Nat.le_refl _) (by simp)) (Nat.le_refl _), ?_⟩
      · have hjl : j < K + 1 := by
          apply Decidable.byContradiction
          intro hn
          rw [List.getElem?_eq_none (by simp; omega)] at hj
          cases hj
        refine ⟨?_, hown.frozenAt j⟩
        rw [hown.cellAt j (by omega)]
        simpa using hj
      · rintro b off rfl hne
        obtain ⟨b', off', e, hb, _⟩ := rx 0 (List.length_pos_iff.2 hne)
        cases e
        omega
    have HBW : Below w.heap.size w w3 := HB2.trans (M0.below.mono HB2.size)
    clear hown hgrow hi hz0 hz1 hz2
    have hKn : K ≤ n := by omega
    go_wp2
    go_loopw [8, 9] (fun r i wr => ∃ (k : Nat) (ro : Option Addr) (rn rc : Nat) (rs qs : List Int), k ≤ N + 1 ∧ i = .int .i64 ((k : Int) - 1) ∧ r = .slice ro rn rc ∧ DvI (val xs) (val ys) qs (val rs) k (K + 1) ∧ DvM w2 wr w2.heap.size qs ro rn rc rs n) (fun _ i _ => (intOf i + 1).toNat)
    case atStart => exact ⟨N + 1, ao, n, ca, xs, _, Nat.le_refl _, by go_num, rfl, HI, M0⟩
    case round =>
      clear HI M0
      obtain ⟨k, ro, rn, rc, rs, qs, hk, rfl, rfl, hI, hM⟩ := hrel
      by_cases hk0 : 0 < k
      · obtain ⟨j, rfl⟩ : ∃ j, k = j + 1 := ⟨k - 1, by omega⟩
        rw [show (((j + 1 : Nat) : Int) - 1) = (j : Int) by omega]
        have ryr := ry.below hM.below (Nat.le_refl _)
        go_wp2_with fail
        refine (left_any bo m cb j ys _ hy ny.1 ryr (by omega) (by omega)).mono ?_
        rintro e w4 ⟨so, sn, sc, ss, rfl, k1, k2, k3, k4, k5, k6, hB⟩
        have hM4 := hM.step hB
        have e2 : val ss = 2 ^ j * val ys := by rw [k5, ← Int.mul_assoc, p2_pow]
        clear hM hB k5 ryr
        go_wp2_with fail
        refine (cmpAbs_any ro so rn sn rc sc rs ss _ hM4.rlen k1 hM4.rnrm k4 hM4.rrd k6 (by have := hM4.rle; omega) (by omega)).mono ?_
        rintro e w5 ⟨rfl, hB⟩
        have hM5 := hM4.step hB
        replace k6 := k6.below hB (Nat.le_refl _)
        clear hM4 hB
        by_cases hle : val rs < 2 ^ j * val ys
        · have hcm : decide (0 ≤ cmpI (val rs) (val ss)) = false := by rw [cmpI_lt (by rw [e2]; exact hle)]; decide
          have R1 := dv_skip hI (by omega) hle
          clear hI e2 k1 k2 k3 k4 k6
          generalize cmpI (val rs) (val ss) = cm at *
          go_wp2
          go_roundw
          case rel => exact ⟨j, ro, rn, rc, rs, qs, by omega, by go_num, rfl, R1, hM5⟩
          case measure => simp [intOf]
        · have hcm : 0 ≤ cmpI (val rs) (val ss) := by
            rcases Int.lt_trichotomy (val rs) (val ss) with h | h | h
            · rw [e2] at h; exact absurd h hle
            · rw [cmpI_eq h]; decide
            · rw [cmpI_gt h]; decide
          generalize cmpI (val rs) (val ss) = cm at *
          go_wp2_with fail
          refine (subAbs_at ro so rn sn rc sc rs ss _ hM5.rlen k1 hM5.rnrm.1 k4.1 hM5.rrd k6 (by have := hM5.rle; omega) (by omega) (by rw [e2]; omega)).mono ?_
          rintro e w6 ⟨⟨o6, c6, z6, rfl, d1, d2, d3, d4, d5, hB⟩, c6', he⟩
          simp only [Ending.returned.injEq, Value.slice.injEq, true_and] at he
          obtain ⟨rfl, rfl⟩ := he
          have hM6 := hM5.step hB
          have hg5 := hM5.q.lt
          clear hM5 hB k1 k2 k3 k4 k6 hcm
          go_wp2_with fail
          refine (trim_at false (some ⟨w5.heap.size, 0, none⟩) rn c6 z6 _ d1 d2 d3 d5 (by have := hM6.rle; omega)).mono ?_
          rintro e w7 ⟨⟨s7, o7, n7, c7, z7, rfl, t1, t2, t3, t4, t5, t6, t7, hB⟩, s8, o8, n8, c8, he, ho⟩
          simp only [Ending.returned.injEq, Value.agg.injEq, Array.mk.injEq, List.cons.injEq, Value.bool.injEq, Value.slice.injEq, and_true] at he
          obtain ⟨rfl, rfl, rfl, rfl⟩ := he
          have hM7 := hM6.step hB
          have hjl : j / 32 < qs.length := by rw [hI.len]; omega
          obtain ⟨R1, oq⟩ := dv_take hI hjl (by omega)
          have ev : val z7 = val rs - 2 ^ j * val ys := by rw [t5, d4, e2]
          rw [← ev] at R1
          have cq := hM7.q.c (j / 32) (v := .int .u32 qs[j / 32]) (by simp [hjl])
          have fq := hM7.q.f (j / 32) (v := .int .u32 qs[j / 32]) (by simp [hjl])
          have hNe : ∀ b off, o7 = some ⟨b, off, none⟩ → z7 ≠ [] → b ≠ w2.heap.size := by
            rintro b off e _
            rcases ho with ho | ho
            · rw [ho] at e; cases e; omega
            · rw [ho] at e; cases e
          have R2 : DvM w2 (w7.setCell ⟨w2.heap.size, j / 32, none⟩ (.int .u32 (qs[j / 32] + 2 ^ (j % 32)))) w2.heap.size (qs.set (j / 32) (qs[j / 32] + 2 ^ (j % 32))) o7 n7 c7 z7 n := by
            refine ⟨hM7.below.setCell (Nat.le_refl _) _, ?_, t1, t2, by have := hM7.rle; omega, t4, t7.setNe hNe _, hNe⟩
            have := hM7.q.setI (j / 32) (by simpa using hjl) (.int .u32 (qs[j / 32] + 2 ^ (j % 32)))
            rwa [← List.map_set] at this
          clear hM6 hM7 t1 t2 t3 t4 t5 t6 t7 d1 d2 d3 d4 d5 hB ho hNe ev hI e2
          have e3 : (j : Int) / 32 = ((j / 32 : Nat) : Int) := by omega
          have e4 : (j : Int) % 32 = ((j % 32 : Nat) : Int) := by omega
          have e5 : ((j / 32 : Nat) : Int) < (K : Int) + 1 := by omega
          have fd := field_d (.bool s7) (.slice o7 n7 c7)
          have e6 : (2 : Int) ^ (j % 32) % 4294967296 = 2 ^ (j % 32) := by
            have h31 := ipow2_mono (show j % 32 ≤ 31 by omega)
            have hp := ipow_pos (j % 32)
            have : (2 : Int) ^ 31 = 2147483648 := by decide
            omega
          generalize hjq : j / 32 = jq at *
          generalize hjr : j % 32 = jr at *
          go_wp2
          go_roundw
          case rel =>
            exact ⟨j, o7, n7, c7, z7, _, by omega, rfl, rfl, R1, R2⟩
          case measure => simp [intOf]
      · obtain rfl : k = 0 := by omega
        obtain ⟨v1, v2⟩ := dv_end hI hY
        have hq := hM.q
        have rq : Rd wr (some ⟨w2.heap.size, 0, none⟩) qs := fun i hi => ⟨w2.heap.size, 0, rfl, hq.lt, by rw [Nat.zero_add]; exact hq.c i (by simp [hi])⟩
        have hlq := hI.len
        have hdq := hI.dig
        clear hI hq
        go_wp2_with fail
        refine (trim_at false (some ⟨w2.heap.size, 0, none⟩) (K + 1) (K + 1) qs _ hlq (Nat.le_refl _) hdq rq (by omega)).mono ?_
        rintro e w7 ⟨⟨s7, o7, n7, c7, z7, rfl, t1, t2, t3, t4, t5, t6, t7, hB⟩, _⟩
        have hM7 := hM.step hB
        have HBE : Below w.heap.size w w7 := HB2.trans (hM7.below.mono HB2.size)
        clear hM hB
        have fd := field_d (.bool s7) (.slice o7 n7 c7)
        clear t6
        go_wp2
        go_ret2
        exact ⟨o7, n7, c7, z7, ro, rn, rc, rs, rfl, ⟨t1, t2, by omega, t4, by rw [t5]; exact v1, t7⟩, ⟨hM7.rlen, hM7.rcap, hM7.rle, hM7.rnrm, v2, hM7.rrd⟩, HBE⟩
end Go.Proofs.Ytggfhpnflknhdaa

/- The walk of the model's greatest common divisor. -/
namespace Go.Proofs.Ytggfhpnflknhdaa
open Go.RowKit
/-- The digits that lie behind a slice. -/
def digsOf (w : World) : Value → List Int
  | .slice (some a) n _ => (List.range n).map fun i => match w.cell? ⟨a.block, a.off + i, none⟩ with | some v => intOf v | none => 0
  | _ => []
theorem digs_of {w : World} {ao : Option Addr} {n cap : Nat} {ds : List Int} (h : Rd w ao ds) (hl : ds.length = n) : digsOf w (.slice ao n cap) = ds := by
  by_cases h0 : n = 0
  · subst h0
    have : ds = [] := List.eq_nil_of_length_eq_zero hl
    subst this
    cases ao <;> simp [digsOf]
  · obtain ⟨b, off, rfl, _, _⟩ := h 0 (by omega)
    simp only [digsOf]
    apply List.ext_getElem
    · simp [hl]
    · intro i h1 h2
      obtain ⟨b', off', e, _, hc⟩ := h i h2
      cases e
      simp [hc, intOf]
structure GdI (W wr : World) (xo : Option Addr) (xn xc : Nat) (xs : List Int) (yo : Option Addr) (yn yc : Nat) (ys : List Int) (k G : Nat) : Prop where
  below : Below W.heap.size W wr
  xlen : xs.length = xn
  xcap : xn ≤ xc
  xle : xn ≤ k
  xnrm : Nrm xs
  xrd : Rd wr xo xs
  ylen : ys.length = yn
  ycap : yn ≤ yc
  yle : yn ≤ k
  ynrm : Nrm ys
  yrd : Rd wr yo ys
  gcd : Int.gcd (val xs) (val ys) = G
theorem gcd_step {x y : Int} (hx : 0 ≤ x) (hy : 0 < y) : Int.gcd y (x % y) = Int.gcd x y := by
  obtain ⟨a, rfl⟩ := Int.eq_ofNat_of_zero_le hx
  obtain ⟨b, rfl⟩ := Int.eq_ofNat_of_zero_le (show 0 ≤ y by omega)
  rw [show ((a : Int) % (b : Int)) = ((a % b : Nat) : Int) from (Int.natCast_emod a b).symm, Int.gcd_natCast_natCast, Int.gcd_natCast_natCast, Nat.gcd_comm a b, Nat.gcd_rec b a, Nat.gcd_comm]
set_option maxRecDepth 100000 in
set_option maxHeartbeats 2000000 in
theorem gcd_any (s t : Bool) (ao bo : Option Addr) (n m ca cb k : Nat) (xs ys : List Int) (x y : Int) (w : World) (hx : IsNum w s ao n ca xs x k) (hy : IsNum w t bo m cb ys y k) (hk : k ≤ 9000) :
    Calls Try.prog 100 #[.agg #[.bool s, .slice ao n ca], .agg #[.bool t, .slice bo m cb]] w (NumP k (Int.gcd x y : Int) w) := by
  have T0 := two_start w (.bool s) (.slice ao n ca) (.bool t) (.slice bo m cb)
  have HX := hx.below T0.below
  have HY := hy.below T0.below
  have G0 : Int.gcd (val xs) (val ys) = Int.gcd x y := by rw [hx.val, hy.val]; simp [Int.gcd]
  clear hx hy
  go_enter Try.func100, Try.ntmps100
  go_upto_region 1 with fail
  generalize ((w.alloc (Obj.cells #[Value.bool s, Value.slice ao n ca] 73)).alloc (Obj.cells #[Value.bool t, Value.slice bo m cb] 73)).alloc (Obj.cells #[Value.bool false, Value.slice none 0 0] 73) = W at *
  have q1 := T0.a1; have q3 := T0.b1
  have I0 : GdI W W ao n ca xs bo m cb ys k (Int.gcd x y) := ⟨Below.refl _ _, HX.len, HX.cap, HX.le, HX.nrm, HX.rd, HY.len, HY.cap, HY.le, HY.nrm, HY.rd, G0⟩
  clear HX HY G0
  have hsz := T0.sz
  go_wp2
  go_loopw [5, 6] (fun u v wr => ∃ (xo : Option Addr) (xn xc : Nat) (xs : List Int) (yo : Option Addr) (yn yc : Nat) (ys : List Int), u = .slice xo xn xc ∧ v = .slice yo yn yc ∧ GdI W wr xo xn xc xs yo yn yc ys k (Int.gcd x y)) (fun _ v wr => (val (digsOf wr v)).toNat)
  case atStart => exact ⟨ao, n, ca, xs, bo, m, cb, ys, rfl, rfl, I0⟩
  case round =>
    clear I0
    obtain ⟨xo, xn, xc, xs, yo, yn, yc, ys, rfl, rfl, I0⟩ := hrel
    by_cases hy0 : 0 < yn
    · have i1 : (0 : Int) < (yn : Int) := by omega
      have hyp := nrm_pos I0.ynrm (by intro e; have := I0.ylen; rw [e] at this; simp at this; omega)
      have hd := digs_of (cap := yc) I0.yrd I0.ylen
      go_wp2_with fail
      refine (divAbs_any xo yo xn yn xc yc xs ys _ I0.xlen I0.ylen I0.xnrm I0.ynrm I0.xrd I0.yrd I0.xcap (by have := I0.xle; omega) (by have := I0.yle; omega) (by omega)).mono ?_
      rintro e w4 ⟨qo, qn, qc, qs, ro, rn, rc, rs, rfl, -, ⟨r1, r2, r3, r4, r5, r6⟩, hB⟩
      have I1 : GdI W w4 yo yn yc ys ro rn rc rs k (Int.gcd x y) := ⟨I0.below.trans (hB.mono I0.below.size), I0.ylen, I0.ycap, I0.yle, I0.ynrm, I0.yrd.below hB (Nat.le_refl _), r1, r2, by have := I0.xle; omega, r4, r6, by rw [r5, gcd_step (val_nonneg I0.xnrm.1) (by omega)]; exact I0.gcd⟩
      have hlt : (val rs).toNat < (val ys).toNat := by
        have h1 := Int.emod_lt_of_pos (val xs) (show 0 < val ys by omega)
        have h2 := Int.emod_nonneg (val xs) (show val ys ≠ 0 by omega)
        rw [r5]
        omega
      have hd2 := digs_of (cap := rc) r6 r1
      clear I0 hB r1 r2 r3 r4 r5 r6
      go_wp2
      go_roundw
      case rel => exact ⟨yo, yn, yc, ys, ro, rn, rc, rs, rfl, rfl, I1⟩
      case measure => rw [hd, hd2]; exact hlt
    · obtain rfl : yn = 0 := by omega
      have hys : ys = [] := List.eq_nil_of_length_eq_zero I0.ylen
      have hG : val xs = ((Int.gcd x y : Int).natAbs : Int) := by
        rw [← I0.gcd, hys]
        have := val_nonneg I0.xnrm.1
        simp [val, Int.gcd]
        omega
      have T1 := T0.step I0.below
      have hxk := I0.xle
      clear q1 q3
      go_wp2_with fail
      refine (trim_any false xo xn xc xs _ I0.xlen I0.xcap I0.xnrm.1 I0.xrd (by omega)).mono ?_
      rintro e w3 ⟨neg', ao', n', cap', ds', rfl, k1, k2, k3, k4, k5, k6, k7, k8⟩
      have T2 := T1.step k8
      have HN := num_of (z := (Int.gcd x y : Int)) (k := k) k1 k2 (by omega) k4 (k5.trans hG) (k6.trans (by rw [hG])) k7 rfl (by intro _; simp)
      have c0 := T2.r0; have c1 := T2.r1; have f0 := T2.f0; have f1 := T2.f1
      have HB := T2.below
      clear k1 k2 k3 k4 k5 k6 k7 k8 T1 T2 I0
      go_wp2
      refine bodyPost_ret (v := .agg #[.bool neg', .slice ao' n' cap']) (by simp [results, Try.results100, go_sem, c0, c1]) rfl ?_
      exact num_ret (by omega) c0 c1 HN HB
end Go.Proofs.Ytggfhpnflknhdaa

/- The walk of the model's common divisor of two numbers of four words. -/
namespace Go.Proofs.Ytggfhpnflknhdaa
open Go.RowKit
end Go.Proofs.Ytggfhpnflknhdaa

/- Fractions: whether one is right. -/
namespace Go.Proofs.Ytggfhpnflknhdaa
open Go.RowKit
/-- Two numbers as they lie in memory, side by side. -/
def TwoNP (x y : Int) (w : World) (e : Ending) (w' : World) : Prop :=
  ∃ (s : Bool) (ao : Option Addr) (n cap : Nat) (ds : List Int) (t : Bool) (bo : Option Addr) (m c : Nat) (es : List Int), e = .returned (.agg #[.bool s, .slice ao n cap, .bool t, .slice bo m c]) ∧ IsNum w' s ao n cap ds x 8 ∧ IsNum w' t bo m c es y 8 ∧ Below w.heap.size w w'
theorem IsNum.set {w : World} {s : Bool} {ao : Option Addr} {n cap : Nat} {ds : List Int} {z : Int} {k : Nat} (h : IsNum w s ao n cap ds z k) {p : Addr} {v : Value} (h0 : w.cell? p = some v) (hv : ∀ i, v ≠ .int .u32 i) (u : Value) : IsNum (w.setCell p u) s ao n cap ds z k :=
  ⟨h.neg, h.len, h.cap, h.rd.set u h0 hv, h.nrm, h.val, h.le⟩
theorem TwoNP.drew {x y : Int} {w w' : World} {e : Ending} (h : TwoNP x y w e w') : TwoNP x y w e w'.drew := by
  obtain ⟨s, ao, n, cap, ds, t, bo, m, c, es, he, N1, N2, hB⟩ := h
  exact ⟨s, ao, n, cap, ds, t, bo, m, c, es, he, ⟨N1.neg, N1.len, N1.cap, N1.rd, N1.nrm, N1.val, N1.le⟩, ⟨N2.neg, N2.len, N2.cap, N2.rd, N2.nrm, N2.val, N2.le⟩, hB.drew⟩
end Go.Proofs.Ytggfhpnflknhdaa

/- Fractions in their order: the program's walks. -/
namespace Go.Proofs.Ytggfhpnflknhdaa
open Go.RowKit
end Go.Proofs.Ytggfhpnflknhdaa

/- The words of a number, as its bits lie. -/
namespace Go.Proofs.Ytggfhpnflknhdaa
open Go.RowKit
/-- The words of a number, as its bits lie. -/
def ww0 (z : Int) : Int := z % 18446744073709551616
def ww1 (z : Int) : Int := z / 18446744073709551616 % 18446744073709551616
def ww2 (z : Int) : Int := z / 340282366920938463463374607431768211456 % 18446744073709551616
def ww3 (z : Int) : Int := z / 6277101735386680763835789423207666416102355444464034512896 % 18446744073709551616
theorem wd_of {a3 a2 a1 a0 z : Int} (h3 : Word a3) (h2 : Word a2) (h1 : Word a1) (h0 : Word a0) (h : sw a3 a2 a1 a0 = z) : a3 = ww3 z ∧ a2 = ww2 z ∧ a1 = ww1 z ∧ a0 = ww0 z := by
  unfold Word sw uw ww3 ww2 ww1 ww0 at *
  split at h <;> omega
abbrev W4 (z : Int) : Value := .agg #[.int .u64 (ww3 z), .int .u64 (ww2 z), .int .u64 (ww1 z), .int .u64 (ww0 z)]
def VP (v : Value) (w : World) (e : Ending) (w' : World) : Prop := e = .returned v ∧ Below w.heap.size w w'
end Go.Proofs.Ytggfhpnflknhdaa

/- The quotient and the rest of numbers with signs: the reckoning. -/
namespace Go.Proofs.Ytggfhpnflknhdaa
open Go.RowKit
theorem div_unique {x y q r : Int} (hy : y ≠ 0) (he : x = q * y + r) (h0 : 0 ≤ r) (h1 : r < (y.natAbs : Int)) : x / y = q ∧ x % y = r := by
  have hm : x % y = r := by
    rw [he, Int.add_comm, Int.add_mul_emod_self_right]
    rcases Int.lt_or_gt_of_ne hy with h | h
    · rw [← Int.emod_neg]
      exact Int.emod_eq_of_lt h0 (by omega)
    · exact Int.emod_eq_of_lt h0 (by omega)
  refine ⟨?_, hm⟩
  have e := Int.emod_add_mul_ediv x y
  rw [hm] at e
  have e2 : y * (x / y) = y * q := by rw [Int.mul_comm y q]; omega
  exact Int.eq_of_mul_eq_mul_left hy e2
/-- By the sizes without signs. -/
theorem div_parts (x y : Int) (hy : y ≠ 0) : ∃ Q R : Int, (x.natAbs : Int) / (y.natAbs : Int) = Q ∧ (x.natAbs : Int) % (y.natAbs : Int) = R ∧ 0 ≤ Q ∧ 0 ≤ R ∧ R < (y.natAbs : Int) ∧ (x.natAbs : Int) = Q * (y.natAbs : Int) + R := by
  have hp : (0 : Int) < (y.natAbs : Int) := by omega
  refine ⟨_, _, rfl, rfl, Int.ediv_nonneg (by omega) (by omega), Int.emod_nonneg _ (by omega), Int.emod_lt_of_pos _ hp, ?_⟩
  have := Int.emod_add_mul_ediv (x.natAbs : Int) (y.natAbs : Int)
  rw [Int.mul_comm] at this
  omega
theorem div_signs {x y Q R : Int} (hy : y ≠ 0) (h0 : 0 ≤ R) (h1 : R < (y.natAbs : Int)) (he : (x.natAbs : Int) = Q * (y.natAbs : Int) + R) :
    (0 ≤ x → 0 < y → x / y = Q ∧ x % y = R) ∧ (0 ≤ x → y < 0 → x / y = -Q ∧ x % y = R) ∧ (x < 0 → R = 0 → 0 < y → x / y = -Q ∧ x % y = 0) ∧ (x < 0 → R = 0 → y < 0 → x / y = Q ∧ x % y = 0) ∧
    (x < 0 → 0 < R → 0 < y → x / y = -Q - 1 ∧ x % y = -R + y) ∧ (x < 0 → 0 < R → y < 0 → x / y = Q + 1 ∧ x % y = -R - y) := by
  refine ⟨?_, ?_, ?_, ?_, ?_, ?_⟩
  · intro hx hp
    rw [show (x.natAbs : Int) = x by omega, show (y.natAbs : Int) = y by omega] at he
    exact div_unique hy he h0 h1
  · intro hx hp
    rw [show (x.natAbs : Int) = x by omega, show (y.natAbs : Int) = -y by omega] at he
    exact div_unique hy (by rw [he, Int.neg_mul, Int.mul_neg]) h0 h1
  · intro hx hR hp
    rw [show (x.natAbs : Int) = -x by omega, show (y.natAbs : Int) = y by omega] at he
    exact div_unique hy (by rw [Int.neg_mul]; omega) (by omega) (by omega)
  · intro hx hR hp
    rw [show (x.natAbs : Int) = -x by omega, show (y.natAbs : Int) = -y by omega, Int.mul_neg] at he
    exact div_unique hy (by omega) (by omega) (by omega)
  · intro hx hR hp
    rw [show (x.natAbs : Int) = -x by omega, show (y.natAbs : Int) = y by omega] at he
    exact div_unique hy (by rw [Int.sub_mul, Int.neg_mul]; omega) (by omega) (by omega)
  · intro hx hR hp
    rw [show (x.natAbs : Int) = -x by omega, show (y.natAbs : Int) = -y by omega, Int.mul_neg] at he
    exact div_unique hy (by rw [Int.add_mul]; omega) (by omega) (by omega)
end Go.Proofs.Ytggfhpnflknhdaa

/- Quotients with their signs: the reckoning, and the walks of the pieces. -/
namespace Go.Proofs.Ytggfhpnflknhdaa
open Go.RowKit
end Go.Proofs.Ytggfhpnflknhdaa

/- The program's quotient of two numbers of four words: what lies in memory around the division. -/
namespace Go.Proofs.Ytggfhpnflknhdaa
open Go.RowKit
end Go.Proofs.Ytggfhpnflknhdaa

/- Sums of numbers of eight words, and that words tell a number. -/
namespace Go.Proofs.Ytggfhpnflknhdaa
open Go.RowKit
end Go.Proofs.Ytggfhpnflknhdaa

/- The walk of the program's quotient and rest of two numbers of four words. -/
namespace Go.Proofs.Ytggfhpnflknhdaa
open Go.RowKit
end Go.Proofs.Ytggfhpnflknhdaa

/- Two rows of four values, and a flag, laid behind the arguments. -/
namespace Go.Proofs.Ytggfhpnflknhdaa
open Go.RowKit
def CutY (w wx : World) (vss : List (List Value)) (xs ys : List Value) (b : Bool) (p q r : Value) : Prop :=
  ∃ g g', p = (.pointer (some ⟨g, 0, none⟩)) ∧ q = (.pointer (some ⟨g', 0, none⟩)) ∧ r = .bool b ∧ g ≠ g' ∧ w.heap.size + vss.length ≤ g ∧ w.heap.size + vss.length ≤ g' ∧ ArgsB w wx vss ∧ Blk wx g xs ∧ Blk wx g' ys
theorem CutY.drew {w wx : World} {vss : List (List Value)} {xs ys : List Value} {b : Bool} {p q r : Value} (h : CutY w wx vss xs ys b p q r) : CutY w wx.drew vss xs ys b p q r := by
  obtain ⟨g, g', e, f, i, n, l, l', A, B, C⟩ := h
  exact ⟨g, g', e, f, i, n, l, l', A.drew, B.drew, C.drew⟩
end Go.Proofs.Ytggfhpnflknhdaa

/- Rows of eight values laid behind the arguments. -/
namespace Go.Proofs.Ytggfhpnflknhdaa
open Go.RowKit
end Go.Proofs.Ytggfhpnflknhdaa

/- The walk of what a long is when it is divided by a divisor of it, told as four words. -/
namespace Go.Proofs.Ytggfhpnflknhdaa
open Go.RowKit
/-- What is told of a quotient with its sign. -/
def shareZ (x d : Int) (b : Bool) : Int := if decide (x < 0) != b then -((x.natAbs : Int) / d) else (x.natAbs : Int) / d
end Go.Proofs.Ytggfhpnflknhdaa

/- A spot as a point: the walks of the model's numbers. -/
namespace Go.Proofs.Ytggfhpnflknhdaa
open Go.RowKit
theorem implOf_det (n : Int) (w : World) (h0 : -9223372036854775808 ≤ n) (h1 : n ≤ 9223372036854775807) : Calls Try.prog 128 #[.int .i64 n] w (VP (W4 n) w) := by
  refine (implOf_any n w h0 h1).mono ?_
  rintro e w' ⟨a3, a2, a1, a0, rfl, g3, g2, g1, g0, hs, hB⟩
  obtain ⟨rfl, rfl, rfl, rfl⟩ := wd_of g3 g2 g1 g0 hs
  exact ⟨rfl, hB⟩
theorem toWp_det (s : Bool) (ao : Option Addr) (n cap : Nat) (ds : List Int) (z : Int) (k : Nat) (w : World) (h : IsNum w s ao n cap ds z k) (hk : k ≤ 1000000) (ht : told z = true) :
    Calls Try.prog 80 #[.agg #[.bool s, .slice ao n cap]] w (VP (.tuple #[W4 z, .bool true]) w) := by
  refine (toW_any s ao n cap ds z k w h hk).mono ?_
  rintro e w' ⟨hB, ⟨_, a3, a2, a1, a0, rfl, g3, g2, g1, g0, hs⟩ | ⟨hf, _⟩⟩
  · obtain ⟨rfl, rfl, rfl, rfl⟩ := wd_of g3 g2 g1 g0 hs
    exact ⟨rfl, hB⟩
  · rw [ht] at hf; cases hf
/-- Three numbers, side by side. -/
def L3P (k : Nat) (x y z : Int) (w : World) (e : Ending) (w' : World) : Prop :=
  ∃ (s1 : Bool) (o1 : Option Addr) (n1 c1 : Nat) (d1 : List Int) (s2 : Bool) (o2 : Option Addr) (n2 c2 : Nat) (d2 : List Int) (s3 : Bool) (o3 : Option Addr) (n3 c3 : Nat) (d3 : List Int), e = .returned (.agg #[.bool s1, .slice o1 n1 c1, .bool s2, .slice o2 n2 c2, .bool s3, .slice o3 n3 c3]) ∧ IsNum w' s1 o1 n1 c1 d1 x k ∧ IsNum w' s2 o2 n2 c2 d2 y k ∧ IsNum w' s3 o3 n3 c3 d3 z k ∧ Below w.heap.size w w'
theorem IsNum.setp {w : World} {s : Bool} {ao : Option Addr} {n cap : Nat} {ds : List Int} {z : Int} {k : Nat} (h : IsNum w s ao n cap ds z k) {p : Addr} {v : Value} (u : Value) (hp : w.cell? p = some v) (hv : ∀ x, v ≠ .int .u32 x) : IsNum (w.setCell p u) s ao n cap ds z k :=
  h.set hp hv u
theorem num_set6 {w : World} {s : Bool} {ao : Option Addr} {n cap : Nat} {ds : List Int} {z : Int} {k R : Nat} (h : IsNum w s ao n cap ds z k) (B : Blk w R [.bool false, .slice none 0 0, .bool false, .slice none 0 0, .bool false, .slice none 0 0]) (v0 v1 v2 v3 v4 v5 : Value) : IsNum ((((((w.setCell ⟨R, 0, none⟩ v0).setCell ⟨R, 1, none⟩ v1).setCell ⟨R, 2, none⟩ v2).setCell ⟨R, 3, none⟩ v3).setCell ⟨R, 4, none⟩ v4).setCell ⟨R, 5, none⟩ v5) s ao n cap ds z k := by
  have h1 := h.setp v0 (B.c 0 rfl) (by intro x e; cases e)
  have B1 := B.setI 0 (by simp) v0
  have h2 := h1.setp v1 (B1.c 1 rfl) (by intro x e; cases e)
  have B2 := B1.setI 1 (by simp) v1
  have h3 := h2.setp v2 (B2.c 2 rfl) (by intro x e; cases e)
  have B3 := B2.setI 2 (by simp) v2
  have h4 := h3.setp v3 (B3.c 3 rfl) (by intro x e; cases e)
  have B4 := B3.setI 3 (by simp) v3
  have h5 := h4.setp v4 (B4.c 4 rfl) (by intro x e; cases e)
  have B5 := B4.setI 4 (by simp) v4
  have h6 := h5.setp v5 (B5.c 5 rfl) (by intro x e; cases e)
  have B6 := B5.setI 5 (by simp) v5
  exact h6
theorem l3_cells {x y : Int} {w W : World} (h : ArgsB w W [[.int .i64 x, .int .i64 y], [.bool false, .slice none 0 0, .bool false, .slice none 0 0, .bool false, .slice none 0 0]]) : (fun w' => w'.cell? ⟨w.heap.size, 0, none⟩ = some (.int .i64 x) ∧ w'.cell? ⟨w.heap.size, 1, none⟩ = some (.int .i64 y)) W := ⟨(h.b 0 rfl).c 0 rfl, (h.b 0 rfl).c 1 rfl⟩
theorem l3_cells6 {x y : Int} {w W : World} {v0 v1 v2 v3 v4 v5 : Value} (h : ArgsB w W [[.int .i64 x, .int .i64 y], [.bool false, .slice none 0 0, .bool false, .slice none 0 0, .bool false, .slice none 0 0]]) : (fun w' => w'.cell? ⟨w.heap.size, 0, none⟩ = some (.int .i64 x) ∧ w'.cell? ⟨w.heap.size, 1, none⟩ = some (.int .i64 y)) ((((((W.setCell ⟨w.heap.size + 1, 0, none⟩ v0).setCell ⟨w.heap.size + 1, 1, none⟩ v1).setCell ⟨w.heap.size + 1, 2, none⟩ v2).setCell ⟨w.heap.size + 1, 3, none⟩ v3).setCell ⟨w.heap.size + 1, 4, none⟩ v4).setCell ⟨w.heap.size + 1, 5, none⟩ v5) := by
  have a : Blk _ (w.heap.size + 0) _ := (((((((h.b 0 rfl).setO (p := ⟨w.heap.size + 1, 0, none⟩) (by show w.heap.size + 0 ≠ w.heap.size + 1; omega) v0).setO (p := ⟨w.heap.size + 1, 1, none⟩) (by show w.heap.size + 0 ≠ w.heap.size + 1; omega) v1).setO (p := ⟨w.heap.size + 1, 2, none⟩) (by show w.heap.size + 0 ≠ w.heap.size + 1; omega) v2).setO (p := ⟨w.heap.size + 1, 3, none⟩) (by show w.heap.size + 0 ≠ w.heap.size + 1; omega) v3).setO (p := ⟨w.heap.size + 1, 4, none⟩) (by show w.heap.size + 0 ≠ w.heap.size + 1; omega) v4).setO (p := ⟨w.heap.size + 1, 5, none⟩) (by show w.heap.size + 0 ≠ w.heap.size + 1; omega) v5)
  exact ⟨a.c 0 rfl, a.c 1 rfl⟩
theorem l3_start (x y : Int) (w : World) : ArgsB w ((w.alloc (.cells #[.int .i64 x, .int .i64 y] 33)).alloc (.cells #[.bool false, .slice none 0 0, .bool false, .slice none 0 0, .bool false, .slice none 0 0] 75)) [[.int .i64 x, .int .i64 y], [.bool false, .slice none 0 0, .bool false, .slice none 0 0, .bool false, .slice none 0 0]] := by
  refine ⟨((Below.refl _ _).alloc (Nat.le_refl _) _).alloc (by simp) _, fun j vs hj => ?_⟩
  match j, hj with
  | 0, hj => cases hj; exact (Blk.new w [.int .i64 x, .int .i64 y] 33 rfl).alloc _
  | 1, hj => cases hj; exact Blk.new (w.alloc (.cells #[.int .i64 x, .int .i64 y] 33)) [.bool false, .slice none 0 0, .bool false, .slice none 0 0, .bool false, .slice none 0 0] 75 (by simp)
  | j + 2, hj => simp at hj
set_option maxRecDepth 100000 in
set_option maxHeartbeats 2000000 in
theorem l3Spot_any (x y : Int) (hx0 : -9223372036854775808 ≤ x) (hx1 : x ≤ 9223372036854775807) (hy0 : -9223372036854775808 ≤ y) (hy1 : y ≤ 9223372036854775807) (w : World) :
    Calls Try.prog 74 #[.agg #[.int .i64 x, .int .i64 y]] w (L3P 2 x y 1 w) := by
  have T0 := l3_start x y w
  have tok1 : True := trivial
  have tok2 : True := trivial
  go_enter Try.func74, Try.ntmps74
  go_upto_region 1 with fail
  generalize ((w.alloc (.cells #[.int .i64 x, .int .i64 y] 33)).alloc (.cells #[.bool false, .slice none 0 0, .bool false, .slice none 0 0, .bool false, .slice none 0 0] 75)) = W at *
  go_region_held3 (fun w' => w'.cell? ⟨w.heap.size, 0, none⟩ = some (.int .i64 x) ∧ w'.cell? ⟨w.heap.size, 1, none⟩ = some (.int .i64 y)) (first | (with_reducible exact l3_cells T0) | (with_reducible exact l3_cells T0.drew) | (with_reducible exact l3_cells6 T0))
    (first
      | (go_at_call 75; have _t := tok1; refine (int_any x _ hx0 hx1).mono ?_; rintro e w1 ⟨s1, o1, n1, c1, d1, rfl, N1, hB⟩; (first | (have T1 := T0.step hB) | (have T1 := T0.drew.step hB)); clear T0; have T0 := T1; clear T1; clear tok1 _t hB)
      | (go_at_call 75; have _t := tok2; refine (int_any y _ hy0 hy1).mono ?_; rintro e w2 ⟨s2, o2, n2, c2, d2, rfl, N2, hB⟩; replace N1 := N1.below hB; (first | (have T1 := T0.step hB) | (have T1 := T0.drew.step hB)); clear T0; have T0 := T1; clear T1; clear tok2 _t hB)
      | (go_at_call 75; refine (int_any 1 _ (by decide) (by decide)).mono ?_; rintro e w3 ⟨s3, o3, n3, c3, d3, rfl, N3, hB⟩; replace N1 := N1.below hB; replace N2 := N2.below hB; (first | (have T1 := T0.step hB) | (have T1 := T0.drew.step hB)); clear T0; have T0 := T1; clear T1; have r0 := (T0.b 1 rfl).c 0 rfl; have f0 := (T0.b 1 rfl).f 0 rfl; have r1 := (T0.b 1 rfl).c 1 rfl; have f1 := (T0.b 1 rfl).f 1 rfl; have r2 := (T0.b 1 rfl).c 2 rfl; have f2 := (T0.b 1 rfl).f 2 rfl; have r3 := (T0.b 1 rfl).c 3 rfl; have f3 := (T0.b 1 rfl).f 3 rfl; have r4 := (T0.b 1 rfl).c 4 rfl; have f4 := (T0.b 1 rfl).f 4 rfl; have r5 := (T0.b 1 rfl).c 5 rfl; have f5 := (T0.b 1 rfl).f 5 rfl; have rlt := (T0.b 1 rfl).lt; clear hB))
  all_goals have HB := T0.below
  all_goals have M1 := num_set6 N1 (T0.b 1 rfl) (.bool s1) (.slice o1 n1 c1) (.bool s2) (.slice o2 n2 c2) (.bool s3) (.slice o3 n3 c3)
  all_goals have M2 := num_set6 N2 (T0.b 1 rfl) (.bool s1) (.slice o1 n1 c1) (.bool s2) (.slice o2 n2 c2) (.bool s3) (.slice o3 n3 c3)
  all_goals have M3 := num_set6 N3 (T0.b 1 rfl) (.bool s1) (.slice o1 n1 c1) (.bool s2) (.slice o2 n2 c2) (.bool s3) (.slice o3 n3 c3)
  all_goals clear T0 N1 N2 N3
  all_goals go_wp2
  all_goals refine bodyPost_ret (v := .agg #[.bool s1, .slice o1 n1 c1, .bool s2, .slice o2 n2 c2, .bool s3, .slice o3 n3 c3]) (by simp [results, Try.results74, go_sem, r0, r1, r2, r3, r4, r5]) rfl ?_
  all_goals refine ⟨s1, o1, n1, c1, d1, s2, o2, n2, c2, d2, s3, o3, n3, c3, d3, rfl, M1, M2, M3, ?_⟩
  all_goals repeat' (refine Below.setCell ?_ (by simp) _)
  all_goals exact HB
end Go.Proofs.Ytggfhpnflknhdaa

/- A spot as a point: the walks of the model's point of numbers. -/
namespace Go.Proofs.Ytggfhpnflknhdaa
open Go.RowKit
theorem ret_bool {a b : Bool} (h : b = a) : Ending.returned (.bool a) = .returned (.bool b) := by rw [h]
def small (z : Int) : Bool := decide ((z.natAbs : Int) < 1208925819614629174706176)
theorem bits_small {v : Int} {b : Nat} (h : BitsOf v b) : b ≤ 80 ↔ v < 1208925819614629174706176 := by
  obtain ⟨h0, h1, h2⟩ := h
  have e : (2 : Int) ^ 80 = 1208925819614629174706176 := by decide
  constructor
  · intro hb
    have := ipow2_mono hb
    omega
  · intro hv
    apply Decidable.byContradiction
    intro hb
    rcases h2 with h2 | h2
    · omega
    · have := ipow2_mono (show 80 ≤ b - 1 by omega)
      omega
set_option maxRecDepth 100000 in
set_option maxHeartbeats 2000000 in
theorem l3Small_any (s1 : Bool) (o1 : Option Addr) (n1 c1 : Nat) (d1 : List Int) (s2 : Bool) (o2 : Option Addr) (n2 c2 : Nat) (d2 : List Int) (s3 : Bool) (o3 : Option Addr) (n3 c3 : Nat) (d3 : List Int) (x y z : Int) (k : Nat) (hk : k ≤ 100000) (w : World) (N1 : IsNum w s1 o1 n1 c1 d1 x k) (N2 : IsNum w s2 o2 n2 c2 d2 y k) (N3 : IsNum w s3 o3 n3 c3 d3 z k) :
    Calls Try.prog 79 #[.agg #[.bool s1, .slice o1 n1 c1, .bool s2, .slice o2 n2 c2, .bool s3, .slice o3 n3 c3]] w (BoolP (small x && small y && small z) w) := by
  have B0 := Blk.new w [.bool s1, .slice o1 n1 c1, .bool s2, .slice o2 n2 c2, .bool s3, .slice o3 n3 c3] 75 rfl
  have HB0 : Below w.heap.size w (w.alloc (.cells #[.bool s1, .slice o1 n1 c1, .bool s2, .slice o2 n2 c2, .bool s3, .slice o3 n3 c3] 75)) := (Below.refl _ _).alloc (Nat.le_refl _) _
  replace N1 := N1.below HB0
  replace N2 := N2.below HB0
  replace N3 := N3.below HB0
  by_cases h1 : small x = true
  · by_cases h2 : small y = true
    · by_cases h3 : small z = true
      · go_enter Try.func79, Try.ntmps79
        go_wp2_with fail
        refine (bits_any o1 n1 c1 d1 _ N1.len N1.nrm N1.rd (by have := N1.le; omega)).mono ?_
        rintro e w1 ⟨b1, rfl, hb1, hB⟩
        rw [N1.val] at hb1
        have q1 : (b1 : Int) ≤ 80 := by have := bits_small hb1; have := h1; unfold small at this; simp at this ⊢; omega
        have HB1 : Below w.heap.size w w1 := HB0.trans (hB.mono HB0.size)
        replace B0 := B0.step hB
        replace N1 := N1.below hB
        replace N2 := N2.below hB
        replace N3 := N3.below hB
        clear hB hb1
        have e0 := B0.c 0 rfl; have e1 := B0.c 1 rfl; have e2 := B0.c 2 rfl; have e3 := B0.c 3 rfl; have e4 := B0.c 4 rfl; have e5 := B0.c 5 rfl; have elt := B0.lt
        go_wp2_with fail
        refine (bits_any o2 n2 c2 d2 _ N2.len N2.nrm N2.rd (by have := N2.le; omega)).mono ?_
        rintro e w2 ⟨b2, rfl, hb2, hB⟩
        rw [N2.val] at hb2
        have q2 : (b2 : Int) ≤ 80 := by have := bits_small hb2; have := h2; unfold small at this; simp at this ⊢; omega
        have HB2 : Below w.heap.size w w2 := HB1.trans (hB.mono HB1.size)
        replace B0 := B0.step hB
        replace N1 := N1.below hB
        replace N2 := N2.below hB
        replace N3 := N3.below hB
        clear e0 e1 e2 e3 e4 e5 elt
        clear hB hb2
        have e0 := B0.c 0 rfl; have e1 := B0.c 1 rfl; have e2 := B0.c 2 rfl; have e3 := B0.c 3 rfl; have e4 := B0.c 4 rfl; have e5 := B0.c 5 rfl; have elt := B0.lt
        go_wp2_with fail
        refine (bits_any o3 n3 c3 d3 _ N3.len N3.nrm N3.rd (by have := N3.le; omega)).mono ?_
        rintro e w3 ⟨b3, rfl, hb3, hB⟩
        rw [N3.val] at hb3
        have q3 : (b3 : Int) ≤ 80 := by have := bits_small hb3; have := h3; unfold small at this; simp at this ⊢; omega
        have HB3 : Below w.heap.size w w3 := HB2.trans (hB.mono HB2.size)
        clear e0 e1 e2 e3 e4 e5 elt
        clear hB hb3
        go_wp2
        go_ret
        exact ⟨ret_bool (by simp [h1, h2, h3]), HB3⟩
      · have h3 := Bool.eq_false_iff.2 h3
        go_enter Try.func79, Try.ntmps79
        go_wp2_with fail
        refine (bits_any o1 n1 c1 d1 _ N1.len N1.nrm N1.rd (by have := N1.le; omega)).mono ?_
        rintro e w1 ⟨b1, rfl, hb1, hB⟩
        rw [N1.val] at hb1
        have q1 : (b1 : Int) ≤ 80 := by have := bits_small hb1; have := h1; unfold small at this; simp at this ⊢; omega
        have HB1 : Below w.heap.size w w1 := HB0.trans (hB.mono HB0.size)
        replace B0 := B0.step hB
        replace N1 := N1.below hB
        replace N2 := N2.below hB
        replace N3 := N3.below hB
        clear hB hb1
        have e0 := B0.c 0 rfl; have e1 := B0.c 1 rfl; have e2 := B0.c 2 rfl; have e3 := B0.c 3 rfl; have e4 := B0.c 4 rfl; have e5 := B0.c 5 rfl; have elt := B0.lt
        go_wp2_with fail
        refine (bits_any o2 n2 c2 d2 _ N2.len N2.nrm N2.rd (by have := N2.le; omega)).mono ?_
        rintro e w2 ⟨b2, rfl, hb2, hB⟩
        rw [N2.val] at hb2
        have q2 : (b2 : Int) ≤ 80 := by have := bits_small hb2; have := h2; unfold small at this; simp at this ⊢; omega
        have HB2 : Below w.heap.size w w2 := HB1.trans (hB.mono HB1.size)
        replace B0 := B0.step hB
        replace N1 := N1.below hB
        replace N2 := N2.below hB
        replace N3 := N3.below hB
        clear e0 e1 e2 e3 e4 e5 elt
        clear hB hb2
        have e0 := B0.c 0 rfl; have e1 := B0.c 1 rfl; have e2 := B0.c 2 rfl; have e3 := B0.c 3 rfl; have e4 := B0.c 4 rfl; have e5 := B0.c 5 rfl; have elt := B0.lt
        go_wp2_with fail
        refine (bits_any o3 n3 c3 d3 _ N3.len N3.nrm N3.rd (by have := N3.le; omega)).mono ?_
        rintro e w3 ⟨b3, rfl, hb3, hB⟩
        rw [N3.val] at hb3
        have q3 : decide ((b3 : Int) ≤ 80) = false := by have := bits_small hb3; have := h3; unfold small at this; simp at this ⊢; omega
        have HB3 : Below w.heap.size w w3 := HB2.trans (hB.mono HB2.size)
        clear e0 e1 e2 e3 e4 e5 elt
        clear hB hb3
        go_wp2
        go_ret
        exact ⟨ret_bool (by simp [h1, h2, h3]; try (simp at q3; omega)), HB3⟩
    · have h2 := Bool.eq_false_iff.2 h2
      go_enter Try.func79, Try.ntmps79
      go_wp2_with fail
      refine (bits_any o1 n1 c1 d1 _ N1.len N1.nrm N1.rd (by have := N1.le; omega)).mono ?_
      rintro e w1 ⟨b1, rfl, hb1, hB⟩
      rw [N1.val] at hb1
      have q1 : (b1 : Int) ≤ 80 := by have := bits_small hb1; have := h1; unfold small at this; simp at this ⊢; omega
      have HB1 : Below w.heap.size w w1 := HB0.trans (hB.mono HB0.size)
      replace B0 := B0.step hB
      replace N1 := N1.below hB
      replace N2 := N2.below hB
      replace N3 := N3.below hB
      clear hB hb1
      have e0 := B0.c 0 rfl; have e1 := B0.c 1 rfl; have e2 := B0.c 2 rfl; have e3 := B0.c 3 rfl; have e4 := B0.c 4 rfl; have e5 := B0.c 5 rfl; have elt := B0.lt
      go_wp2_with fail
      refine (bits_any o2 n2 c2 d2 _ N2.len N2.nrm N2.rd (by have := N2.le; omega)).mono ?_
      rintro e w2 ⟨b2, rfl, hb2, hB⟩
      rw [N2.val] at hb2
      have q2 : decide ((b2 : Int) ≤ 80) = false := by have := bits_small hb2; have := h2; unfold small at this; simp at this ⊢; omega
      have HB2 : Below w.heap.size w w2 := HB1.trans (hB.mono HB1.size)
      clear e0 e1 e2 e3 e4 e5 elt
      clear hB hb2
      go_wp2
      go_ret
      exact ⟨ret_bool (by simp [h1, h2]; try (simp at q2; omega)), HB2⟩
  · have h1 := Bool.eq_false_iff.2 h1
    go_enter Try.func79, Try.ntmps79
    go_wp2_with fail
    refine (bits_any o1 n1 c1 d1 _ N1.len N1.nrm N1.rd (by have := N1.le; omega)).mono ?_
    rintro e w1 ⟨b1, rfl, hb1, hB⟩
    rw [N1.val] at hb1
    have q1 : decide ((b1 : Int) ≤ 80) = false := by have := bits_small hb1; have := h1; unfold small at this; simp at this ⊢; omega
    have HB1 : Below w.heap.size w w1 := HB0.trans (hB.mono HB0.size)
    clear hB hb1
    go_wp2
    go_ret
    exact ⟨ret_bool (by simp [h1]; try (simp at q1; omega)), HB1⟩
end Go.Proofs.Ytggfhpnflknhdaa

/- Numbers by their own words: what is answered is known ahead. -/
namespace Go.Proofs.Ytggfhpnflknhdaa
open Go.RowKit
end Go.Proofs.Ytggfhpnflknhdaa

/- Points: the program's walks. -/
namespace Go.Proofs.Ytggfhpnflknhdaa
open Go.RowKit
theorem ar1 (a : List Value) (T : TypeId) (w : World) : ArgsB w (w.alloc (.cells a.toArray T)) [a] := by
  refine ⟨(Below.refl _ _).alloc (Nat.le_refl _) _, fun j vs hj => ?_⟩
  match j, hj with
  | 0, hj => cases hj; exact Blk.new w a T rfl
  | j + 1, hj => simp at hj
theorem ArgsB.more {w W : World} {vss : List (List Value)} (h : ArgsB w W vss) (hl : W.heap.size = w.heap.size + vss.length) (b : List Value) (T : TypeId) : ArgsB w (W.alloc (.cells b.toArray T)) (vss ++ [b]) := by
  refine ⟨(h.alloc _).below, fun j vs hj => ?_⟩
  rcases Nat.lt_trichotomy j vss.length with hlt | rfl | hgt
  · rw [List.getElem?_append_left hlt] at hj
    exact (h.b j hj).alloc _
  · simp at hj
    subst hj
    exact Blk.new W b T hl.symm
  · rw [List.getElem?_eq_none (by simp; omega)] at hj
    cases hj
theorem ArgsB.left {w W : World} {us vs : List (List Value)} (h : ArgsB w W (us ++ vs)) : ArgsB w W us := by
  refine ⟨h.below, fun j xs hj => h.b j ?_⟩
  rw [List.getElem?_append_left]
  · exact hj
  · rcases Nat.lt_or_ge j us.length with h | h
    · exact h
    · rw [List.getElem?_eq_none h] at hj; cases hj
theorem ar2 (a b : List Value) (T U : TypeId) (w : World) : ArgsB w ((w.alloc (.cells a.toArray T)).alloc (.cells b.toArray U)) [a, b] := (ar1 a T w).more (by simp) b U
theorem ar3 (a b c : List Value) (T U V : TypeId) (w : World) : ArgsB w (((w.alloc (.cells a.toArray T)).alloc (.cells b.toArray U)).alloc (.cells c.toArray V)) [a, b, c] := (ar2 a b T U w).more (by simp) c V
theorem ar4 (a b c d : List Value) (T U V X : TypeId) (w : World) : ArgsB w ((((w.alloc (.cells a.toArray T)).alloc (.cells b.toArray U)).alloc (.cells c.toArray V)).alloc (.cells d.toArray X)) [a, b, c, d] := (ar3 a b c T U V w).more (by simp) d X
end Go.Proofs.Ytggfhpnflknhdaa

/- Points: what three numbers have in common. -/
namespace Go.Proofs.Ytggfhpnflknhdaa
open Go.RowKit
end Go.Proofs.Ytggfhpnflknhdaa

/- Points: whether one is right, by the program. -/
namespace Go.Proofs.Ytggfhpnflknhdaa
open Go.RowKit
end Go.Proofs.Ytggfhpnflknhdaa

/- How a value of four words reads as data: opened and shut. -/
namespace Go.Proofs.Ytggfhpnflknhdaa
open Go.ChangeShapes Go.WideShapes Go.ChangeAt Go.RowKit Go.Joins
theorem Try.own : ownKnob Try.prog.godebug = none := by kernel_rfl
end Go.Proofs.Ytggfhpnflknhdaa

/- Points: the law's own copy of one, and how one reads as data. -/
namespace Go.Proofs.Ytggfhpnflknhdaa
open Go.ChangeShapes Go.WideShapes Go.ChangeAt Go.RowKit Go.Joins
end Go.Proofs.Ytggfhpnflknhdaa

/- A spot as a point: the walks of the model's point, told, of the program's, and of the law. -/
namespace Go.Proofs.Ytggfhpnflknhdaa
open Go.RowKit
theorem told_small {z : Int} (h : small z = true) : told z = true := by
  unfold small at h
  unfold told
  simp at h
  apply decide_eq_true
  omega
set_option maxRecDepth 100000 in
set_option maxHeartbeats 2000000 in
theorem l3Point_small (s1 : Bool) (o1 : Option Addr) (n1 c1 : Nat) (d1 : List Int) (s2 : Bool) (o2 : Option Addr) (n2 c2 : Nat) (d2 : List Int) (s3 : Bool) (o3 : Option Addr) (n3 c3 : Nat) (d3 : List Int) (x y z : Int) (k : Nat) (hk : k ≤ 100000) (h1 : small x = true) (h2 : small y = true) (h3 : small z = true) (w : World) (N1 : IsNum w s1 o1 n1 c1 d1 x k) (N2 : IsNum w s2 o2 n2 c2 d2 y k) (N3 : IsNum w s3 o3 n3 c3 d3 z k) :
    Calls Try.prog 39 #[.agg #[.bool s1, .slice o1 n1 c1, .bool s2, .slice o2 n2 c2, .bool s3, .slice o3 n3 c3]] w (VP (.tuple #[.agg #[.int .u64 (ww3 x), .int .u64 (ww2 x), .int .u64 (ww1 x), .int .u64 (ww0 x), .int .u64 (ww3 y), .int .u64 (ww2 y), .int .u64 (ww1 y), .int .u64 (ww0 y), .int .u64 (ww3 z), .int .u64 (ww2 z), .int .u64 (ww1 z), .int .u64 (ww0 z)], .bool true]) w) := by
  have B0 := (Blk.new w [.bool s1, .slice o1 n1 c1, .bool s2, .slice o2 n2 c2, .bool s3, .slice o3 n3 c3] 75 rfl).alloc (.cells #[.int .u64 0, .int .u64 0, .int .u64 0, .int .u64 0, .int .u64 0, .int .u64 0, .int .u64 0, .int .u64 0, .int .u64 0, .int .u64 0, .int .u64 0, .int .u64 0] 30)
  have B1 := Blk.new (w.alloc (.cells #[.bool s1, .slice o1 n1 c1, .bool s2, .slice o2 n2 c2, .bool s3, .slice o3 n3 c3] 75)) [.int .u64 0, .int .u64 0, .int .u64 0, .int .u64 0, .int .u64 0, .int .u64 0, .int .u64 0, .int .u64 0, .int .u64 0, .int .u64 0, .int .u64 0, .int .u64 0] 30 (g := w.heap.size + 1) (by simp)
  have HB0 : Below w.heap.size w ((w.alloc (.cells #[.bool s1, .slice o1 n1 c1, .bool s2, .slice o2 n2 c2, .bool s3, .slice o3 n3 c3] 75)).alloc (.cells #[.int .u64 0, .int .u64 0, .int .u64 0, .int .u64 0, .int .u64 0, .int .u64 0, .int .u64 0, .int .u64 0, .int .u64 0, .int .u64 0, .int .u64 0, .int .u64 0] 30)) := ((Below.refl _ _).alloc (Nat.le_refl _) _).alloc (by simp) _
  replace N1 := N1.below HB0
  replace N2 := N2.below HB0
  replace N3 := N3.below HB0
  go_enter Try.func39, Try.ntmps39
  go_wp2_with fail
  refine (l3Small_any s1 o1 n1 c1 d1 s2 o2 n2 c2 d2 s3 o3 n3 c3 d3 x y z k hk _ N1 N2 N3).mono ?_
  rintro e w0 ⟨rfl, hB⟩
  replace B0 := B0.step hB; replace B1 := B1.step hB
  replace N1 := N1.below hB; replace N2 := N2.below hB; replace N3 := N3.below hB
  replace HB0 : Below w.heap.size w w0 := HB0.trans (hB.mono HB0.size)
  rw [h1, h2, h3]
  clear hB
  have e0 := B0.c 0 rfl; have e1 := B0.c 1 rfl; have e2 := B0.c 2 rfl; have e3 := B0.c 3 rfl; have e4 := B0.c 4 rfl; have e5 := B0.c 5 rfl; have elt := B0.lt
  go_wp2_with fail
  refine (toWp_det s1 o1 n1 c1 d1 x k _ N1 (by omega) (told_small h1)).mono ?_
  rintro e w1 ⟨rfl, hB⟩
  replace B0 := B0.step hB; replace B1 := B1.step hB
  replace N2 := N2.below hB
  replace N3 := N3.below hB
  have HB1 : Below w.heap.size w w1 := HB0.trans (hB.mono HB0.size)
  clear hB
  clear e0 e1 e2 e3 e4 e5 elt
  have e0 := B0.c 0 rfl; have e1 := B0.c 1 rfl; have e2 := B0.c 2 rfl; have e3 := B0.c 3 rfl; have e4 := B0.c 4 rfl; have e5 := B0.c 5 rfl; have elt := B0.lt
  have D1 := Blk.new w1 [.int .u64 (ww3 x), .int .u64 (ww2 x), .int .u64 (ww1 x), .int .u64 (ww0 x)] 28 rfl
  replace B0 := B0.alloc (.cells #[.int .u64 (ww3 x), .int .u64 (ww2 x), .int .u64 (ww1 x), .int .u64 (ww0 x)] 28)
  replace B1 := B1.alloc (.cells #[.int .u64 (ww3 x), .int .u64 (ww2 x), .int .u64 (ww1 x), .int .u64 (ww0 x)] 28)
  replace N2 := N2.below ((Below.refl _ _).alloc (Nat.le_refl _) (.cells #[.int .u64 (ww3 x), .int .u64 (ww2 x), .int .u64 (ww1 x), .int .u64 (ww0 x)] 28))
  replace N3 := N3.below ((Below.refl _ _).alloc (Nat.le_refl _) (.cells #[.int .u64 (ww3 x), .int .u64 (ww2 x), .int .u64 (ww1 x), .int .u64 (ww0 x)] 28))
  replace HB1 := HB1.alloc HB1.size (.cells #[.int .u64 (ww3 x), .int .u64 (ww2 x), .int .u64 (ww1 x), .int .u64 (ww0 x)] 28)
  go_wp2_with fail
  refine (toWp_det s2 o2 n2 c2 d2 y k _ N2 (by omega) (told_small h2)).mono ?_
  rintro e w2 ⟨rfl, hB⟩
  replace B0 := B0.step hB; replace B1 := B1.step hB
  replace D1 := D1.step hB
  replace N3 := N3.below hB
  have HB2 : Below w.heap.size w w2 := HB1.trans (hB.mono HB1.size)
  clear hB
  clear e0 e1 e2 e3 e4 e5 elt
  have e0 := B0.c 0 rfl; have e1 := B0.c 1 rfl; have e2 := B0.c 2 rfl; have e3 := B0.c 3 rfl; have e4 := B0.c 4 rfl; have e5 := B0.c 5 rfl; have elt := B0.lt
  have D2 := Blk.new w2 [.int .u64 (ww3 y), .int .u64 (ww2 y), .int .u64 (ww1 y), .int .u64 (ww0 y)] 28 rfl
  replace B0 := B0.alloc (.cells #[.int .u64 (ww3 y), .int .u64 (ww2 y), .int .u64 (ww1 y), .int .u64 (ww0 y)] 28)
  replace B1 := B1.alloc (.cells #[.int .u64 (ww3 y), .int .u64 (ww2 y), .int .u64 (ww1 y), .int .u64 (ww0 y)] 28)
  replace D1 := D1.alloc (.cells #[.int .u64 (ww3 y), .int .u64 (ww2 y), .int .u64 (ww1 y), .int .u64 (ww0 y)] 28)
  replace N3 := N3.below ((Below.refl _ _).alloc (Nat.le_refl _) (.cells #[.int .u64 (ww3 y), .int .u64 (ww2 y), .int .u64 (ww1 y), .int .u64 (ww0 y)] 28))
  replace HB2 := HB2.alloc HB2.size (.cells #[.int .u64 (ww3 y), .int .u64 (ww2 y), .int .u64 (ww1 y), .int .u64 (ww0 y)] 28)
  go_wp2_with fail
  refine (toWp_det s3 o3 n3 c3 d3 z k _ N3 (by omega) (told_small h3)).mono ?_
  rintro e w3 ⟨rfl, hB⟩
  replace B0 := B0.step hB; replace B1 := B1.step hB
  replace D1 := D1.step hB
  replace D2 := D2.step hB
  have HB3 : Below w.heap.size w w3 := HB2.trans (hB.mono HB2.size)
  clear hB
  clear e0 e1 e2 e3 e4 e5 elt
  have p0 := D1.c 0 rfl; have p1 := D1.c 1 rfl; have p2 := D1.c 2 rfl; have p3 := D1.c 3 rfl; have pl := D1.lt; have q0 := D2.c 0 rfl; have q1 := D2.c 1 rfl; have q2 := D2.c 2 rfl; have q3 := D2.c 3 rfl; have ql := D2.lt; have tc0 := B1.c 0 rfl; have tf0 := B1.f 0 rfl; have tc1 := B1.c 1 rfl; have tf1 := B1.f 1 rfl; have tc2 := B1.c 2 rfl; have tf2 := B1.f 2 rfl; have tc3 := B1.c 3 rfl; have tf3 := B1.f 3 rfl; have tc4 := B1.c 4 rfl; have tf4 := B1.f 4 rfl; have tc5 := B1.c 5 rfl; have tf5 := B1.f 5 rfl; have tc6 := B1.c 6 rfl; have tf6 := B1.f 6 rfl; have tc7 := B1.c 7 rfl; have tf7 := B1.f 7 rfl; have tc8 := B1.c 8 rfl; have tf8 := B1.f 8 rfl; have tc9 := B1.c 9 rfl; have tf9 := B1.f 9 rfl; have tc10 := B1.c 10 rfl; have tf10 := B1.f 10 rfl; have tc11 := B1.c 11 rfl; have tf11 := B1.f 11 rfl; have tl := B1.lt
  have F : Blk (((((((((((((w3.setCell ⟨w.heap.size + 1, 0, none⟩ (.int .u64 (ww3 x))).setCell ⟨w.heap.size + 1, 1, none⟩ (.int .u64 (ww2 x))).setCell ⟨w.heap.size + 1, 2, none⟩ (.int .u64 (ww1 x))).setCell ⟨w.heap.size + 1, 3, none⟩ (.int .u64 (ww0 x))).setCell ⟨w.heap.size + 1, 4, none⟩ (.int .u64 (ww3 y))).setCell ⟨w.heap.size + 1, 5, none⟩ (.int .u64 (ww2 y))).setCell ⟨w.heap.size + 1, 6, none⟩ (.int .u64 (ww1 y))).setCell ⟨w.heap.size + 1, 7, none⟩ (.int .u64 (ww0 y))).setCell ⟨w.heap.size + 1, 8, none⟩ (.int .u64 (ww3 z))).setCell ⟨w.heap.size + 1, 9, none⟩ (.int .u64 (ww2 z))).setCell ⟨w.heap.size + 1, 10, none⟩ (.int .u64 (ww1 z))).setCell ⟨w.heap.size + 1, 11, none⟩ (.int .u64 (ww0 z))).alloc (.cells #[.int .u64 (ww3 z), .int .u64 (ww2 z), .int .u64 (ww1 z), .int .u64 (ww0 z)] 28)) (w.heap.size + 1) [.int .u64 (ww3 x), .int .u64 (ww2 x), .int .u64 (ww1 x), .int .u64 (ww0 x), .int .u64 (ww3 y), .int .u64 (ww2 y), .int .u64 (ww1 y), .int .u64 (ww0 y), .int .u64 (ww3 z), .int .u64 (ww2 z), .int .u64 (ww1 z), .int .u64 (ww0 z)] := ((((((((((((((B1.setI 0 (by simp) (.int .u64 (ww3 x))).setI 1 (by simp) (.int .u64 (ww2 x))).setI 2 (by simp) (.int .u64 (ww1 x))).setI 3 (by simp) (.int .u64 (ww0 x))).setI 4 (by simp) (.int .u64 (ww3 y))).setI 5 (by simp) (.int .u64 (ww2 y))).setI 6 (by simp) (.int .u64 (ww1 y))).setI 7 (by simp) (.int .u64 (ww0 y))).setI 8 (by simp) (.int .u64 (ww3 z))).setI 9 (by simp) (.int .u64 (ww2 z))).setI 10 (by simp) (.int .u64 (ww1 z))).setI 11 (by simp) (.int .u64 (ww0 z)))).alloc _)
  have HBF : Below w.heap.size w (((((((((((((w3.setCell ⟨w.heap.size + 1, 0, none⟩ (.int .u64 (ww3 x))).setCell ⟨w.heap.size + 1, 1, none⟩ (.int .u64 (ww2 x))).setCell ⟨w.heap.size + 1, 2, none⟩ (.int .u64 (ww1 x))).setCell ⟨w.heap.size + 1, 3, none⟩ (.int .u64 (ww0 x))).setCell ⟨w.heap.size + 1, 4, none⟩ (.int .u64 (ww3 y))).setCell ⟨w.heap.size + 1, 5, none⟩ (.int .u64 (ww2 y))).setCell ⟨w.heap.size + 1, 6, none⟩ (.int .u64 (ww1 y))).setCell ⟨w.heap.size + 1, 7, none⟩ (.int .u64 (ww0 y))).setCell ⟨w.heap.size + 1, 8, none⟩ (.int .u64 (ww3 z))).setCell ⟨w.heap.size + 1, 9, none⟩ (.int .u64 (ww2 z))).setCell ⟨w.heap.size + 1, 10, none⟩ (.int .u64 (ww1 z))).setCell ⟨w.heap.size + 1, 11, none⟩ (.int .u64 (ww0 z))).alloc (.cells #[.int .u64 (ww3 z), .int .u64 (ww2 z), .int .u64 (ww1 z), .int .u64 (ww0 z)] 28)) := (by refine Below.alloc ?_ (by have := HB3.size; simpa [World.setCell] using this) _; exact ((((((((((((HB3.setCell (p := ⟨w.heap.size + 1, 0, none⟩) (by simp) (.int .u64 (ww3 x))).setCell (p := ⟨w.heap.size + 1, 1, none⟩) (by simp) (.int .u64 (ww2 x))).setCell (p := ⟨w.heap.size + 1, 2, none⟩) (by simp) (.int .u64 (ww1 x))).setCell (p := ⟨w.heap.size + 1, 3, none⟩) (by simp) (.int .u64 (ww0 x))).setCell (p := ⟨w.heap.size + 1, 4, none⟩) (by simp) (.int .u64 (ww3 y))).setCell (p := ⟨w.heap.size + 1, 5, none⟩) (by simp) (.int .u64 (ww2 y))).setCell (p := ⟨w.heap.size + 1, 6, none⟩) (by simp) (.int .u64 (ww1 y))).setCell (p := ⟨w.heap.size + 1, 7, none⟩) (by simp) (.int .u64 (ww0 y))).setCell (p := ⟨w.heap.size + 1, 8, none⟩) (by simp) (.int .u64 (ww3 z))).setCell (p := ⟨w.heap.size + 1, 9, none⟩) (by simp) (.int .u64 (ww2 z))).setCell (p := ⟨w.heap.size + 1, 10, none⟩) (by simp) (.int .u64 (ww1 z))).setCell (p := ⟨w.heap.size + 1, 11, none⟩) (by simp) (.int .u64 (ww0 z))))
  clear B0 B1 D1 D2
  go_wp2
  generalize (((((((((((((w3.setCell ⟨w.heap.size + 1, 0, none⟩ (.int .u64 (ww3 x))).setCell ⟨w.heap.size + 1, 1, none⟩ (.int .u64 (ww2 x))).setCell ⟨w.heap.size + 1, 2, none⟩ (.int .u64 (ww1 x))).setCell ⟨w.heap.size + 1, 3, none⟩ (.int .u64 (ww0 x))).setCell ⟨w.heap.size + 1, 4, none⟩ (.int .u64 (ww3 y))).setCell ⟨w.heap.size + 1, 5, none⟩ (.int .u64 (ww2 y))).setCell ⟨w.heap.size + 1, 6, none⟩ (.int .u64 (ww1 y))).setCell ⟨w.heap.size + 1, 7, none⟩ (.int .u64 (ww0 y))).setCell ⟨w.heap.size + 1, 8, none⟩ (.int .u64 (ww3 z))).setCell ⟨w.heap.size + 1, 9, none⟩ (.int .u64 (ww2 z))).setCell ⟨w.heap.size + 1, 10, none⟩ (.int .u64 (ww1 z))).setCell ⟨w.heap.size + 1, 11, none⟩ (.int .u64 (ww0 z))).alloc (.cells #[.int .u64 (ww3 z), .int .u64 (ww2 z), .int .u64 (ww1 z), .int .u64 (ww0 z)] 28)) = WF at *
  have u0 := F.c 0 rfl; have u1 := F.c 1 rfl; have u2 := F.c 2 rfl; have u3 := F.c 3 rfl; have u4 := F.c 4 rfl; have u5 := F.c 5 rfl; have u6 := F.c 6 rfl; have u7 := F.c 7 rfl; have u8 := F.c 8 rfl; have u9 := F.c 9 rfl; have u10 := F.c 10 rfl; have u11 := F.c 11 rfl
  refine bodyPost_ret (v := .tuple #[.agg #[.int .u64 (ww3 x), .int .u64 (ww2 x), .int .u64 (ww1 x), .int .u64 (ww0 x), .int .u64 (ww3 y), .int .u64 (ww2 y), .int .u64 (ww1 y), .int .u64 (ww0 y), .int .u64 (ww3 z), .int .u64 (ww2 z), .int .u64 (ww1 z), .int .u64 (ww0 z)], .bool true]) (by simp [results, Try.results39, go_sem, u0, u1, u2, u3, u4, u5, u6, u7, u8, u9, u10, u11]) rfl ?_
  exact ⟨rfl, HBF⟩
end Go.Proofs.Ytggfhpnflknhdaa

/- A spot as a point: the walks of the model's point, of the program's, and of the law. -/
namespace Go.Proofs.Ytggfhpnflknhdaa
open Go.RowKit
theorem small_int {x : Int} (h0 : -9223372036854775808 ≤ x) (h1 : x ≤ 9223372036854775807) : small x = true := by
  unfold small
  apply decide_eq_true
  omega
def SpotP (x y : Int) (w : World) (e : Ending) (w' : World) : Prop := e = .returned (.agg #[.int .i64 x, .int .i64 y]) ∧ Below w.heap.size w w'
theorem toSpot_any (x y : Int) (w : World) : Calls Try.prog 40 #[.agg #[.int .i64 x, .int .i64 y]] w (SpotP x y w) := by
  go_enter Try.func40, Try.ntmps40
  go_wp2
  refine bodyPost_ret (v := .agg #[.int .i64 x, .int .i64 y]) (by simp [results, Try.results40, go_sem]) rfl ?_
  exact ⟨rfl, (((Below.refl _ _).alloc (Nat.le_refl _) _).alloc (by simp) _).alloc (by simp; omega) _⟩
theorem ip_cells {x y : Int} {w W : World} (h : ArgsB w W [[.int .i64 x, .int .i64 y], [.int .u64 0, .int .u64 0, .int .u64 0, .int .u64 0, .int .u64 0, .int .u64 0, .int .u64 0, .int .u64 0, .int .u64 0, .int .u64 0, .int .u64 0, .int .u64 0]]) : (fun w' => w'.cell? ⟨w.heap.size, 0, none⟩ = some (.int .i64 x) ∧ w'.cell? ⟨w.heap.size, 1, none⟩ = some (.int .i64 y)) W := ⟨(h.b 0 rfl).c 0 rfl, (h.b 0 rfl).c 1 rfl⟩
theorem ip_cells12 {x y : Int} {w W : World} {v0 v1 v2 v3 v4 v5 v6 v7 v8 v9 v10 v11 : Value} (h : ArgsB w W [[.int .i64 x, .int .i64 y], [.int .u64 0, .int .u64 0, .int .u64 0, .int .u64 0, .int .u64 0, .int .u64 0, .int .u64 0, .int .u64 0, .int .u64 0, .int .u64 0, .int .u64 0, .int .u64 0]]) : (fun w' => w'.cell? ⟨w.heap.size, 0, none⟩ = some (.int .i64 x) ∧ w'.cell? ⟨w.heap.size, 1, none⟩ = some (.int .i64 y)) ((((((((((((W.setCell ⟨w.heap.size + 1, 0, none⟩ v0).setCell ⟨w.heap.size + 1, 1, none⟩ v1).setCell ⟨w.heap.size + 1, 2, none⟩ v2).setCell ⟨w.heap.size + 1, 3, none⟩ v3).setCell ⟨w.heap.size + 1, 4, none⟩ v4).setCell ⟨w.heap.size + 1, 5, none⟩ v5).setCell ⟨w.heap.size + 1, 6, none⟩ v6).setCell ⟨w.heap.size + 1, 7, none⟩ v7).setCell ⟨w.heap.size + 1, 8, none⟩ v8).setCell ⟨w.heap.size + 1, 9, none⟩ v9).setCell ⟨w.heap.size + 1, 10, none⟩ v10).setCell ⟨w.heap.size + 1, 11, none⟩ v11) := by
  have a : Blk _ (w.heap.size + 0) _ := (((((((((((((h.b 0 rfl).setO (p := ⟨w.heap.size + 1, 0, none⟩) (by show w.heap.size + 0 ≠ w.heap.size + 1; omega) v0).setO (p := ⟨w.heap.size + 1, 1, none⟩) (by show w.heap.size + 0 ≠ w.heap.size + 1; omega) v1).setO (p := ⟨w.heap.size + 1, 2, none⟩) (by show w.heap.size + 0 ≠ w.heap.size + 1; omega) v2).setO (p := ⟨w.heap.size + 1, 3, none⟩) (by show w.heap.size + 0 ≠ w.heap.size + 1; omega) v3).setO (p := ⟨w.heap.size + 1, 4, none⟩) (by show w.heap.size + 0 ≠ w.heap.size + 1; omega) v4).setO (p := ⟨w.heap.size + 1, 5, none⟩) (by show w.heap.size + 0 ≠ w.heap.size + 1; omega) v5).setO (p := ⟨w.heap.size + 1, 6, none⟩) (by show w.heap.size + 0 ≠ w.heap.size + 1; omega) v6).setO (p := ⟨w.heap.size + 1, 7, none⟩) (by show w.heap.size + 0 ≠ w.heap.size + 1; omega) v7).setO (p := ⟨w.heap.size + 1, 8, none⟩) (by show w.heap.size + 0 ≠ w.heap.size + 1; omega) v8).setO (p := ⟨w.heap.size + 1, 9, none⟩) (by show w.heap.size + 0 ≠ w.heap.size + 1; omega) v9).setO (p := ⟨w.heap.size + 1, 10, none⟩) (by show w.heap.size + 0 ≠ w.heap.size + 1; omega) v10).setO (p := ⟨w.heap.size + 1, 11, none⟩) (by show w.heap.size + 0 ≠ w.heap.size + 1; omega) v11)
  exact ⟨a.c 0 rfl, a.c 1 rfl⟩
theorem ip_start (x y : Int) (w : World) : ArgsB w ((w.alloc (.cells #[.int .i64 x, .int .i64 y] 33)).alloc (.cells #[.int .u64 0, .int .u64 0, .int .u64 0, .int .u64 0, .int .u64 0, .int .u64 0, .int .u64 0, .int .u64 0, .int .u64 0, .int .u64 0, .int .u64 0, .int .u64 0] 30)) [[.int .i64 x, .int .i64 y], [.int .u64 0, .int .u64 0, .int .u64 0, .int .u64 0, .int .u64 0, .int .u64 0, .int .u64 0, .int .u64 0, .int .u64 0, .int .u64 0, .int .u64 0, .int .u64 0]] := by
  refine ⟨((Below.refl _ _).alloc (Nat.le_refl _) _).alloc (by simp) _, fun j vs hj => ?_⟩
  match j, hj with
  | 0, hj => cases hj; exact (Blk.new w [.int .i64 x, .int .i64 y] 33 rfl).alloc _
  | 1, hj => cases hj; exact Blk.new (w.alloc (.cells #[.int .i64 x, .int .i64 y] 33)) [.int .u64 0, .int .u64 0, .int .u64 0, .int .u64 0, .int .u64 0, .int .u64 0, .int .u64 0, .int .u64 0, .int .u64 0, .int .u64 0, .int .u64 0, .int .u64 0] 30 (by simp)
  | j + 2, hj => simp at hj
set_option maxRecDepth 100000 in
set_option maxHeartbeats 2000000 in
theorem implPointOf_any (x y : Int) (hx0 : -9223372036854775808 ≤ x) (hx1 : x ≤ 9223372036854775807) (hy0 : -9223372036854775808 ≤ y) (hy1 : y ≤ 9223372036854775807) (w : World) :
    Calls Try.prog 125 #[.agg #[.int .i64 x, .int .i64 y]] w (VP (.agg #[.int .u64 (ww3 x), .int .u64 (ww2 x), .int .u64 (ww1 x), .int .u64 (ww0 x), .int .u64 (ww3 y), .int .u64 (ww2 y), .int .u64 (ww1 y), .int .u64 (ww0 y), .int .u64 (ww3 1), .int .u64 (ww2 1), .int .u64 (ww1 1), .int .u64 (ww0 1)]) w) := by
  have T0 := ip_start x y w
  have tok1 : True := trivial
  have tok2 : True := trivial
  go_enter Try.func125, Try.ntmps125
  go_upto_region 1 with fail
  generalize ((w.alloc (.cells #[.int .i64 x, .int .i64 y] 33)).alloc (.cells #[.int .u64 0, .int .u64 0, .int .u64 0, .int .u64 0, .int .u64 0, .int .u64 0, .int .u64 0, .int .u64 0, .int .u64 0, .int .u64 0, .int .u64 0, .int .u64 0] 30)) = W at *
  go_region_held3 (fun w' => w'.cell? ⟨w.heap.size, 0, none⟩ = some (.int .i64 x) ∧ w'.cell? ⟨w.heap.size, 1, none⟩ = some (.int .i64 y)) (first | (with_reducible exact ip_cells T0) | (with_reducible exact ip_cells T0.drew) | (with_reducible exact ip_cells12 T0))
    (first
      | (go_at_call 128; have _t := tok1; refine (implOf_det x _ hx0 hx1).mono ?_; rintro e w1 ⟨rfl, hB⟩; (first | (have T1 := T0.step hB) | (have T1 := T0.drew.step hB)); clear T0; have T0 := T1; clear T1; clear tok1 _t hB)
      | (go_at_call 128; have _t := tok2; refine (implOf_det y _ hy0 hy1).mono ?_; rintro e w2 ⟨rfl, hB⟩; (first | (have T1 := T0.step hB) | (have T1 := T0.drew.step hB)); clear T0; have T0 := T1; clear T1; clear tok2 _t hB)
      | (go_at_call 128; refine (implOf_det 1 _ (by decide) (by decide)).mono ?_; rintro e w3 ⟨rfl, hB⟩; (first | (have T1 := T0.step hB) | (have T1 := T0.drew.step hB)); clear T0; have T0 := T1; clear T1; have tc0 := (T0.b 1 rfl).c 0 rfl; have tf0 := (T0.b 1 rfl).f 0 rfl; have tc1 := (T0.b 1 rfl).c 1 rfl; have tf1 := (T0.b 1 rfl).f 1 rfl; have tc2 := (T0.b 1 rfl).c 2 rfl; have tf2 := (T0.b 1 rfl).f 2 rfl; have tc3 := (T0.b 1 rfl).c 3 rfl; have tf3 := (T0.b 1 rfl).f 3 rfl; have tc4 := (T0.b 1 rfl).c 4 rfl; have tf4 := (T0.b 1 rfl).f 4 rfl; have tc5 := (T0.b 1 rfl).c 5 rfl; have tf5 := (T0.b 1 rfl).f 5 rfl; have tc6 := (T0.b 1 rfl).c 6 rfl; have tf6 := (T0.b 1 rfl).f 6 rfl; have tc7 := (T0.b 1 rfl).c 7 rfl; have tf7 := (T0.b 1 rfl).f 7 rfl; have tc8 := (T0.b 1 rfl).c 8 rfl; have tf8 := (T0.b 1 rfl).f 8 rfl; have tc9 := (T0.b 1 rfl).c 9 rfl; have tf9 := (T0.b 1 rfl).f 9 rfl; have tc10 := (T0.b 1 rfl).c 10 rfl; have tf10 := (T0.b 1 rfl).f 10 rfl; have tc11 := (T0.b 1 rfl).c 11 rfl; have tf11 := (T0.b 1 rfl).f 11 rfl; have tl := (T0.b 1 rfl).lt; clear hB))
  all_goals have F : Blk (((((((((((((w3.setCell ⟨w.heap.size + 1, 0, none⟩ (.int .u64 (ww3 x))).setCell ⟨w.heap.size + 1, 1, none⟩ (.int .u64 (ww2 x))).setCell ⟨w.heap.size + 1, 2, none⟩ (.int .u64 (ww1 x))).setCell ⟨w.heap.size + 1, 3, none⟩ (.int .u64 (ww0 x))).setCell ⟨w.heap.size + 1, 4, none⟩ (.int .u64 (ww3 y))).setCell ⟨w.heap.size + 1, 5, none⟩ (.int .u64 (ww2 y))).setCell ⟨w.heap.size + 1, 6, none⟩ (.int .u64 (ww1 y))).setCell ⟨w.heap.size + 1, 7, none⟩ (.int .u64 (ww0 y))).setCell ⟨w.heap.size + 1, 8, none⟩ (.int .u64 (ww3 1))).setCell ⟨w.heap.size + 1, 9, none⟩ (.int .u64 (ww2 1))).setCell ⟨w.heap.size + 1, 10, none⟩ (.int .u64 (ww1 1))).setCell ⟨w.heap.size + 1, 11, none⟩ (.int .u64 (ww0 1)))) (w.heap.size + 1) [.int .u64 (ww3 x), .int .u64 (ww2 x), .int .u64 (ww1 x), .int .u64 (ww0 x), .int .u64 (ww3 y), .int .u64 (ww2 y), .int .u64 (ww1 y), .int .u64 (ww0 y), .int .u64 (ww3 1), .int .u64 (ww2 1), .int .u64 (ww1 1), .int .u64 (ww0 1)] := ((((((((((((((T0.b 1 rfl).setI 0 (by simp) (.int .u64 (ww3 x))).setI 1 (by simp) (.int .u64 (ww2 x))).setI 2 (by simp) (.int .u64 (ww1 x))).setI 3 (by simp) (.int .u64 (ww0 x))).setI 4 (by simp) (.int .u64 (ww3 y))).setI 5 (by simp) (.int .u64 (ww2 y))).setI 6 (by simp) (.int .u64 (ww1 y))).setI 7 (by simp) (.int .u64 (ww0 y))).setI 8 (by simp) (.int .u64 (ww3 1))).setI 9 (by simp) (.int .u64 (ww2 1))).setI 10 (by simp) (.int .u64 (ww1 1))).setI 11 (by simp) (.int .u64 (ww0 1))))
  all_goals have HBF : Below w.heap.size w (((((((((((((w3.setCell ⟨w.heap.size + 1, 0, none⟩ (.int .u64 (ww3 x))).setCell ⟨w.heap.size + 1, 1, none⟩ (.int .u64 (ww2 x))).setCell ⟨w.heap.size + 1, 2, none⟩ (.int .u64 (ww1 x))).setCell ⟨w.heap.size + 1, 3, none⟩ (.int .u64 (ww0 x))).setCell ⟨w.heap.size + 1, 4, none⟩ (.int .u64 (ww3 y))).setCell ⟨w.heap.size + 1, 5, none⟩ (.int .u64 (ww2 y))).setCell ⟨w.heap.size + 1, 6, none⟩ (.int .u64 (ww1 y))).setCell ⟨w.heap.size + 1, 7, none⟩ (.int .u64 (ww0 y))).setCell ⟨w.heap.size + 1, 8, none⟩ (.int .u64 (ww3 1))).setCell ⟨w.heap.size + 1, 9, none⟩ (.int .u64 (ww2 1))).setCell ⟨w.heap.size + 1, 10, none⟩ (.int .u64 (ww1 1))).setCell ⟨w.heap.size + 1, 11, none⟩ (.int .u64 (ww0 1)))) := (((((((((((((T0.below.setCell (p := ⟨w.heap.size + 1, 0, none⟩) (by simp) (.int .u64 (ww3 x))).setCell (p := ⟨w.heap.size + 1, 1, none⟩) (by simp) (.int .u64 (ww2 x))).setCell (p := ⟨w.heap.size + 1, 2, none⟩) (by simp) (.int .u64 (ww1 x))).setCell (p := ⟨w.heap.size + 1, 3, none⟩) (by simp) (.int .u64 (ww0 x))).setCell (p := ⟨w.heap.size + 1, 4, none⟩) (by simp) (.int .u64 (ww3 y))).setCell (p := ⟨w.heap.size + 1, 5, none⟩) (by simp) (.int .u64 (ww2 y))).setCell (p := ⟨w.heap.size + 1, 6, none⟩) (by simp) (.int .u64 (ww1 y))).setCell (p := ⟨w.heap.size + 1, 7, none⟩) (by simp) (.int .u64 (ww0 y))).setCell (p := ⟨w.heap.size + 1, 8, none⟩) (by simp) (.int .u64 (ww3 1))).setCell (p := ⟨w.heap.size + 1, 9, none⟩) (by simp) (.int .u64 (ww2 1))).setCell (p := ⟨w.heap.size + 1, 10, none⟩) (by simp) (.int .u64 (ww1 1))).setCell (p := ⟨w.heap.size + 1, 11, none⟩) (by simp) (.int .u64 (ww0 1))))
  all_goals clear T0
  all_goals go_wp2
  all_goals generalize (((((((((((((w3.setCell ⟨w.heap.size + 1, 0, none⟩ (.int .u64 (ww3 x))).setCell ⟨w.heap.size + 1, 1, none⟩ (.int .u64 (ww2 x))).setCell ⟨w.heap.size + 1, 2, none⟩ (.int .u64 (ww1 x))).setCell ⟨w.heap.size + 1, 3, none⟩ (.int .u64 (ww0 x))).setCell ⟨w.heap.size + 1, 4, none⟩ (.int .u64 (ww3 y))).setCell ⟨w.heap.size + 1, 5, none⟩ (.int .u64 (ww2 y))).setCell ⟨w.heap.size + 1, 6, none⟩ (.int .u64 (ww1 y))).setCell ⟨w.heap.size + 1, 7, none⟩ (.int .u64 (ww0 y))).setCell ⟨w.heap.size + 1, 8, none⟩ (.int .u64 (ww3 1))).setCell ⟨w.heap.size + 1, 9, none⟩ (.int .u64 (ww2 1))).setCell ⟨w.heap.size + 1, 10, none⟩ (.int .u64 (ww1 1))).setCell ⟨w.heap.size + 1, 11, none⟩ (.int .u64 (ww0 1)))) = WF at *
  all_goals (have u0 := F.c 0 rfl; have u1 := F.c 1 rfl; have u2 := F.c 2 rfl; have u3 := F.c 3 rfl; have u4 := F.c 4 rfl; have u5 := F.c 5 rfl; have u6 := F.c 6 rfl; have u7 := F.c 7 rfl; have u8 := F.c 8 rfl; have u9 := F.c 9 rfl; have u10 := F.c 10 rfl; have u11 := F.c 11 rfl)
  all_goals refine bodyPost_ret (v := .agg #[.int .u64 (ww3 x), .int .u64 (ww2 x), .int .u64 (ww1 x), .int .u64 (ww0 x), .int .u64 (ww3 y), .int .u64 (ww2 y), .int .u64 (ww1 y), .int .u64 (ww0 y), .int .u64 (ww3 1), .int .u64 (ww2 1), .int .u64 (ww1 1), .int .u64 (ww0 1)]) (by simp [results, Try.results125, go_sem, u0, u1, u2, u3, u4, u5, u6, u7, u8, u9, u10, u11]) rfl ?_
  all_goals exact ⟨rfl, HBF⟩
end Go.Proofs.Ytggfhpnflknhdaa

/- Spots and segments beside points: the walks of their rightness, by the model and by the program. -/
namespace Go.Proofs.Ytggfhpnflknhdaa
open Go.RowKit
abbrev Sp (x y : Int) : Value := .agg #[.int .i64 x, .int .i64 y]
def spotOk (x y : Int) : Bool := decide (-1000000 ≤ x ∧ x ≤ 1000000 ∧ -1000000 ≤ y ∧ y ≤ 1000000)
theorem l1In_any (x a b : Int) (c : Bool) (hc : decide (a ≤ x ∧ x ≤ b) = c) (w : World) : Calls Try.prog 61 #[.int .i64 x, .int .i64 a, .int .i64 b] w (BoolP c w) := by
  go_enter Try.func61, Try.ntmps61
  go_wp2
  all_goals go_ret
  all_goals exact ⟨ret_bool (by subst hc; simp; try omega), Below.refl _ _⟩
theorem implSpotOk_any (x y : Int) (c : Bool) (hc : spotOk x y = c) (w : World) : Calls Try.prog 81 #[Sp x y] w (BoolP c w) := by
  go_enter Try.func81, Try.ntmps81
  go_wp2
  all_goals go_ret
  all_goals exact ⟨ret_bool (by subst hc; unfold spotOk; simp [*]; try omega), (Below.refl _ _).alloc (Nat.le_refl _) _⟩
theorem specSpotOk_any (x y : Int) (c : Bool) (hc : spotOk x y = c) (w : World) : Calls Try.prog 71 #[Sp x y] w (BoolP c w) := by
  by_cases hx : -1000000 ≤ x ∧ x ≤ 1000000
  · go_enter Try.func71, Try.ntmps71
    go_wp2_with fail
    refine (l1In_any _ _ _ true (by simpa using hx) _).mono ?_
    rintro e w1 ⟨rfl, hB⟩
    obtain ⟨hq, _⟩ := bcell hB
    have HB : Below w.heap.size w w1 := ((Below.refl _ _).alloc (Nat.le_refl _) _).trans (hB.mono (by simp))
    clear hB
    go_wp2_with fail
    refine (l1In_any _ _ _ c (by subst hc; unfold spotOk; simp [hx]) _).mono ?_
    rintro e w2 ⟨rfl, hB⟩
    go_wp2
    go_ret
    exact ⟨rfl, HB.trans (hB.mono HB.size)⟩
  · go_enter Try.func71, Try.ntmps71
    go_wp2_with fail
    refine (l1In_any _ _ _ false (by simpa using hx) _).mono ?_
    rintro e w1 ⟨rfl, hB⟩
    have HB : Below w.heap.size w w1 := ((Below.refl _ _).alloc (Nat.le_refl _) _).trans (hB.mono (by simp))
    clear hB
    go_wp2
    go_ret
    exact ⟨ret_bool (by subst hc; unfold spotOk; simp; omega), HB⟩
def lessI (x y u v : Int) : Bool := decide (x < u ∨ x = u ∧ y < v)
theorem l4Less_any (x y u v : Int) (c : Bool) (hc : lessI x y u v = c) (w : World) : Calls Try.prog 72 #[Sp x y, Sp u v] w (BoolP c w) := by
  go_enter Try.func72, Try.ntmps72
  go_wp2
  all_goals go_ret
  all_goals exact ⟨ret_bool (by subst hc; unfold lessI; simp [*]; try omega), ((Below.refl _ _).alloc (Nat.le_refl _) _).alloc (by simp) _⟩
theorem isAhead_any (x y u v : Int) (c : Bool) (hc : lessI x y u v = c) (w : World) : Calls Try.prog 82 #[Sp x y, Sp u v] w (BoolP c w) := by
  go_enter Try.func82, Try.ntmps82
  go_wp2
  all_goals go_ret
  all_goals exact ⟨ret_bool (by subst hc; unfold lessI; simp [*]; try omega), ((Below.refl _ _).alloc (Nat.le_refl _) _).alloc (by simp) _⟩
abbrev Sg (a b c d : Int) : Value := .agg #[.int .i64 a, .int .i64 b, .int .i64 c, .int .i64 d]
def SegP (a b c d : Int) (w : World) (e : Ending) (w' : World) : Prop := e = .returned (Sg a b c d) ∧ Below w.heap.size w w'

/-- Four cells of a block, to be written. -/
structure Quad (W : World) (g : Nat) (v0 v1 v2 v3 : Value) : Prop where
  c0 : W.cell? ⟨g, 0, none⟩ = some v0
  c1 : W.cell? ⟨g, 1, none⟩ = some v1
  c2 : W.cell? ⟨g, 2, none⟩ = some v2
  c3 : W.cell? ⟨g, 3, none⟩ = some v3
  f0 : W.frozen? ⟨g, 0, none⟩ = false
  f1 : W.frozen? ⟨g, 1, none⟩ = false
  f2 : W.frozen? ⟨g, 2, none⟩ = false
  f3 : W.frozen? ⟨g, 3, none⟩ = false
  lt : g < W.heap.size
theorem Quad.below {W W' : World} {B g : Nat} {v0 v1 v2 v3 : Value} (h : Quad W g v0 v1 v2 v3) (hB : Below B W W') (hg : g < B) : Quad W' g v0 v1 v2 v3 :=
  ⟨(hB.cell (p := ⟨g, 0, none⟩) hg).trans h.c0, (hB.cell (p := ⟨g, 1, none⟩) hg).trans h.c1, (hB.cell (p := ⟨g, 2, none⟩) hg).trans h.c2, (hB.cell (p := ⟨g, 3, none⟩) hg).trans h.c3,
   (hB.frozen (p := ⟨g, 0, none⟩) hg).trans h.f0, (hB.frozen (p := ⟨g, 1, none⟩) hg).trans h.f1, (hB.frozen (p := ⟨g, 2, none⟩) hg).trans h.f2, (hB.frozen (p := ⟨g, 3, none⟩) hg).trans h.f3, Nat.lt_of_lt_of_le h.lt hB.size⟩
theorem Quad.alloc {W : World} {g : Nat} {v0 v1 v2 v3 : Value} (h : Quad W g v0 v1 v2 v3) (o : Obj) : Quad (W.alloc o) g v0 v1 v2 v3 := h.below ((Below.refl W.heap.size W).alloc (Nat.le_refl _) o) h.lt
theorem Quad.new (W : World) (v0 v1 v2 v3 : Value) (t : TypeId) {g : Nat} (hg : g = W.heap.size) : Quad (W.alloc (.cells #[v0, v1, v2, v3] t)) g v0 v1 v2 v3 := by
  subst hg
  constructor <;> simp [go_sem]
set_option maxRecDepth 100000 in
set_option maxHeartbeats 400000 in
theorem toSeg_any (a b c d : Int) (w : World) : Calls Try.prog 10 #[Sg a b c d] w (SegP a b c d w) := by
  go_enter Try.func10, Try.ntmps10
  go_wp2_with fail
  refine (toSpot_any _ _ _).mono ?_
  rintro e w1 ⟨rfl, hB⟩
  have hz := hB.size
  have HB : Below w.heap.size w w1 := ((((Below.refl _ _).alloc (Nat.le_refl _) _).alloc (by simp) _).alloc (by simp; omega) _).trans (hB.mono (by simp; omega))
  have q0 : Quad w1 w.heap.size _ _ _ _ := (((Quad.new w (.int .i64 a) (.int .i64 b) (.int .i64 c) (.int .i64 d) _ rfl).alloc _).alloc _).below hB (by simp; omega)
  have q1 : Quad w1 (w.heap.size + 1) _ _ _ _ := ((Quad.new (w.alloc _) (.int .i64 0) (.int .i64 0) (.int .i64 0) (.int .i64 0) _ (by simp)).alloc _).below hB (by simp)
  have q2 : Quad w1 (w.heap.size + 1 + 1) _ _ _ _ := (Quad.new ((w.alloc _).alloc _) (.int .i64 0) (.int .i64 0) (.int .i64 0) (.int .i64 0) _ (by simp)).below hB (by simp)
  clear hB
  simp at hz
  obtain ⟨q00, q01, q02, q03, -, -, -, -, q08⟩ := id q0
  obtain ⟨q20, q21, q22, q23, q24, q25, q26, q27, q28⟩ := id q2
  go_wp2_with fail
  refine (toSpot_any _ _ _).mono ?_
  rintro e w2 ⟨rfl, hB⟩
  have HB2 : Below w.heap.size w w2 := ((HB.setCell (p := ⟨w.heap.size + 2, 0, none⟩) (by simp) _).setCell (p := ⟨w.heap.size + 2, 1, none⟩) (by simp) _).trans (hB.mono (by have := HB.size; simpa [World.setCell] using this))
  have r2 : Quad w2 (w.heap.size + 1 + 1) (.int .i64 a) (.int .i64 b) (.int .i64 0) (.int .i64 0) := Quad.below (by constructor <;> simp [go_sem, q20, q21, q22, q23, q24, q25, q26, q27]; try exact q28) hB (by simpa [World.setCell] using q28)
  have r1 : Quad w2 (w.heap.size + 1) (.int .i64 0) (.int .i64 0) (.int .i64 0) (.int .i64 0) := Quad.below (by constructor <;> simp [go_sem, q1.c0, q1.c1, q1.c2, q1.c3, q1.f0, q1.f1, q1.f2, q1.f3]; try exact q1.lt) hB (by simpa [World.setCell] using q1.lt)
  clear hB HB q0 q1 q2 q00 q01 q02 q03 q08 q20 q21 q22 q23 q24 q25 q26 q27 q28
  obtain ⟨q10, q11, q12, q13, q14, q15, q16, q17, q18⟩ := id r1
  obtain ⟨q20, q21, q22, q23, q24, q25, q26, q27, q28⟩ := id r2
  go_wp2
  refine bodyPost_ret (v := Sg a b c d) (by simp [results, Try.results10, go_sem, q10, q11, q12, q13]) rfl ?_
  refine ⟨rfl, ?_⟩
  repeat' (first | (refine Below.setCell ?_ (by simp; try omega) _))
  exact HB2
def segOk (a b c d : Int) : Bool := spotOk a b && spotOk c d && lessI a b c d
set_option maxRecDepth 100000 in
theorem specSegOk_any (a b c d : Int) (z : Bool) (hz : segOk a b c d = z) (w : World) : Calls Try.prog 37 #[Sg a b c d] w (BoolP z w) := by
  have HB0 : Below w.heap.size w (w.alloc (.cells #[.int .i64 a, .int .i64 b, .int .i64 c, .int .i64 d] 35)) := (Below.refl _ _).alloc (Nat.le_refl _) _
  by_cases hx : spotOk a b = true
  · by_cases hy : spotOk c d = true
    · go_enter Try.func37, Try.ntmps37
      go_wp2_with fail
      refine (specSpotOk_any _ _ true hx _).mono ?_
      rintro e w1 ⟨rfl, hB⟩
      have HB : Below w.heap.size w w1 := HB0.trans (hB.mono (by simp))
      have q0 : Quad w1 w.heap.size _ _ _ _ := (Quad.new w (.int .i64 a) (.int .i64 b) (.int .i64 c) (.int .i64 d) _ rfl).below hB (by simp)
      obtain ⟨q00, q01, q02, q03, -, -, -, -, q08⟩ := id q0
      clear hB
      go_wp2_with fail
      refine (specSpotOk_any _ _ true hy _).mono ?_
      rintro e w2 ⟨rfl, hB⟩
      have HB2 : Below w.heap.size w w2 := HB.trans (hB.mono HB.size)
      have q2 := q0.below hB q0.lt
      clear q00 q01 q02 q03 q08
      obtain ⟨q00, q01, q02, q03, -, -, -, -, q08⟩ := q2
      clear hB HB
      go_wp2_with fail
      refine (l4Less_any _ _ _ _ z (by rw [← hz]; simp [segOk, hx, hy]) _).mono ?_
      rintro e w3 ⟨rfl, hB⟩
      go_wp2
      go_ret
      exact ⟨rfl, HB2.trans (hB.mono HB2.size)⟩
    · have hy := Bool.eq_false_iff.2 hy
      go_enter Try.func37, Try.ntmps37
      go_wp2_with fail
      refine (specSpotOk_any _ _ true hx _).mono ?_
      rintro e w1 ⟨rfl, hB⟩
      have HB : Below w.heap.size w w1 := HB0.trans (hB.mono (by simp))
      have q0 : Quad w1 w.heap.size _ _ _ _ := (Quad.new w (.int .i64 a) (.int .i64 b) (.int .i64 c) (.int .i64 d) _ rfl).below hB (by simp)
      obtain ⟨q00, q01, q02, q03, -, -, -, -, q08⟩ := id q0
      clear hB
      go_wp2_with fail
      refine (specSpotOk_any _ _ false hy _).mono ?_
      rintro e w2 ⟨rfl, hB⟩
      have HB2 : Below w.heap.size w w2 := HB.trans (hB.mono HB.size)
      clear hB HB
      go_wp2
      go_ret
      exact ⟨ret_bool (by rw [← hz]; simp [segOk, hx, hy]), HB2⟩
  · have hx := Bool.eq_false_iff.2 hx
    go_enter Try.func37, Try.ntmps37
    go_wp2_with fail
    refine (specSpotOk_any _ _ false hx _).mono ?_
    rintro e w1 ⟨rfl, hB⟩
    have HB : Below w.heap.size w w1 := HB0.trans (hB.mono (by simp))
    clear hB
    go_wp2
    go_ret
    exact ⟨ret_bool (by rw [← hz]; simp [segOk, hx]), HB⟩
set_option maxRecDepth 100000 in
theorem implSegOk_any (a b c d : Int) (z : Bool) (hz : segOk a b c d = z) (w : World) : Calls Try.prog 41 #[Sg a b c d] w (BoolP z w) := by
  have HB0 : Below w.heap.size w (w.alloc (.cells #[.int .i64 a, .int .i64 b, .int .i64 c, .int .i64 d] 35)) := (Below.refl _ _).alloc (Nat.le_refl _) _
  by_cases hx : spotOk a b = true
  · by_cases hy : spotOk c d = true
    · go_enter Try.func41, Try.ntmps41
      go_wp2_with fail
      refine (implSpotOk_any _ _ true hx _).mono ?_
      rintro e w1 ⟨rfl, hB⟩
      have HB : Below w.heap.size w w1 := HB0.trans (hB.mono (by simp))
      have q0 : Quad w1 w.heap.size _ _ _ _ := (Quad.new w (.int .i64 a) (.int .i64 b) (.int .i64 c) (.int .i64 d) _ rfl).below hB (by simp)
      obtain ⟨q00, q01, q02, q03, -, -, -, -, q08⟩ := id q0
      clear hB
      go_wp2_with fail
      refine (implSpotOk_any _ _ true hy _).mono ?_
      rintro e w2 ⟨rfl, hB⟩
      have HB2 : Below w.heap.size w w2 := HB.trans (hB.mono HB.size)
      have q2 := q0.below hB q0.lt
      clear q00 q01 q02 q03 q08
      obtain ⟨q00, q01, q02, q03, -, -, -, -, q08⟩ := q2
      clear hB HB
      go_wp2_with fail
      refine (isAhead_any _ _ _ _ z (by rw [← hz]; simp [segOk, hx, hy]) _).mono ?_
      rintro e w3 ⟨rfl, hB⟩
      go_wp2
      go_ret
      exact ⟨rfl, HB2.trans (hB.mono HB2.size)⟩
    · have hy := Bool.eq_false_iff.2 hy
      go_enter Try.func41, Try.ntmps41
      go_wp2_with fail
      refine (implSpotOk_any _ _ true hx _).mono ?_
      rintro e w1 ⟨rfl, hB⟩
      have HB : Below w.heap.size w w1 := HB0.trans (hB.mono (by simp))
      have q0 : Quad w1 w.heap.size _ _ _ _ := (Quad.new w (.int .i64 a) (.int .i64 b) (.int .i64 c) (.int .i64 d) _ rfl).below hB (by simp)
      obtain ⟨q00, q01, q02, q03, -, -, -, -, q08⟩ := id q0
      clear hB
      go_wp2_with fail
      refine (implSpotOk_any _ _ false hy _).mono ?_
      rintro e w2 ⟨rfl, hB⟩
      have HB2 : Below w.heap.size w w2 := HB.trans (hB.mono HB.size)
      clear hB HB
      go_wp2
      go_ret
      exact ⟨ret_bool (by rw [← hz]; simp [segOk, hx, hy]), HB2⟩
  · have hx := Bool.eq_false_iff.2 hx
    go_enter Try.func41, Try.ntmps41
    go_wp2_with fail
    refine (implSpotOk_any _ _ false hx _).mono ?_
    rintro e w1 ⟨rfl, hB⟩
    have HB : Below w.heap.size w w1 := HB0.trans (hB.mono (by simp))
    clear hB
    go_wp2
    go_ret
    exact ⟨ret_bool (by rw [← hz]; simp [segOk, hx]), HB⟩
end Go.Proofs.Ytggfhpnflknhdaa

/- The ends of a segment as points: the program's walk. -/
namespace Go.Proofs.Ytggfhpnflknhdaa
open Go.RowKit
theorem Blk.set12 {W : World} {vs : List Value} {v0 v1 v2 v3 v4 v5 v6 v7 v8 v9 v10 v11 : Value} {g g' : Nat} (G : Blk W g' vs) (hg : g' ≠ g) : Blk ((((((((((((W.setCell ⟨g, 0, none⟩ v0).setCell ⟨g, 1, none⟩ v1).setCell ⟨g, 2, none⟩ v2).setCell ⟨g, 3, none⟩ v3).setCell ⟨g, 4, none⟩ v4).setCell ⟨g, 5, none⟩ v5).setCell ⟨g, 6, none⟩ v6).setCell ⟨g, 7, none⟩ v7).setCell ⟨g, 8, none⟩ v8).setCell ⟨g, 9, none⟩ v9).setCell ⟨g, 10, none⟩ v10).setCell ⟨g, 11, none⟩ v11) g' vs :=
  (((((((((((G.setO hg v0).setO hg v1).setO hg v2).setO hg v3).setO hg v4).setO hg v5).setO hg v6).setO hg v7).setO hg v8).setO hg v9).setO hg v10).setO hg v11
theorem Blk.stored12 {W : World} {g : Nat} {z0 z1 z2 z3 z4 z5 z6 z7 z8 z9 z10 z11 : Value} (G : Blk W g [z0, z1, z2, z3, z4, z5, z6, z7, z8, z9, z10, z11]) (v0 v1 v2 v3 v4 v5 v6 v7 v8 v9 v10 v11 : Value) : Blk ((((((((((((W.setCell ⟨g, 0, none⟩ v0).setCell ⟨g, 1, none⟩ v1).setCell ⟨g, 2, none⟩ v2).setCell ⟨g, 3, none⟩ v3).setCell ⟨g, 4, none⟩ v4).setCell ⟨g, 5, none⟩ v5).setCell ⟨g, 6, none⟩ v6).setCell ⟨g, 7, none⟩ v7).setCell ⟨g, 8, none⟩ v8).setCell ⟨g, 9, none⟩ v9).setCell ⟨g, 10, none⟩ v10).setCell ⟨g, 11, none⟩ v11) g [v0, v1, v2, v3, v4, v5, v6, v7, v8, v9, v10, v11] :=
  (((((((((((G.setI 0 (by simp) v0).setI 1 (by simp) v1).setI 2 (by simp) v2).setI 3 (by simp) v3).setI 4 (by simp) v4).setI 5 (by simp) v5).setI 6 (by simp) v6).setI 7 (by simp) v7).setI 8 (by simp) v8).setI 9 (by simp) v9).setI 10 (by simp) v10).setI 11 (by simp) v11
theorem Below.set12 {B g : Nat} {w W : World} {v0 v1 v2 v3 v4 v5 v6 v7 v8 v9 v10 v11 : Value} (hg : B ≤ g) (h : Below B w W) : Below B w ((((((((((((W.setCell ⟨g, 0, none⟩ v0).setCell ⟨g, 1, none⟩ v1).setCell ⟨g, 2, none⟩ v2).setCell ⟨g, 3, none⟩ v3).setCell ⟨g, 4, none⟩ v4).setCell ⟨g, 5, none⟩ v5).setCell ⟨g, 6, none⟩ v6).setCell ⟨g, 7, none⟩ v7).setCell ⟨g, 8, none⟩ v8).setCell ⟨g, 9, none⟩ v9).setCell ⟨g, 10, none⟩ v10).setCell ⟨g, 11, none⟩ v11) :=
  (((((((((((h.setCell (p := ⟨g, 0, none⟩) hg _).setCell (p := ⟨g, 1, none⟩) hg _).setCell (p := ⟨g, 2, none⟩) hg _).setCell (p := ⟨g, 3, none⟩) hg _).setCell (p := ⟨g, 4, none⟩) hg _).setCell (p := ⟨g, 5, none⟩) hg _).setCell (p := ⟨g, 6, none⟩) hg _).setCell (p := ⟨g, 7, none⟩) hg _).setCell (p := ⟨g, 8, none⟩) hg _).setCell (p := ⟨g, 9, none⟩) hg _).setCell (p := ⟨g, 10, none⟩) hg _).setCell (p := ⟨g, 11, none⟩) hg _
end Go.Proofs.Ytggfhpnflknhdaa
