/- Part 7 of the walks that the proof leans on. -/
import Derived.Test.YtpnnpkchogooaaaGreatPart6
import Derived.Test.YtpnnpkchogooaaaGreatPart2
import Derived.Test.YtpnnpkchogooaaaGreatPart4
import Derived.Deep.RegionHeld3
import Derived.Test.YtpnnpkchogooaaaGreatPart1
import Derived.Deep.DeepCutAuto
set_option maxRecDepth 100000
set_option maxHeartbeats 8000000
namespace Go.Proofs.YtpnnpkchogooaaaGreat
open Go.RowKit
def DivP (n : Nat) (X Y : Int) (w : World) (e : Ending) (w' : World) : Prop :=
 ∃ (qo : Option Addr) (qn qc : Nat) (qs : List Int) (ro : Option Addr) (rn rc : Nat) (rs : List Int), e = .returned (.tuple #[.slice qo qn qc, .slice ro rn rc]) ∧
   (qs.length = qn ∧ qn ≤ qc ∧ qn ≤ n + 1 ∧ Nrm qs ∧ val qs = X / Y ∧ Rd w' qo qs) ∧ (rs.length = rn ∧ rn ≤ rc ∧ rn ≤ n ∧ Nrm rs ∧ val rs = X % Y ∧ Rd w' ro rs) ∧ Below w.heap.size w w'
theorem bits_le32 {v : Int} {b n : Nat} (h : BitsOf v b) (hv : v < pw n) : b ≤ 32 * n := by
 apply Decidable.byContradiction
 intro hn
 have hp := p2_pow (32 * n)
 rw [show 32 * n / 32 = n by omega, show 32 * n % 32 = 0 by omega] at hp
 simp only [Int.pow_zero, Int.mul_one] at hp
 rw [hp] at hv
 rcases h.2.2 with h2 | h2
 · omega
 · have := ipow2_mono (show 32 * n ≤ b - 1 by omega)
   omega
structure DvM (W wr : World) (g : Nat) (qs : List Int) (ro : Option Addr) (rn rc : Nat) (rs : List Int) (n : Nat) : Prop where
 below : Below W.heap.size W wr
 q : Blk wr g (qs.map (Value.int .u32))
 rlen : rs.length = rn
 rcap : rn ≤ rc
 rle : rn ≤ n
 rnrm : Nrm rs
 rrd : Rd wr ro rs
 rne : ∀ b off, ro = some ⟨b, off, none⟩ → rs ≠ [] → b ≠ g
theorem DvM.step {W wr wr' : World} {g : Nat} {qs : List Int} {ro : Option Addr} {rn rc : Nat} {rs : List Int} {n : Nat} (h : DvM W wr g qs ro rn rc rs n) (hB : Below wr.heap.size wr wr') : DvM W wr' g qs ro rn rc rs n :=
 ⟨h.below.trans (hB.mono h.below.size), h.q.step hB, h.rlen, h.rcap, h.rle, h.rnrm, h.rrd.below hB (Nat.le_refl _), h.rne⟩
theorem Rd.setNe {w : World} {ao : Option Addr} {ds : List Int} (h : Rd w ao ds) {p : Addr} (hp : ∀ b off, ao = some ⟨b, off, none⟩ → ds ≠ [] → b ≠ p.block) (u : Value) : Rd (w.setCell p u) ao ds := by
 intro i hi
 obtain ⟨b, off, e, hb, hc⟩ := h i hi
 refine ⟨b, off, e, by simpa [World.setCell] using hb, (World.cell?_setCell_other _ _ _ _ ?_).trans hc⟩
 intro e2
 rw [e2] at hp
 exact hp b off e (by rintro rfl; simp at hi) rfl
theorem divAbs_any (ao bo : Option Addr) (n m ca cb : Nat) (xs ys : List Int) (w : World) (hx : xs.length = n) (hy : ys.length = m) (nx : Nrm xs) (ny : Nrm ys) (rx : Rd w ao xs) (ry : Rd w bo ys) (hc : n ≤ ca) (hn : n ≤ 10000) (hm : m ≤ 10000) (hY : 0 < val ys) :
   Calls Tryz.prog 118 #[.slice ao n ca, .slice bo m cb] w (DivP n (val xs) (val ys) w) := by
 obtain ⟨i0, hi, hz0, hz1, hz2⟩ := info_parts Tryz.info88
 go_enter Tryz.func118, Tryz.ntmps118
 go_wp2_with fail
 refine (bits_any ao n ca xs _ hx nx rx (by omega)).mono ?_
 rintro e w1 ⟨bx, rfl, hbx, hB⟩
 replace rx := rx.below hB (Nat.le_refl _)
 replace ry := ry.below hB (Nat.le_refl _)
 have HB1 := hB
 clear hB
 go_wp2_with fail
 refine (bits_any bo m cb ys _ hy ny ry (by omega)).mono ?_
 rintro e w2 ⟨bz, rfl, hbz, hB⟩
 replace rx := rx.below hB (Nat.le_refl _)
 replace ry := ry.below hB (Nat.le_refl _)
 have HB2 : Below w.heap.size w w2 := HB1.trans (hB.mono HB1.size)
 clear hB HB1
 have l1 := bits_le32 (n := n) hbx (by rw [← hx]; exact val_lt nx.1)
 have l2 := bits_le32 (n := m) hbz (by rw [← hy]; exact val_lt ny.1)
 by_cases hlt : bx < bz
 · obtain ⟨v1, v2, v3⟩ := dv_less hbx hbz hlt
   have i1 : (bx : Int) - bz < 0 := by omega
   clear hi hz0 hz1 hz2 hbx hbz
   go_wp2
   go_ret2
   exact ⟨none, 0, 0, [], ao, n, ca, xs, rfl, ⟨rfl, by omega, by omega, nrm_nil, by rw [v1]; rfl, Rd.nil _ _⟩, ⟨hx, hc, Nat.le_refl _, nx, v2.symm, rx⟩, HB2⟩
 · have HI := dv_start hbx hbz hY (by omega) ((bx - bz) / 32 + 1)
   obtain ⟨N, hN⟩ : ∃ N, bx - bz = N := ⟨_, rfl⟩
   have eN : (bx : Int) - bz = (N : Int) := by omega
   have hN1 : N ≤ 32 * n := by omega
   rw [hN] at HI
   clear hbx hbz hN hlt l1 l2
   obtain ⟨K, hK⟩ : ∃ K, N / 32 = K := ⟨_, rfl⟩
   have eK : (N : Int) / 32 = (K : Int) := by omega
   rw [hK] at HI
   go_wp2_with (at_make; refine wpList_make_full _ rfl _ _ 71 rfl w2.heap.size 146 i0 (.int .u32 0) 1 Tryz.underlying71 hi hz0 hz1 _ _ _ _ (K + 1) rfl rfl (by omega) (by omega) (by rw [hz2]; omega) (by unfold maxLen; omega) (Nat.le_refl _) ?_)
   intro w3 hown hgrow
   have M0 : DvM w2 w3 w2.heap.size (List.replicate (K + 1) 0) ao n ca xs n := by
     rw [made_one] at hown
     refine ⟨(Below.refl _ _).grown hgrow (Nat.le_refl _) (by simp), ⟨(hown.lt _ rfl).2, fun j v hj => ?_⟩, hx, hc, Nat.le_refl _, nx, rx.below ((Below.refl _ _).grown hgrow (Nat.le_refl _) (by simp)) (Nat.le_refl _), ?_⟩
     · have hjl : j < K + 1 := by
         apply Decidable.byContradiction
         intro hn
         rw [List.getElem?_eq_none (by simp; omega)] at hj
         cases hj
       refine ⟨?_, hown.frozenAt j⟩
       rw [hown.cellAt j (by omega)]
       simpa using hj
     · rintro b off rfl hne
       obtain ⟨b', off', e, hb, _⟩ := rx 0 (List.length_pos_iff.2 hne)
       cases e
       omega
   have HBW : Below w.heap.size w w3 := HB2.trans (M0.below.mono HB2.size)
   clear hown hgrow hi hz0 hz1 hz2
   have hKn : K ≤ n := by omega
   go_wp2
   go_loopw [8, 9] (fun r i wr => ∃ (k : Nat) (ro : Option Addr) (rn rc : Nat) (rs qs : List Int), k ≤ N + 1 ∧ i = .int .i64 ((k : Int) - 1) ∧ r = .slice ro rn rc ∧ DvI (val xs) (val ys) qs (val rs) k (K + 1) ∧ DvM w2 wr w2.heap.size qs ro rn rc rs n) (fun _ i _ => (intOf i + 1).toNat)
   case atStart => exact ⟨N + 1, ao, n, ca, xs, _, Nat.le_refl _, by go_num, rfl, HI, M0⟩
   case round =>
     clear HI M0
     obtain ⟨k, ro, rn, rc, rs, qs, hk, rfl, rfl, hI, hM⟩ := hrel
     by_cases hk0 : 0 < k
     · obtain ⟨j, rfl⟩ : ∃ j, k = j + 1 := ⟨k - 1, by omega⟩
       rw [show (((j + 1 : Nat) : Int) - 1) = (j : Int) by omega]
       have ryr := ry.below hM.below (Nat.le_refl _)
       go_wp2_with fail
       refine (left_any bo m cb j ys _ hy ny.1 ryr (by omega) (by omega)).mono ?_
       rintro e w4 ⟨so, sn, sc, ss, rfl, k1, k2, k3, k4, k5, k6, hB⟩
       have hM4 := hM.step hB
       have e2 : val ss = 2 ^ j * val ys := by rw [k5, ← Int.mul_assoc, p2_pow]
       clear hM hB k5 ryr
       go_wp2_with fail
       refine (cmpAbs_any ro so rn sn rc sc rs ss _ hM4.rlen k1 hM4.rnrm k4 hM4.rrd k6 (by have := hM4.rle; omega) (by omega)).mono ?_
       rintro e w5 ⟨rfl, hB⟩
       have hM5 := hM4.step hB
       replace k6 := k6.below hB (Nat.le_refl _)
       clear hM4 hB
       by_cases hle : val rs < 2 ^ j * val ys
       · have hcm : decide (0 ≤ cmpI (val rs) (val ss)) = false := by rw [cmpI_lt (by rw [e2]; exact hle)]; decide
         have R1 := dv_skip hI (by omega) hle
         clear hI e2 k1 k2 k3 k4 k6
         generalize cmpI (val rs) (val ss) = cm at *
         go_wp2
         go_roundw
         case rel => exact ⟨j, ro, rn, rc, rs, qs, by omega, by go_num, rfl, R1, hM5⟩
         case measure => simp [intOf]
       · have hcm : 0 ≤ cmpI (val rs) (val ss) := by
           rcases Int.lt_trichotomy (val rs) (val ss) with h | h | h
           · rw [e2] at h; exact absurd h hle
           · rw [cmpI_eq h]; decide
           · rw [cmpI_gt h]; decide
         generalize cmpI (val rs) (val ss) = cm at *
         go_wp2_with fail
         refine (subAbs_at ro so rn sn rc sc rs ss _ hM5.rlen k1 hM5.rnrm.1 k4.1 hM5.rrd k6 (by have := hM5.rle; omega) (by omega) (by rw [e2]; omega)).mono ?_
         rintro e w6 ⟨⟨o6, c6, z6, rfl, d1, d2, d3, d4, d5, hB⟩, c6', he⟩
         simp only [Ending.returned.injEq, Value.slice.injEq, true_and] at he
         obtain ⟨rfl, rfl⟩ := he
         have hM6 := hM5.step hB
         have hg5 := hM5.q.lt
         clear hM5 hB k1 k2 k3 k4 k6 hcm
         go_wp2_with fail
         refine (trim_at false (some ⟨w5.heap.size, 0, none⟩) rn c6 z6 _ d1 d2 d3 d5 (by have := hM6.rle; omega)).mono ?_
         rintro e w7 ⟨⟨s7, o7, n7, c7, z7, rfl, t1, t2, t3, t4, t5, t6, t7, hB⟩, s8, o8, n8, c8, he, ho⟩
         simp only [Ending.returned.injEq, Value.agg.injEq, Array.mk.injEq, List.cons.injEq, Value.bool.injEq, Value.slice.injEq, and_true] at he
         obtain ⟨rfl, rfl, rfl, rfl⟩ := he
         have hM7 := hM6.step hB
         have hjl : j / 32 < qs.length := by rw [hI.len]; omega
         obtain ⟨R1, oq⟩ := dv_take hI hjl (by omega)
         have ev : val z7 = val rs - 2 ^ j * val ys := by rw [t5, d4, e2]
         rw [← ev] at R1
         have cq := hM7.q.c (j / 32) (v := .int .u32 qs[j / 32]) (by simp [hjl])
         have fq := hM7.q.f (j / 32) (v := .int .u32 qs[j / 32]) (by simp [hjl])
         have hNe : ∀ b off, o7 = some ⟨b, off, none⟩ → z7 ≠ [] → b ≠ w2.heap.size := by
           rintro b off e _
           rcases ho with ho | ho
           · rw [ho] at e; cases e; omega
           · rw [ho] at e; cases e
         have R2 : DvM w2 (w7.setCell ⟨w2.heap.size, j / 32, none⟩ (.int .u32 (qs[j / 32] + 2 ^ (j % 32)))) w2.heap.size (qs.set (j / 32) (qs[j / 32] + 2 ^ (j % 32))) o7 n7 c7 z7 n := by
           refine ⟨hM7.below.setCell (Nat.le_refl _) _, ?_, t1, t2, by have := hM7.rle; omega, t4, t7.setNe hNe _, hNe⟩
           have := hM7.q.setI (j / 32) (by simpa using hjl) (.int .u32 (qs[j / 32] + 2 ^ (j % 32)))
           rwa [← List.map_set] at this
         clear hM6 hM7 t1 t2 t3 t4 t5 t6 t7 d1 d2 d3 d4 d5 hB ho hNe ev hI e2
         have e3 : (j : Int) / 32 = ((j / 32 : Nat) : Int) := by omega
         have e4 : (j : Int) % 32 = ((j % 32 : Nat) : Int) := by omega
         have e5 : ((j / 32 : Nat) : Int) < (K : Int) + 1 := by omega
         have fd := field_d (.bool s7) (.slice o7 n7 c7)
         have e6 : (2 : Int) ^ (j % 32) % 4294967296 = 2 ^ (j % 32) := by
           have h31 := ipow2_mono (show j % 32 ≤ 31 by omega)
           have hp := ipow_pos (j % 32)
           have : (2 : Int) ^ 31 = 2147483648 := by decide
           omega
         generalize hjq : j / 32 = jq at *
         generalize hjr : j % 32 = jr at *
         go_wp2
         go_roundw
         case rel =>
           exact ⟨j, o7, n7, c7, z7, _, by omega, rfl, rfl, R1, R2⟩
         case measure => simp [intOf]
     · obtain rfl : k = 0 := by omega
       obtain ⟨v1, v2⟩ := dv_end hI hY
       have hq := hM.q
       have rq : Rd wr (some ⟨w2.heap.size, 0, none⟩) qs := fun i hi => ⟨w2.heap.size, 0, rfl, hq.lt, by rw [Nat.zero_add]; exact hq.c i (by simp [hi])⟩
       have hlq := hI.len
       have hdq := hI.dig
       clear hI hq
       go_wp2_with fail
       refine (trim_at false (some ⟨w2.heap.size, 0, none⟩) (K + 1) (K + 1) qs _ hlq (Nat.le_refl _) hdq rq (by omega)).mono ?_
       rintro e w7 ⟨⟨s7, o7, n7, c7, z7, rfl, t1, t2, t3, t4, t5, t6, t7, hB⟩, _⟩
       have hM7 := hM.step hB
       have HBE : Below w.heap.size w w7 := HB2.trans (hM7.below.mono HB2.size)
       clear hM hB
       have fd := field_d (.bool s7) (.slice o7 n7 c7)
       clear t6
       go_wp2
       go_ret2
       exact ⟨o7, n7, c7, z7, ro, rn, rc, rs, rfl, ⟨t1, t2, by omega, t4, by rw [t5]; exact v1, t7⟩, ⟨hM7.rlen, hM7.rcap, hM7.rle, hM7.rnrm, v2, hM7.rrd⟩, HBE⟩
def digsOf (w : World) : Value → List Int
 | .slice (some a) n _ => (List.range n).map fun i => match w.cell? ⟨a.block, a.off + i, none⟩ with | some v => intOf v | none => 0
 | _ => []
theorem digs_of {w : World} {ao : Option Addr} {n cap : Nat} {ds : List Int} (h : Rd w ao ds) (hl : ds.length = n) : digsOf w (.slice ao n cap) = ds := by
 by_cases h0 : n = 0
 · subst h0
   have : ds = [] := List.eq_nil_of_length_eq_zero hl
   subst this
   cases ao <;> simp [digsOf]
 · obtain ⟨b, off, rfl, _, _⟩ := h 0 (by omega)
   simp only [digsOf]
   apply List.ext_getElem
   · simp [hl]
   · intro i h1 h2
     obtain ⟨b', off', e, _, hc⟩ := h i h2
     cases e
     simp [hc, intOf]
structure GdI (W wr : World) (xo : Option Addr) (xn xc : Nat) (xs : List Int) (yo : Option Addr) (yn yc : Nat) (ys : List Int) (k G : Nat) : Prop where
 below : Below W.heap.size W wr
 xlen : xs.length = xn
 xcap : xn ≤ xc
 xle : xn ≤ k
 xnrm : Nrm xs
 xrd : Rd wr xo xs
 ylen : ys.length = yn
 ycap : yn ≤ yc
 yle : yn ≤ k
 ynrm : Nrm ys
 yrd : Rd wr yo ys
 gcd : Int.gcd (val xs) (val ys) = G
theorem gcd_step {x y : Int} (hx : 0 ≤ x) (hy : 0 < y) : Int.gcd y (x % y) = Int.gcd x y := by
 obtain ⟨a, rfl⟩ := Int.eq_ofNat_of_zero_le hx
 obtain ⟨b, rfl⟩ := Int.eq_ofNat_of_zero_le (show 0 ≤ y by omega)
 rw [show ((a : Int) % (b : Int)) = ((a % b : Nat) : Int) from (Int.natCast_emod a b).symm, Int.gcd_natCast_natCast, Int.gcd_natCast_natCast, Nat.gcd_comm a b, Nat.gcd_rec b a, Nat.gcd_comm]
theorem gcd_any (s t : Bool) (ao bo : Option Addr) (n m ca cb k : Nat) (xs ys : List Int) (x y : Int) (w : World) (hx : IsNum w s ao n ca xs x k) (hy : IsNum w t bo m cb ys y k) (hk : k ≤ 9000) :
   Calls Tryz.prog 107 #[.agg #[.bool s, .slice ao n ca], .agg #[.bool t, .slice bo m cb]] w (NumP k (Int.gcd x y : Int) w) := by
 have T0 := two_start w (.bool s) (.slice ao n ca) (.bool t) (.slice bo m cb)
 have HX := hx.below T0.below
 have HY := hy.below T0.below
 have G0 : Int.gcd (val xs) (val ys) = Int.gcd x y := by rw [hx.val, hy.val]; simp [Int.gcd]
 clear hx hy
 go_enter Tryz.func107, Tryz.ntmps107
 go_upto_region 1 with fail
 generalize ((w.alloc (Obj.cells #[Value.bool s, Value.slice ao n ca] 73)).alloc (Obj.cells #[Value.bool t, Value.slice bo m cb] 73)).alloc (Obj.cells #[Value.bool false, Value.slice none 0 0] 73) = W at *
 have q1 := T0.a1; have q3 := T0.b1
 have I0 : GdI W W ao n ca xs bo m cb ys k (Int.gcd x y) := ⟨Below.refl _ _, HX.len, HX.cap, HX.le, HX.nrm, HX.rd, HY.len, HY.cap, HY.le, HY.nrm, HY.rd, G0⟩
 clear HX HY G0
 have hsz := T0.sz
 go_wp2
 go_loopw [5, 6] (fun u v wr => ∃ (xo : Option Addr) (xn xc : Nat) (xs : List Int) (yo : Option Addr) (yn yc : Nat) (ys : List Int), u = .slice xo xn xc ∧ v = .slice yo yn yc ∧ GdI W wr xo xn xc xs yo yn yc ys k (Int.gcd x y)) (fun _ v wr => (val (digsOf wr v)).toNat)
 case atStart => exact ⟨ao, n, ca, xs, bo, m, cb, ys, rfl, rfl, I0⟩
 case round =>
   clear I0
   obtain ⟨xo, xn, xc, xs, yo, yn, yc, ys, rfl, rfl, I0⟩ := hrel
   by_cases hy0 : 0 < yn
   · have i1 : (0 : Int) < (yn : Int) := by omega
     have hyp := nrm_pos I0.ynrm (by intro e; have := I0.ylen; rw [e] at this; simp at this; omega)
     have hd := digs_of (cap := yc) I0.yrd I0.ylen
     go_wp2_with fail
     refine (divAbs_any xo yo xn yn xc yc xs ys _ I0.xlen I0.ylen I0.xnrm I0.ynrm I0.xrd I0.yrd I0.xcap (by have := I0.xle; omega) (by have := I0.yle; omega) (by omega)).mono ?_
     rintro e w4 ⟨qo, qn, qc, qs, ro, rn, rc, rs, rfl, -, ⟨r1, r2, r3, r4, r5, r6⟩, hB⟩
     have I1 : GdI W w4 yo yn yc ys ro rn rc rs k (Int.gcd x y) := ⟨I0.below.trans (hB.mono I0.below.size), I0.ylen, I0.ycap, I0.yle, I0.ynrm, I0.yrd.below hB (Nat.le_refl _), r1, r2, by have := I0.xle; omega, r4, r6, by rw [r5, gcd_step (val_nonneg I0.xnrm.1) (by omega)]; exact I0.gcd⟩
     have hlt : (val rs).toNat < (val ys).toNat := by
       have h1 := Int.emod_lt_of_pos (val xs) (show 0 < val ys by omega)
       have h2 := Int.emod_nonneg (val xs) (show val ys ≠ 0 by omega)
       rw [r5]
       omega
     have hd2 := digs_of (cap := rc) r6 r1
     clear I0 hB r1 r2 r3 r4 r5 r6
     go_wp2
     go_roundw
     case rel => exact ⟨yo, yn, yc, ys, ro, rn, rc, rs, rfl, rfl, I1⟩
     case measure => rw [hd, hd2]; exact hlt
   · obtain rfl : yn = 0 := by omega
     have hys : ys = [] := List.eq_nil_of_length_eq_zero I0.ylen
     have hG : val xs = ((Int.gcd x y : Int).natAbs : Int) := by
       rw [← I0.gcd, hys]
       have := val_nonneg I0.xnrm.1
       simp [val, Int.gcd]
       omega
     have T1 := T0.step I0.below
     have hxk := I0.xle
     clear q1 q3
     go_wp2_with fail
     refine (trim_any false xo xn xc xs _ I0.xlen I0.xcap I0.xnrm.1 I0.xrd (by omega)).mono ?_
     rintro e w3 ⟨neg', ao', n', cap', ds', rfl, k1, k2, k3, k4, k5, k6, k7, k8⟩
     have T2 := T1.step k8
     have HN := num_of (z := (Int.gcd x y : Int)) (k := k) k1 k2 (by omega) k4 (k5.trans hG) (k6.trans (by rw [hG])) k7 rfl (by intro _; simp)
     have c0 := T2.r0; have c1 := T2.r1; have f0 := T2.f0; have f1 := T2.f1
     have HB := T2.below
     clear k1 k2 k3 k4 k5 k6 k7 k8 T1 T2 I0
     go_wp2
     refine bodyPost_ret (v := .agg #[.bool neg', .slice ao' n' cap']) (by simp [results, Tryz.results107, go_sem, c0, c1]) rfl ?_
     exact num_ret (by omega) c0 c1 HN HB
theorem IsNum.set {w : World} {s : Bool} {ao : Option Addr} {n cap : Nat} {ds : List Int} {z : Int} {k : Nat} (h : IsNum w s ao n cap ds z k) {p : Addr} {v : Value} (h0 : w.cell? p = some v) (hv : ∀ i, v ≠ .int .u32 i) (u : Value) : IsNum (w.setCell p u) s ao n cap ds z k :=
 ⟨h.neg, h.len, h.cap, h.rd.set u h0 hv, h.nrm, h.val, h.le⟩
theorem signL_any (x0 x1 x2 x3 x4 x5 x6 x7 : Int) (wx : Words [x0, x1, x2, x3, x4, x5, x6, x7]) (w : World) : Calls Tryz.prog 80 #[L8 x0 x1 x2 x3 x4 x5 x6 x7] w (IntP (cmpI (sl x0 x1 x2 x3 x4 x5 x6 x7) 0) w) := by
 have X0 := Blk.new w [.int .u64 x0, .int .u64 x1, .int .u64 x2, .int .u64 x3, .int .u64 x4, .int .u64 x5, .int .u64 x6, .int .u64 x7] 68 rfl
 have HB := (Below.refl _ w).alloc (Nat.le_refl _) (.cells #[.int .u64 x0, .int .u64 x1, .int .u64 x2, .int .u64 x3, .int .u64 x4, .int .u64 x5, .int .u64 x6, .int .u64 x7] 68)
 obtain ⟨t1, t2, t3⟩ := sl_top wx
 have h7 : Word x7 := words_at wx 7 (by simp)
 have EZ := eqLongZ x0 x1 x2 x3 x4 x5 x6 x7
 rw [zeroL _ _ _ _ _ _ _ _ wx] at EZ
 go_enter Tryz.func80, Tryz.ntmps80
 go_wp2_with fail
 refine (isBelowL_any x0 x1 x2 x3 x4 x5 x6 x7 _).mono ?_
 rintro e w1 ⟨rfl, hB⟩
 replace X0 := X0.step hB; replace HB := HB.trans (hB.mono HB.size)
 obtain ⟨o0, o1, o2, o3, o4, o5, o6, o7⟩ := X0.cs8
 clear hB X0
 unfold Word at h7
 by_cases hp : x7 < 9223372036854775808
 · have hb : (x7 / 9223372036854775808 == 1) = false := beq_eq_false_iff_ne.2 (by omega)
   have HS : Hid (sl x0 x1 x2 x3 x4 x5 x6 x7 = val64 [x0, x1, x2, x3, x4, x5, x6, x7]) := by show _ = _; unfold sl; rw [if_pos hp]; omega
   rw [hb]
   by_cases hz : val64 [x0, x1, x2, x3, x4, x5, x6, x7] = 0
   · rw [hz] at EZ
     simp only [decide_true] at EZ
     clear t1 t2 t3
     go_wp2
     go_ret
     exact ⟨by rw [HS.out, hz]; rfl, HB⟩
   · simp only [hz, decide_false] at EZ
     have HC : Hid (cmpI (sl x0 x1 x2 x3 x4 x5 x6 x7) 0 = 1) := by show _ = _; rw [HS.out]; exact cmpI_gt (by omega)
     clear t1 t2 t3
     go_wp2
     go_ret
     exact ⟨by rw [HC.out]; rfl, HB⟩
 · have hb : (x7 / 9223372036854775808 == 1) = true := beq_iff_eq.2 (by omega)
   have HC : Hid (cmpI (sl x0 x1 x2 x3 x4 x5 x6 x7) 0 = -1) := by
     show _ = _
     apply cmpI_lt
     unfold sl
     rw [if_neg hp]
     omega
   rw [hb]
   clear t1 t2 t3 EZ
   go_wp2
   go_ret
   exact ⟨by rw [HC.out]; rfl, HB⟩
theorem sl_minus {x0 x1 x2 x3 x4 x5 x6 x7 y0 y1 y2 y3 y4 y5 y6 y7 : Int} {zs : List Int} {c : Int} (wx : Words [x0, x1, x2, x3, x4, x5, x6, x7]) (wy : Words [y0, y1, y2, y3, y4, y5, y6, y7]) (wz : Words zs) (hl : zs.length = 8) (c0 : 0 ≤ c) (c1 : c ≤ 1) (hv : val64 zs = val64 [x0, x1, x2, x3, x4, x5, x6, x7] - val64 [y0, y1, y2, y3, y4, y5, y6, y7] + c * pw64 8) (hb : -6703903964971298549787012499102923063739682910296196688861780721860882015036773488400937149083451713845015929093243025426876941405973284973216824503042048 ≤ sl x0 x1 x2 x3 x4 x5 x6 x7 - sl y0 y1 y2 y3 y4 y5 y6 y7 ∧ sl x0 x1 x2 x3 x4 x5 x6 x7 - sl y0 y1 y2 y3 y4 y5 y6 y7 < 6703903964971298549787012499102923063739682910296196688861780721860882015036773488400937149083451713845015929093243025426876941405973284973216824503042048) : ∃ z0 z1 z2 z3 z4 z5 z6 z7, zs = [z0, z1, z2, z3, z4, z5, z6, z7] ∧ sl z0 z1 z2 z3 z4 z5 z6 z7 = sl x0 x1 x2 x3 x4 x5 x6 x7 - sl y0 y1 y2 y3 y4 y5 y6 y7 := by
 obtain ⟨z0, z1, z2, z3, z4, z5, z6, z7, rfl⟩ := list8' hl
 refine ⟨z0, z1, z2, z3, z4, z5, z6, z7, rfl, ?_⟩
 obtain ⟨t1, t2, t3⟩ := sl_top wz
 obtain ⟨u1, u2, u3⟩ := sl_top wx
 obtain ⟨v1, v2, v3⟩ := sl_top wy
 rw [pw64_8] at hv
 unfold sl at hb ⊢
 generalize val64 [z0, z1, z2, z3, z4, z5, z6, z7] = Z at *
 generalize val64 [x0, x1, x2, x3, x4, x5, x6, x7] = X at *
 generalize val64 [y0, y1, y2, y3, y4, y5, y6, y7] = Y at *
 simp only [t1, u1, v1] at hb ⊢
 clear t1 u1 v1
 by_cases hz : Z < 6703903964971298549787012499102923063739682910296196688861780721860882015036773488400937149083451713845015929093243025426876941405973284973216824503042048 <;> by_cases hx : X < 6703903964971298549787012499102923063739682910296196688861780721860882015036773488400937149083451713845015929093243025426876941405973284973216824503042048 <;> by_cases hy : Y < 6703903964971298549787012499102923063739682910296196688861780721860882015036773488400937149083451713845015929093243025426876941405973284973216824503042048 <;> simp only [hz, hx, hy, if_true, if_false] at hb ⊢ <;> (obtain rfl | rfl : c = 0 ∨ c = 1 := by omega) <;> omega
theorem minusL_any (x0 x1 x2 x3 x4 x5 x6 x7 y0 y1 y2 y3 y4 y5 y6 y7 : Int) (wx : Words [x0, x1, x2, x3, x4, x5, x6, x7]) (wy : Words [y0, y1, y2, y3, y4, y5, y6, y7]) (z : Int) (hz : sl x0 x1 x2 x3 x4 x5 x6 x7 - sl y0 y1 y2 y3 y4 y5 y6 y7 = z) (hb : -6703903964971298549787012499102923063739682910296196688861780721860882015036773488400937149083451713845015929093243025426876941405973284973216824503042048 ≤ z ∧ z < 6703903964971298549787012499102923063739682910296196688861780721860882015036773488400937149083451713845015929093243025426876941405973284973216824503042048) (w : World) : Calls Tryz.prog 73 #[L8 x0 x1 x2 x3 x4 x5 x6 x7, L8 y0 y1 y2 y3 y4 y5 y6 y7] w (TimesP z w) := by
 refine (minus8 x0 x1 x2 x3 x4 x5 x6 x7 y0 y1 y2 y3 y4 y5 y6 y7 wx wy w).mono ?_
 rintro e w1 ⟨zs, c, rfl, q1, q2, q3, q4, q5, hB⟩
 have z1' : zs.length = 8 := q1
 have z5' : val64 zs = val64 [x0, x1, x2, x3, x4, x5, x6, x7] - val64 [y0, y1, y2, y3, y4, y5, y6, y7] + c * pw64 8 := q5
 obtain ⟨z0, z1, z2, z3, z4, z5, z6, z7, rfl, hv⟩ := sl_minus wx wy q2 z1' q3 q4 z5' (by rw [hz]; exact hb)
 exact ⟨z0, z1, z2, z3, z4, z5, z6, z7, rfl, q2, hv.trans hz, hB⟩
def ww0 (z : Int) : Int := z % 18446744073709551616
def ww1 (z : Int) : Int := z / 18446744073709551616 % 18446744073709551616
def ww2 (z : Int) : Int := z / 340282366920938463463374607431768211456 % 18446744073709551616
def ww3 (z : Int) : Int := z / 6277101735386680763835789423207666416102355444464034512896 % 18446744073709551616
theorem wd_of {a3 a2 a1 a0 z : Int} (h3 : Word a3) (h2 : Word a2) (h1 : Word a1) (h0 : Word a0) (h : sw a3 a2 a1 a0 = z) : a3 = ww3 z ∧ a2 = ww2 z ∧ a1 = ww1 z ∧ a0 = ww0 z := by
 unfold Word sw uw ww3 ww2 ww1 ww0 at *
 split at h <;> omega
abbrev W4 (z : Int) : Value := .agg #[.int .u64 (ww3 z), .int .u64 (ww2 z), .int .u64 (ww1 z), .int .u64 (ww0 z)]
def VP (v : Value) (w : World) (e : Ending) (w' : World) : Prop := e = .returned v ∧ Below w.heap.size w w'
theorem div_unique {x y q r : Int} (hy : y ≠ 0) (he : x = q * y + r) (h0 : 0 ≤ r) (h1 : r < (y.natAbs : Int)) : x / y = q ∧ x % y = r := by
 have hm : x % y = r := by
   rw [he, Int.add_comm, Int.add_mul_emod_self_right]
   rcases Int.lt_or_gt_of_ne hy with h | h
   · rw [← Int.emod_neg]
     exact Int.emod_eq_of_lt h0 (by omega)
   · exact Int.emod_eq_of_lt h0 (by omega)
 refine ⟨?_, hm⟩
 have e := Int.emod_add_mul_ediv x y
 rw [hm] at e
 have e2 : y * (x / y) = y * q := by rw [Int.mul_comm y q]; omega
 exact Int.eq_of_mul_eq_mul_left hy e2
theorem div_parts (x y : Int) (hy : y ≠ 0) : ∃ Q R : Int, (x.natAbs : Int) / (y.natAbs : Int) = Q ∧ (x.natAbs : Int) % (y.natAbs : Int) = R ∧ 0 ≤ Q ∧ 0 ≤ R ∧ R < (y.natAbs : Int) ∧ (x.natAbs : Int) = Q * (y.natAbs : Int) + R := by
 have hp : (0 : Int) < (y.natAbs : Int) := by omega
 refine ⟨_, _, rfl, rfl, Int.ediv_nonneg (by omega) (by omega), Int.emod_nonneg _ (by omega), Int.emod_lt_of_pos _ hp, ?_⟩
 have := Int.emod_add_mul_ediv (x.natAbs : Int) (y.natAbs : Int)
 rw [Int.mul_comm] at this
 omega
theorem div_signs {x y Q R : Int} (hy : y ≠ 0) (h0 : 0 ≤ R) (h1 : R < (y.natAbs : Int)) (he : (x.natAbs : Int) = Q * (y.natAbs : Int) + R) :
   (0 ≤ x → 0 < y → x / y = Q ∧ x % y = R) ∧ (0 ≤ x → y < 0 → x / y = -Q ∧ x % y = R) ∧ (x < 0 → R = 0 → 0 < y → x / y = -Q ∧ x % y = 0) ∧ (x < 0 → R = 0 → y < 0 → x / y = Q ∧ x % y = 0) ∧
   (x < 0 → 0 < R → 0 < y → x / y = -Q - 1 ∧ x % y = -R + y) ∧ (x < 0 → 0 < R → y < 0 → x / y = Q + 1 ∧ x % y = -R - y) := by
 refine ⟨?_, ?_, ?_, ?_, ?_, ?_⟩
 · intro hx hp
   rw [show (x.natAbs : Int) = x by omega, show (y.natAbs : Int) = y by omega] at he
   exact div_unique hy he h0 h1
 · intro hx hp
   rw [show (x.natAbs : Int) = x by omega, show (y.natAbs : Int) = -y by omega] at he
   exact div_unique hy (by rw [he, Int.neg_mul, Int.mul_neg]) h0 h1
 · intro hx hR hp
   rw [show (x.natAbs : Int) = -x by omega, show (y.natAbs : Int) = y by omega] at he
   exact div_unique hy (by rw [Int.neg_mul]; omega) (by omega) (by omega)
 · intro hx hR hp
   rw [show (x.natAbs : Int) = -x by omega, show (y.natAbs : Int) = -y by omega, Int.mul_neg] at he
   exact div_unique hy (by omega) (by omega) (by omega)
 · intro hx hR hp
   rw [show (x.natAbs : Int) = -x by omega, show (y.natAbs : Int) = y by omega] at he
   exact div_unique hy (by rw [Int.sub_mul, Int.neg_mul]; omega) (by omega) (by omega)
 · intro hx hR hp
   rw [show (x.natAbs : Int) = -x by omega, show (y.natAbs : Int) = -y by omega, Int.mul_neg] at he
   exact div_unique hy (by rw [Int.add_mul]; omega) (by omega) (by omega)
theorem sl_of_val {z0 z1 z2 z3 z4 z5 z6 z7 : Int} (hz : Words [z0, z1, z2, z3, z4, z5, z6, z7]) (h : val64 [z0, z1, z2, z3, z4, z5, z6, z7] < 6703903964971298549787012499102923063739682910296196688861780721860882015036773488400937149083451713845015929093243025426876941405973284973216824503042048) : sl z0 z1 z2 z3 z4 z5 z6 z7 = val64 [z0, z1, z2, z3, z4, z5, z6, z7] := by
 obtain ⟨t1, t2, t3⟩ := sl_top hz
 unfold sl
 rw [if_pos (t1.2 h)]
 omega
theorem signedL_any (x0 x1 x2 x3 x4 x5 x6 x7 : Int) (b : Bool) (wx : Words [x0, x1, x2, x3, x4, x5, x6, x7]) (hv : val64 [x0, x1, x2, x3, x4, x5, x6, x7] < 6703903964971298549787012499102923063739682910296196688861780721860882015036773488400937149083451713845015929093243025426876941405973284973216824503042048) (w : World) : Calls Tryz.prog 63 #[L8 x0 x1 x2 x3 x4 x5 x6 x7, .bool b] w (TimesP (if b then -val64 [x0, x1, x2, x3, x4, x5, x6, x7] else val64 [x0, x1, x2, x3, x4, x5, x6, x7]) w) := by
 refine (signed_any x0 x1 x2 x3 x4 x5 x6 x7 b wx w).mono ?_
 rintro e w1 ⟨z0, z1, z2, z3, z4, z5, z6, z7, rfl, wz, ⟨c, c0, c1, hz⟩, hB⟩
 refine ⟨z0, z1, z2, z3, z4, z5, z6, z7, rfl, wz, ?_, hB⟩
 obtain ⟨t1, t2, t3⟩ := sl_top wz
 have v0 := val64_nonneg wx
 unfold sl
 generalize val64 [z0, z1, z2, z3, z4, z5, z6, z7] = Z at *
 generalize val64 [x0, x1, x2, x3, x4, x5, x6, x7] = X at *
 simp only [t1]
 clear t1
 cases b
 · simp only [Bool.false_eq_true, if_false] at hz ⊢
   rw [if_pos (by omega)]
   omega
 · simp only [if_true] at hz ⊢
   obtain rfl | rfl : c = 0 ∨ c = 1 := by omega
   · rw [if_pos (by omega)]; omega
   · rw [if_neg (by omega)]; omega
def tellV (z : Int) : Value := if told z then .tuple #[W4 z, .bool true] else .tuple #[W4 0, .bool false]
theorem tellWide_det (x0 x1 x2 x3 x4 x5 x6 x7 : Int) (wx : Words [x0, x1, x2, x3, x4, x5, x6, x7]) (z : Int) (hz : sl x0 x1 x2 x3 x4 x5 x6 x7 = z) (w : World) : Calls Tryz.prog 59 #[L8 x0 x1 x2 x3 x4 x5 x6 x7] w (VP (tellV z) w) := by
 refine (tellWide_any x0 x1 x2 x3 x4 x5 x6 x7 wx w).mono ?_
 rw [hz]
 rintro e w' ⟨hB, ⟨ht, a3, a2, a1, a0, rfl, g3, g2, g1, g0, hs⟩ | ⟨ht, rfl⟩⟩
 · obtain ⟨rfl, rfl, rfl, rfl⟩ := wd_of g3 g2 g1 g0 hs
   exact ⟨by unfold tellV; rw [ht]; rfl, hB⟩
 · exact ⟨by unfold tellV; rw [ht]; rfl, hB⟩
theorem eqZ4 (b3 b2 b1 b0 : Int) (w : World) : (Op.equalIn 10000 32 (.agg #[.int .u64 b3, .int .u64 b2, .int .u64 b1, .int .u64 b0]) (.agg #[.int .u64 0, .int .u64 0, .int .u64 0, .int .u64 0])).run Tryz.prog w = .ok (b3 == 0 && b2 == 0 && b1 == 0 && b0 == 0) w := by
 have u3 := Tryz.underlying30
 have a3 := Tryz.isAgg30
 have z3 := Tryz.sizeOf30
 rw [show (10000 : Nat) = 9999 + 1 from rfl, Op.equalIn]
 simp only [Sem.run_bind, run_underlying Tryz.underlying32, Result.andThen_ok]
 go_simp
 by_cases hb3 : b3 = 0
 · subst hb3
   by_cases hb2 : b2 = 0
   · subst hb2
     by_cases hb1 : b1 = 0
     · subst hb1
       by_cases hb0 : b0 = 0
       · subst hb0
         simp
       · simp [hb0]
     · simp [hb1]
   · simp [hb2]
 · simp [hb3]
theorem zero4 {b3 b2 b1 b0 : Int} (h3 : Word b3) (h2 : Word b2) (h1 : Word b1) (h0 : Word b0) : (b3 == 0 && b2 == 0 && b1 == 0 && b0 == 0) = decide (sw b3 b2 b1 b0 = 0) := by
 rw [Bool.eq_iff_iff]
 simp only [Bool.and_eq_true, beq_iff_eq, decide_eq_true_eq]
 unfold sw uw Word at *
 split <;> omega
theorem divL_det (x0 x1 x2 x3 x4 x5 x6 x7 y0 y1 y2 y3 y4 y5 y6 y7 q0 q1 q2 q3 q4 q5 q6 q7 r0 r1 r2 r3 r4 r5 r6 r7 : Int) (wx : Words [x0, x1, x2, x3, x4, x5, x6, x7]) (wy : Words [y0, y1, y2, y3, y4, y5, y6, y7]) (wq : Words [q0, q1, q2, q3, q4, q5, q6, q7]) (wr : Words [r0, r1, r2, r3, r4, r5, r6, r7]) (h0 : 0 < val64 [y0, y1, y2, y3, y4, y5, y6, y7]) (hq : val64 [q0, q1, q2, q3, q4, q5, q6, q7] = val64 [x0, x1, x2, x3, x4, x5, x6, x7] / val64 [y0, y1, y2, y3, y4, y5, y6, y7]) (hr : val64 [r0, r1, r2, r3, r4, r5, r6, r7] = val64 [x0, x1, x2, x3, x4, x5, x6, x7] % val64 [y0, y1, y2, y3, y4, y5, y6, y7]) (w : World) : Calls Tryz.prog 111 #[L8 x0 x1 x2 x3 x4 x5 x6 x7, L8 y0 y1 y2 y3 y4 y5 y6 y7] w (VP (.tuple #[L8 q0 q1 q2 q3 q4 q5 q6 q7, L8 r0 r1 r2 r3 r4 r5 r6 r7]) w) := by
 refine (divideLong_any [x0, x1, x2, x3, x4, x5, x6, x7] [y0, y1, y2, y3, y4, y5, y6, y7] rfl rfl wx wy h0 w).mono ?_
 rintro e w1 ⟨qs, rs, rfl, ql, rl, qw, rw', qv, rv, hB⟩
 obtain rfl : qs = [q0, q1, q2, q3, q4, q5, q6, q7] := val64_inj qw wq (ql.trans rfl) (qv.trans hq.symm)
 obtain rfl : rs = [r0, r1, r2, r3, r4, r5, r6, r7] := val64_inj rw' wr (rl.trans rfl) (rv.trans hr.symm)
 exact ⟨rfl, hB⟩
theorem sl_plus {x0 x1 x2 x3 x4 x5 x6 x7 y0 y1 y2 y3 y4 y5 y6 y7 : Int} {zs : List Int} {c : Int} (wx : Words [x0, x1, x2, x3, x4, x5, x6, x7]) (wy : Words [y0, y1, y2, y3, y4, y5, y6, y7]) (wz : Words zs) (hl : zs.length = 8) (c0 : 0 ≤ c) (c1 : c ≤ 1) (hv : val64 zs + c * pw64 8 = val64 [x0, x1, x2, x3, x4, x5, x6, x7] + val64 [y0, y1, y2, y3, y4, y5, y6, y7]) (hb : -6703903964971298549787012499102923063739682910296196688861780721860882015036773488400937149083451713845015929093243025426876941405973284973216824503042048 ≤ sl x0 x1 x2 x3 x4 x5 x6 x7 + sl y0 y1 y2 y3 y4 y5 y6 y7 ∧ sl x0 x1 x2 x3 x4 x5 x6 x7 + sl y0 y1 y2 y3 y4 y5 y6 y7 < 6703903964971298549787012499102923063739682910296196688861780721860882015036773488400937149083451713845015929093243025426876941405973284973216824503042048) : ∃ z0 z1 z2 z3 z4 z5 z6 z7, zs = [z0, z1, z2, z3, z4, z5, z6, z7] ∧ sl z0 z1 z2 z3 z4 z5 z6 z7 = sl x0 x1 x2 x3 x4 x5 x6 x7 + sl y0 y1 y2 y3 y4 y5 y6 y7 := by
 obtain ⟨z0, z1, z2, z3, z4, z5, z6, z7, rfl⟩ := list8' hl
 refine ⟨z0, z1, z2, z3, z4, z5, z6, z7, rfl, ?_⟩
 obtain ⟨t1, t2, t3⟩ := sl_top wz
 obtain ⟨u1, u2, u3⟩ := sl_top wx
 obtain ⟨v1, v2, v3⟩ := sl_top wy
 rw [pw64_8] at hv
 unfold sl at hb ⊢
 generalize val64 [z0, z1, z2, z3, z4, z5, z6, z7] = Z at *
 generalize val64 [x0, x1, x2, x3, x4, x5, x6, x7] = X at *
 generalize val64 [y0, y1, y2, y3, y4, y5, y6, y7] = Y at *
 simp only [t1, u1, v1] at hb ⊢
 clear t1 u1 v1
 by_cases hz : Z < 6703903964971298549787012499102923063739682910296196688861780721860882015036773488400937149083451713845015929093243025426876941405973284973216824503042048 <;> by_cases hx : X < 6703903964971298549787012499102923063739682910296196688861780721860882015036773488400937149083451713845015929093243025426876941405973284973216824503042048 <;> by_cases hy : Y < 6703903964971298549787012499102923063739682910296196688861780721860882015036773488400937149083451713845015929093243025426876941405973284973216824503042048 <;> simp only [hz, hx, hy, if_true, if_false] at hb ⊢ <;> (obtain rfl | rfl : c = 0 ∨ c = 1 := by omega) <;> omega
theorem plusS_any (x0 x1 x2 x3 x4 x5 x6 x7 y0 y1 y2 y3 y4 y5 y6 y7 : Int) (wx : Words [x0, x1, x2, x3, x4, x5, x6, x7]) (wy : Words [y0, y1, y2, y3, y4, y5, y6, y7]) (z : Int) (hz : sl x0 x1 x2 x3 x4 x5 x6 x7 + sl y0 y1 y2 y3 y4 y5 y6 y7 = z) (hb : -6703903964971298549787012499102923063739682910296196688861780721860882015036773488400937149083451713845015929093243025426876941405973284973216824503042048 ≤ z ∧ z < 6703903964971298549787012499102923063739682910296196688861780721860882015036773488400937149083451713845015929093243025426876941405973284973216824503042048) (w : World) : Calls Tryz.prog 43 #[L8 x0 x1 x2 x3 x4 x5 x6 x7, L8 y0 y1 y2 y3 y4 y5 y6 y7] w (TimesP z w) := by
 refine (plus8 x0 x1 x2 x3 x4 x5 x6 x7 y0 y1 y2 y3 y4 y5 y6 y7 wx wy w).mono ?_
 rintro e w1 ⟨zs, c, rfl, q1, q2, q3, q4, q5, hB⟩
 have z1' : zs.length = 8 := q1
 have z5' : val64 zs + c * pw64 8 = val64 [x0, x1, x2, x3, x4, x5, x6, x7] + val64 [y0, y1, y2, y3, y4, y5, y6, y7] := q5
 obtain ⟨z0, z1, z2, z3, z4, z5, z6, z7, rfl, hv⟩ := sl_plus wx wy q2 z1' q3 q4 z5' (by rw [hz]; exact hb)
 exact ⟨z0, z1, z2, z3, z4, z5, z6, z7, rfl, q2, hv.trans hz, hB⟩
theorem sl_inj {x0 x1 x2 x3 x4 x5 x6 x7 y0 y1 y2 y3 y4 y5 y6 y7 : Int} (wx : Words [x0, x1, x2, x3, x4, x5, x6, x7]) (wy : Words [y0, y1, y2, y3, y4, y5, y6, y7]) (h : sl x0 x1 x2 x3 x4 x5 x6 x7 = sl y0 y1 y2 y3 y4 y5 y6 y7) : [x0, x1, x2, x3, x4, x5, x6, x7] = [y0, y1, y2, y3, y4, y5, y6, y7] := by
 refine val64_inj wx wy rfl ?_
 obtain ⟨u1, u2, u3⟩ := sl_top wx
 obtain ⟨v1, v2, v3⟩ := sl_top wy
 revert h
 unfold sl
 split <;> split <;> intro h <;> omega
theorem W40 : W4 0 = .agg #[.int .u64 0, .int .u64 0, .int .u64 0, .int .u64 0] := by simp [ww3, ww2, ww1, ww0]
theorem tellV_ex (z : Int) : ∃ c3 c2 c1 c0 : Int, tellV z = .tuple #[.agg #[.int .u64 c3, .int .u64 c2, .int .u64 c1, .int .u64 c0], .bool (told z)] ∧ (told z → W4 z = .agg #[.int .u64 c3, .int .u64 c2, .int .u64 c1, .int .u64 c0]) := by
 by_cases h : told z
 · exact ⟨ww3 z, ww2 z, ww1 z, ww0 z, by unfold tellV; rw [if_pos h, h], fun _ => rfl⟩
 · exact ⟨0, 0, 0, 0, by unfold tellV; rw [if_neg h, Bool.eq_false_iff.2 h, W40], fun h' => absurd h' h⟩
theorem words8_ex (v : Int) (h0 : 0 ≤ v) (h1 : v < 13407807929942597099574024998205846127479365820592393377723561443721764030073546976801874298166903427690031858186486050853753882811946569946433649006084096) : ∃ z0 z1 z2 z3 z4 z5 z6 z7, Words [z0, z1, z2, z3, z4, z5, z6, z7] ∧ val64 [z0, z1, z2, z3, z4, z5, z6, z7] = v := by
 obtain ⟨zs, hl, hw, hv⟩ := words_ex 8 v h0 (by rw [pw64_8]; exact h1)
 obtain ⟨z0, z1, z2, z3, z4, z5, z6, z7, rfl⟩ := list8' hl
 exact ⟨z0, z1, z2, z3, z4, z5, z6, z7, hw, hv⟩
theorem ArgsB.set4g {w W : World} {vss : List (List Value)} (h : ArgsB w W vss) {g : Nat} (hg : w.heap.size + vss.length ≤ g) (v0 v1 v2 v3 : Value) : ArgsB w ((((W.setCell ⟨g, 0, none⟩ v0).setCell ⟨g, 1, none⟩ v1).setCell ⟨g, 2, none⟩ v2).setCell ⟨g, 3, none⟩ v3) vss := (((h.set (by exact hg) _).set (by exact hg) _).set (by exact hg) _).set (by exact hg) _
theorem Blk.stored4g {W : World} {g : Nat} {z0 z1 z2 z3 : Value} (G : Blk W g [z0, z1, z2, z3]) (v0 v1 v2 v3 : Value) : Blk ((((W.setCell ⟨g, 0, none⟩ v0).setCell ⟨g, 1, none⟩ v1).setCell ⟨g, 2, none⟩ v2).setCell ⟨g, 3, none⟩ v3) g [v0, v1, v2, v3] :=
 (((G.setI 0 (by simp) v0).setI 1 (by simp) v1).setI 2 (by simp) v2).setI 3 (by simp) v3
theorem Blk.newG (W : World) (o : Obj) (vs : List Value) (T : TypeId) : Blk ((W.alloc o).alloc (.cells vs.toArray T)) (W.heap.size + 1) vs := Blk.new _ _ _ (by simp)
theorem ArgsB.set8g {w W : World} {vss : List (List Value)} (h : ArgsB w W vss) {g : Nat} (hg : w.heap.size + vss.length ≤ g) (v0 v1 v2 v3 v4 v5 v6 v7 : Value) : ArgsB w ((((((((W.setCell ⟨g, 0, none⟩ v0).setCell ⟨g, 1, none⟩ v1).setCell ⟨g, 2, none⟩ v2).setCell ⟨g, 3, none⟩ v3).setCell ⟨g, 4, none⟩ v4).setCell ⟨g, 5, none⟩ v5).setCell ⟨g, 6, none⟩ v6).setCell ⟨g, 7, none⟩ v7) vss := ((((((((h.set (by exact hg) _).set (by exact hg) _).set (by exact hg) _).set (by exact hg) _).set (by exact hg) _).set (by exact hg) _).set (by exact hg) _).set (by exact hg) _)
theorem cutB_set8 {w wx : World} {vss : List (List Value)} {z0 z1 z2 z3 z4 z5 z6 z7 v0 v1 v2 v3 v4 v5 v6 v7 : Value} {g : Nat} (h : ArgsB w wx vss) (G : Blk wx g [z0, z1, z2, z3, z4, z5, z6, z7]) (hg : w.heap.size + vss.length ≤ g) :
   CutB w ((((((((wx.setCell ⟨g, 0, none⟩ v0).setCell ⟨g, 1, none⟩ v1).setCell ⟨g, 2, none⟩ v2).setCell ⟨g, 3, none⟩ v3).setCell ⟨g, 4, none⟩ v4).setCell ⟨g, 5, none⟩ v5).setCell ⟨g, 6, none⟩ v6).setCell ⟨g, 7, none⟩ v7) vss [v0, v1, v2, v3, v4, v5, v6, v7] (.pointer (some ⟨g, 0, none⟩)) := ⟨g, rfl, hg, h.set8g hg _ _ _ _ _ _ _ _, G.stored8 _ _ _ _ _ _ _ _⟩
def CutX (w wx : World) (vss : List (List Value)) (xs ys : List Value) (p q : Value) : Prop :=
 ∃ g g', p = (.pointer (some ⟨g, 0, none⟩)) ∧ q = (.pointer (some ⟨g', 0, none⟩)) ∧ g ≠ g' ∧ w.heap.size + vss.length ≤ g ∧ w.heap.size + vss.length ≤ g' ∧ ArgsB w wx vss ∧ Blk wx g xs ∧ Blk wx g' ys
theorem cutX_nn {w X : World} {vss : List (List Value)} {xs ys : List Value} {T T' : TypeId} (h : ArgsB w X vss) (hl : w.heap.size + vss.length ≤ X.heap.size) : CutX w ((X.alloc (.cells xs.toArray T)).alloc (.cells ys.toArray T')) vss xs ys (.pointer (some ⟨X.heap.size, 0, none⟩)) (.pointer (some ⟨X.heap.size + 1, 0, none⟩)) :=
 ⟨_, _, rfl, rfl, by omega, hl, by omega, (h.alloc _).alloc _, (Blk.new _ _ _ rfl).alloc _, Blk.newG _ _ _ _⟩
theorem cutX_nn' {w X : World} {vss : List (List Value)} {xs ys : List Value} {T T' : TypeId} (h : ArgsB w X vss) (hl : w.heap.size + vss.length ≤ X.heap.size) : CutX w ((X.alloc (.cells ys.toArray T)).alloc (.cells xs.toArray T')) vss xs ys (.pointer (some ⟨X.heap.size + 1, 0, none⟩)) (.pointer (some ⟨X.heap.size, 0, none⟩)) :=
 ⟨_, _, rfl, rfl, by omega, by omega, hl, (h.alloc _).alloc _, Blk.newG _ _ _ _, (Blk.new _ _ _ rfl).alloc _⟩
theorem cutX_sn {w X : World} {vss : List (List Value)} {v0 v1 v2 v3 v4 v5 v6 v7 z0 z1 z2 z3 z4 z5 z6 z7 : Value} {ys : List Value} {T : TypeId} {g : Nat} (h : ArgsB w X vss) (G : Blk X g [z0, z1, z2, z3, z4, z5, z6, z7]) (hg : w.heap.size + vss.length ≤ g) (hl : w.heap.size + vss.length ≤ X.heap.size) : CutX w (((((((((X.setCell ⟨g, 0, none⟩ v0).setCell ⟨g, 1, none⟩ v1).setCell ⟨g, 2, none⟩ v2).setCell ⟨g, 3, none⟩ v3).setCell ⟨g, 4, none⟩ v4).setCell ⟨g, 5, none⟩ v5).setCell ⟨g, 6, none⟩ v6).setCell ⟨g, 7, none⟩ v7).alloc (.cells ys.toArray T)) vss [v0, v1, v2, v3, v4, v5, v6, v7] ys (.pointer (some ⟨g, 0, none⟩)) (.pointer (some ⟨X.heap.size, 0, none⟩)) :=
 ⟨_, _, rfl, rfl, by have := G.lt; omega, hg, hl, (h.set8g hg _ _ _ _ _ _ _ _).alloc _, (G.stored8 _ _ _ _ _ _ _ _).alloc _, Blk.new _ _ _ (by simp)⟩
theorem cutX_sn' {w X : World} {vss : List (List Value)} {v0 v1 v2 v3 v4 v5 v6 v7 z0 z1 z2 z3 z4 z5 z6 z7 : Value} {xs : List Value} {T : TypeId} {g : Nat} (h : ArgsB w X vss) (G : Blk X g [z0, z1, z2, z3, z4, z5, z6, z7]) (hg : w.heap.size + vss.length ≤ g) (hl : w.heap.size + vss.length ≤ X.heap.size) : CutX w (((((((((X.setCell ⟨g, 0, none⟩ v0).setCell ⟨g, 1, none⟩ v1).setCell ⟨g, 2, none⟩ v2).setCell ⟨g, 3, none⟩ v3).setCell ⟨g, 4, none⟩ v4).setCell ⟨g, 5, none⟩ v5).setCell ⟨g, 6, none⟩ v6).setCell ⟨g, 7, none⟩ v7).alloc (.cells xs.toArray T)) vss xs [v0, v1, v2, v3, v4, v5, v6, v7] (.pointer (some ⟨X.heap.size, 0, none⟩)) (.pointer (some ⟨g, 0, none⟩)) :=
 ⟨_, _, rfl, rfl, by have := G.lt; omega, hl, hg, (h.set8g hg _ _ _ _ _ _ _ _).alloc _, Blk.new _ _ _ (by simp), (G.stored8 _ _ _ _ _ _ _ _).alloc _⟩
theorem cutX_ss {w X : World} {vss : List (List Value)} {v0 v1 v2 v3 v4 v5 v6 v7 u0 u1 u2 u3 u4 u5 u6 u7 z0 z1 z2 z3 z4 z5 z6 z7 y0 y1 y2 y3 y4 y5 y6 y7 : Value} {g g' : Nat} (h : ArgsB w X vss) (G : Blk X g [z0, z1, z2, z3, z4, z5, z6, z7]) (G' : Blk X g' [y0, y1, y2, y3, y4, y5, y6, y7]) (hg : w.heap.size + vss.length ≤ g) (hg' : w.heap.size + vss.length ≤ g') (hne : g ≠ g') : CutX w ((((((((((((((((X.setCell ⟨g, 0, none⟩ v0).setCell ⟨g, 1, none⟩ v1).setCell ⟨g, 2, none⟩ v2).setCell ⟨g, 3, none⟩ v3).setCell ⟨g, 4, none⟩ v4).setCell ⟨g, 5, none⟩ v5).setCell ⟨g, 6, none⟩ v6).setCell ⟨g, 7, none⟩ v7).setCell ⟨g', 0, none⟩ u0).setCell ⟨g', 1, none⟩ u1).setCell ⟨g', 2, none⟩ u2).setCell ⟨g', 3, none⟩ u3).setCell ⟨g', 4, none⟩ u4).setCell ⟨g', 5, none⟩ u5).setCell ⟨g', 6, none⟩ u6).setCell ⟨g', 7, none⟩ u7) vss [v0, v1, v2, v3, v4, v5, v6, v7] [u0, u1, u2, u3, u4, u5, u6, u7] (.pointer (some ⟨g, 0, none⟩)) (.pointer (some ⟨g', 0, none⟩)) :=
 ⟨_, _, rfl, rfl, hne, hg, hg', (h.set8g hg _ _ _ _ _ _ _ _).set8g hg' _ _ _ _ _ _ _ _, (G.stored8 _ _ _ _ _ _ _ _).set8 hne, (G'.set8 (fun e => hne e.symm)).stored8 _ _ _ _ _ _ _ _⟩
theorem sl_below (x0 x1 x2 x3 x4 x5 x6 x7 : Int) (wx : Words [x0, x1, x2, x3, x4, x5, x6, x7]) : (x7 / 9223372036854775808 == 1) = decide ((sl x0 x1 x2 x3 x4 x5 x6 x7) < 0) := by
 obtain ⟨t1, t2, t3⟩ := sl_top wx
 have h7 := (words8_of wx).2.2.2.2.2.2.2
 rw [Bool.eq_iff_iff]
 unfold sl
 unfold Word at h7
 simp only [beq_iff_eq, decide_eq_true_eq]
 split <;> omega
theorem isBelowL_det (x0 x1 x2 x3 x4 x5 x6 x7 : Int) (wx : Words [x0, x1, x2, x3, x4, x5, x6, x7]) (w : World) : Calls Tryz.prog 77 #[L8 x0 x1 x2 x3 x4 x5 x6 x7] w (VP (.bool (decide ((sl x0 x1 x2 x3 x4 x5 x6 x7) < 0))) w) := by
 refine (isBelowL_any x0 x1 x2 x3 x4 x5 x6 x7 w).mono ?_
 rintro e w1 ⟨rfl, hB⟩
 exact ⟨by rw [sl_below x0 x1 x2 x3 x4 x5 x6 x7 wx], hB⟩
theorem sizeX_det (x0 x1 x2 x3 x4 x5 x6 x7 : Int) (wx : Words [x0, x1, x2, x3, x4, x5, x6, x7]) (u0 u1 u2 u3 u4 u5 u6 u7 : Int) (hu : Words [u0, u1, u2, u3, u4, u5, u6, u7]) (hv : val64 [u0, u1, u2, u3, u4, u5, u6, u7] = ((sl x0 x1 x2 x3 x4 x5 x6 x7).natAbs : Int)) (w : World) : Calls Tryz.prog 76 #[L8 x0 x1 x2 x3 x4 x5 x6 x7] w (VP (L8 u0 u1 u2 u3 u4 u5 u6 u7) w) := by
 refine (sizeL_any x0 x1 x2 x3 x4 x5 x6 x7 wx w).mono ?_
 rintro e w1 ⟨zs, rfl, zl, zw, zv, hB⟩
 obtain rfl : zs = [u0, u1, u2, u3, u4, u5, u6, u7] := val64_inj zw hu (zl.trans rfl) (zv.trans hv.symm)
 exact ⟨rfl, hB⟩
theorem sh_cells {x0 x1 x2 x3 x4 x5 x6 x7 y0 y1 y2 y3 y4 y5 y6 y7 : Int} {w W : World} {cs : List (List Value)} (h : ArgsB w W ([.int .u64 x0, .int .u64 x1, .int .u64 x2, .int .u64 x3, .int .u64 x4, .int .u64 x5, .int .u64 x6, .int .u64 x7] :: [.int .u64 y0, .int .u64 y1, .int .u64 y2, .int .u64 y3, .int .u64 y4, .int .u64 y5, .int .u64 y6, .int .u64 y7] :: cs)) : (fun w' => w'.cell? ⟨w.heap.size, 0, none⟩ = some (.int .u64 x0) ∧ w'.cell? ⟨w.heap.size, 1, none⟩ = some (.int .u64 x1) ∧ w'.cell? ⟨w.heap.size, 2, none⟩ = some (.int .u64 x2) ∧ w'.cell? ⟨w.heap.size, 3, none⟩ = some (.int .u64 x3) ∧ w'.cell? ⟨w.heap.size, 4, none⟩ = some (.int .u64 x4) ∧ w'.cell? ⟨w.heap.size, 5, none⟩ = some (.int .u64 x5) ∧ w'.cell? ⟨w.heap.size, 6, none⟩ = some (.int .u64 x6) ∧ w'.cell? ⟨w.heap.size, 7, none⟩ = some (.int .u64 x7) ∧ w'.cell? ⟨w.heap.size + 1, 0, none⟩ = some (.int .u64 y0) ∧ w'.cell? ⟨w.heap.size + 1, 1, none⟩ = some (.int .u64 y1) ∧ w'.cell? ⟨w.heap.size + 1, 2, none⟩ = some (.int .u64 y2) ∧ w'.cell? ⟨w.heap.size + 1, 3, none⟩ = some (.int .u64 y3) ∧ w'.cell? ⟨w.heap.size + 1, 4, none⟩ = some (.int .u64 y4) ∧ w'.cell? ⟨w.heap.size + 1, 5, none⟩ = some (.int .u64 y5) ∧ w'.cell? ⟨w.heap.size + 1, 6, none⟩ = some (.int .u64 y6) ∧ w'.cell? ⟨w.heap.size + 1, 7, none⟩ = some (.int .u64 y7)) W :=
 ⟨(h.b 0 rfl).c 0 rfl, (h.b 0 rfl).c 1 rfl, (h.b 0 rfl).c 2 rfl, (h.b 0 rfl).c 3 rfl, (h.b 0 rfl).c 4 rfl, (h.b 0 rfl).c 5 rfl, (h.b 0 rfl).c 6 rfl, (h.b 0 rfl).c 7 rfl, (h.b 1 rfl).c 0 rfl, (h.b 1 rfl).c 1 rfl, (h.b 1 rfl).c 2 rfl, (h.b 1 rfl).c 3 rfl, (h.b 1 rfl).c 4 rfl, (h.b 1 rfl).c 5 rfl, (h.b 1 rfl).c 6 rfl, (h.b 1 rfl).c 7 rfl⟩
theorem sh_cells2 {x0 x1 x2 x3 x4 x5 x6 x7 y0 y1 y2 y3 y4 y5 y6 y7 q0 q1 q2 q3 q4 q5 q6 q7 : Int} {w W : World} {gq : Nat} (h : ArgsB w W [[.int .u64 x0, .int .u64 x1, .int .u64 x2, .int .u64 x3, .int .u64 x4, .int .u64 x5, .int .u64 x6, .int .u64 x7], [.int .u64 y0, .int .u64 y1, .int .u64 y2, .int .u64 y3, .int .u64 y4, .int .u64 y5, .int .u64 y6, .int .u64 y7]]) (G : Blk W gq [.int .u64 q0, .int .u64 q1, .int .u64 q2, .int .u64 q3, .int .u64 q4, .int .u64 q5, .int .u64 q6, .int .u64 q7]) : (fun w' => w'.cell? ⟨w.heap.size, 0, none⟩ = some (.int .u64 x0) ∧ w'.cell? ⟨w.heap.size, 1, none⟩ = some (.int .u64 x1) ∧ w'.cell? ⟨w.heap.size, 2, none⟩ = some (.int .u64 x2) ∧ w'.cell? ⟨w.heap.size, 3, none⟩ = some (.int .u64 x3) ∧ w'.cell? ⟨w.heap.size, 4, none⟩ = some (.int .u64 x4) ∧ w'.cell? ⟨w.heap.size, 5, none⟩ = some (.int .u64 x5) ∧ w'.cell? ⟨w.heap.size, 6, none⟩ = some (.int .u64 x6) ∧ w'.cell? ⟨w.heap.size, 7, none⟩ = some (.int .u64 x7) ∧ w'.cell? ⟨gq, 0, none⟩ = some (.int .u64 q0) ∧ w'.cell? ⟨gq, 1, none⟩ = some (.int .u64 q1) ∧ w'.cell? ⟨gq, 2, none⟩ = some (.int .u64 q2) ∧ w'.cell? ⟨gq, 3, none⟩ = some (.int .u64 q3) ∧ w'.cell? ⟨gq, 4, none⟩ = some (.int .u64 q4) ∧ w'.cell? ⟨gq, 5, none⟩ = some (.int .u64 q5) ∧ w'.cell? ⟨gq, 6, none⟩ = some (.int .u64 q6) ∧ w'.cell? ⟨gq, 7, none⟩ = some (.int .u64 q7)) W :=
 ⟨(h.b 0 rfl).c 0 rfl, (h.b 0 rfl).c 1 rfl, (h.b 0 rfl).c 2 rfl, (h.b 0 rfl).c 3 rfl, (h.b 0 rfl).c 4 rfl, (h.b 0 rfl).c 5 rfl, (h.b 0 rfl).c 6 rfl, (h.b 0 rfl).c 7 rfl, G.c 0 rfl, G.c 1 rfl, G.c 2 rfl, G.c 3 rfl, G.c 4 rfl, G.c 5 rfl, G.c 6 rfl, G.c 7 rfl⟩
theorem ArgsB.drop3 {w W : World} {a b c : List Value} (h : ArgsB w W [a, b, c]) : ArgsB w W [a, b] := by
 refine ⟨h.1, fun j vs hj => h.2 j vs ?_⟩
 match j, hj with
 | 0, hj => exact hj
 | 1, hj => exact hj
 | j + 2, hj => simp at hj
theorem sh_args (x0 x1 x2 x3 x4 x5 x6 x7 y0 y1 y2 y3 y4 y5 y6 y7 : Int) (w : World) : ArgsB w (((w.alloc (.cells #[.int .u64 x0, .int .u64 x1, .int .u64 x2, .int .u64 x3, .int .u64 x4, .int .u64 x5, .int .u64 x6, .int .u64 x7] 68)).alloc (.cells #[.int .u64 y0, .int .u64 y1, .int .u64 y2, .int .u64 y3, .int .u64 y4, .int .u64 y5, .int .u64 y6, .int .u64 y7] 68)).alloc (.cells #[.int .u64 0, .int .u64 0, .int .u64 0, .int .u64 0] 32)) [[.int .u64 x0, .int .u64 x1, .int .u64 x2, .int .u64 x3, .int .u64 x4, .int .u64 x5, .int .u64 x6, .int .u64 x7], [.int .u64 y0, .int .u64 y1, .int .u64 y2, .int .u64 y3, .int .u64 y4, .int .u64 y5, .int .u64 y6, .int .u64 y7], [.int .u64 0, .int .u64 0, .int .u64 0, .int .u64 0]] := by
 refine ⟨(((Below.refl _ _).alloc (Nat.le_refl _) _).alloc (by simp) _).alloc (by simp; omega) _, fun j vs hj => ?_⟩
 match j, hj with
 | 0, hj => cases hj; exact ((Blk.new w [.int .u64 x0, .int .u64 x1, .int .u64 x2, .int .u64 x3, .int .u64 x4, .int .u64 x5, .int .u64 x6, .int .u64 x7] 68 rfl).alloc _).alloc _
 | 1, hj => cases hj; exact (Blk.new (w.alloc (.cells #[.int .u64 x0, .int .u64 x1, .int .u64 x2, .int .u64 x3, .int .u64 x4, .int .u64 x5, .int .u64 x6, .int .u64 x7] 68)) [.int .u64 y0, .int .u64 y1, .int .u64 y2, .int .u64 y3, .int .u64 y4, .int .u64 y5, .int .u64 y6, .int .u64 y7] 68 (by simp)).alloc _
 | 2, hj => cases hj; exact Blk.new ((w.alloc (.cells #[.int .u64 x0, .int .u64 x1, .int .u64 x2, .int .u64 x3, .int .u64 x4, .int .u64 x5, .int .u64 x6, .int .u64 x7] 68)).alloc (.cells #[.int .u64 y0, .int .u64 y1, .int .u64 y2, .int .u64 y3, .int .u64 y4, .int .u64 y5, .int .u64 y6, .int .u64 y7] 68)) [.int .u64 0, .int .u64 0, .int .u64 0, .int .u64 0] 32 (by simp)
 | j + 3, hj => simp at hj
def shareZ (x d : Int) (b : Bool) : Int := if decide (x < 0) != b then -((x.natAbs : Int) / d) else (x.natAbs : Int) / d
theorem share_any (x0 x1 x2 x3 x4 x5 x6 x7 y0 y1 y2 y3 y4 y5 y6 y7 : Int) (b : Bool) (wx : Words [x0, x1, x2, x3, x4, x5, x6, x7]) (wy : Words [y0, y1, y2, y3, y4, y5, y6, y7]) (hy : 0 < (val64 [y0, y1, y2, y3, y4, y5, y6, y7])) (hX : -6703903964971298549787012499102923063739682910296196688861780721860882015036773488400937149083451713845015929093243025426876941405973284973216824503042048 < (sl x0 x1 x2 x3 x4 x5 x6 x7)) (w : World) : Calls Tryz.prog 72 #[L8 x0 x1 x2 x3 x4 x5 x6 x7, L8 y0 y1 y2 y3 y4 y5 y6 y7, .bool b] w (VP (tellV (shareZ (sl x0 x1 x2 x3 x4 x5 x6 x7) (val64 [y0, y1, y2, y3, y4, y5, y6, y7]) b)) w) := by
 have T0 := sh_args x0 x1 x2 x3 x4 x5 x6 x7 y0 y1 y2 y3 y4 y5 y6 y7 w
 have hX2 : (((sl x0 x1 x2 x3 x4 x5 x6 x7).natAbs : Int)) < 6703903964971298549787012499102923063739682910296196688861780721860882015036773488400937149083451713845015929093243025426876941405973284973216824503042048 := by
   obtain ⟨t1, t2, t3⟩ := sl_top wx
   revert hX
   unfold sl
   split <;> omega
 have hq0 : 0 ≤ (((sl x0 x1 x2 x3 x4 x5 x6 x7).natAbs : Int) / (val64 [y0, y1, y2, y3, y4, y5, y6, y7])) := Int.ediv_nonneg (by omega) (by omega)
 have hq1 : (((sl x0 x1 x2 x3 x4 x5 x6 x7).natAbs : Int) / (val64 [y0, y1, y2, y3, y4, y5, y6, y7])) ≤ ((sl x0 x1 x2 x3 x4 x5 x6 x7).natAbs : Int) := Int.ediv_le_self _ (by omega)
 have hr0 := Int.emod_nonneg ((sl x0 x1 x2 x3 x4 x5 x6 x7).natAbs : Int) (b := (val64 [y0, y1, y2, y3, y4, y5, y6, y7])) (by omega)
 have hr1 := Int.emod_lt_of_pos ((sl x0 x1 x2 x3 x4 x5 x6 x7).natAbs : Int) hy
 have hy1 := (sl_top wy).2.2
 obtain ⟨u0, u1, u2, u3, u4, u5, u6, u7, wu, uv⟩ := words8_ex ((sl x0 x1 x2 x3 x4 x5 x6 x7).natAbs : Int) (by omega) (by omega)
 obtain ⟨q0, q1, q2, q3, q4, q5, q6, q7, wq, qv⟩ := words8_ex (((sl x0 x1 x2 x3 x4 x5 x6 x7).natAbs : Int) / (val64 [y0, y1, y2, y3, y4, y5, y6, y7])) hq0 (by omega)
 obtain ⟨r0, r1, r2, r3, r4, r5, r6, r7, wr, rv⟩ := words8_ex (((sl x0 x1 x2 x3 x4 x5 x6 x7).natAbs : Int) % (val64 [y0, y1, y2, y3, y4, y5, y6, y7])) hr0 (by omega)
 have SA := sizeX_det x0 x1 x2 x3 x4 x5 x6 x7 wx u0 u1 u2 u3 u4 u5 u6 u7 wu uv
 have DV := divL_det u0 u1 u2 u3 u4 u5 u6 u7 y0 y1 y2 y3 y4 y5 y6 y7 q0 q1 q2 q3 q4 q5 q6 q7 r0 r1 r2 r3 r4 r5 r6 r7 wu wy wq wr hy (by rw [qv, uv]) (by rw [rv, uv])
 have NA := isBelowL_det x0 x1 x2 x3 x4 x5 x6 x7 wx
 have SG := signedL_any q0 q1 q2 q3 q4 q5 q6 q7 (decide ((sl x0 x1 x2 x3 x4 x5 x6 x7) < 0) != b) wq (by rw [qv]; omega)
 rw [qv] at SG
 obtain ⟨c3, c2, c1, c0, HT, -⟩ := tellV_ex (shareZ (sl x0 x1 x2 x3 x4 x5 x6 x7) (val64 [y0, y1, y2, y3, y4, y5, y6, y7]) b)
 have HV : Hid (tellV (shareZ (sl x0 x1 x2 x3 x4 x5 x6 x7) (val64 [y0, y1, y2, y3, y4, y5, y6, y7]) b) = .tuple #[.agg #[.int .u64 c3, .int .u64 c2, .int .u64 c1, .int .u64 c0], .bool (told (shareZ (sl x0 x1 x2 x3 x4 x5 x6 x7) (val64 [y0, y1, y2, y3, y4, y5, y6, y7]) b))]) := HT
 obtain ⟨t, ht⟩ : ∃ t, told (shareZ (sl x0 x1 x2 x3 x4 x5 x6 x7) (val64 [y0, y1, y2, y3, y4, y5, y6, y7]) b) = t := ⟨_, rfl⟩
 rw [ht] at HT HV
 have HZ : Hid ((if (decide ((sl x0 x1 x2 x3 x4 x5 x6 x7) < 0) != b) = true then -(((sl x0 x1 x2 x3 x4 x5 x6 x7).natAbs : Int) / (val64 [y0, y1, y2, y3, y4, y5, y6, y7])) else (((sl x0 x1 x2 x3 x4 x5 x6 x7).natAbs : Int) / (val64 [y0, y1, y2, y3, y4, y5, y6, y7]))) = shareZ (sl x0 x1 x2 x3 x4 x5 x6 x7) (val64 [y0, y1, y2, y3, y4, y5, y6, y7]) b) := rfl
 clear ht hX hX2 hq0 hq1 hr0 hr1 hy1 uv qv rv
 go_enter Tryz.func72, Tryz.ntmps72
 go_upto_region 1 with fail
 generalize (((w.alloc (.cells #[.int .u64 x0, .int .u64 x1, .int .u64 x2, .int .u64 x3, .int .u64 x4, .int .u64 x5, .int .u64 x6, .int .u64 x7] 68)).alloc (.cells #[.int .u64 y0, .int .u64 y1, .int .u64 y2, .int .u64 y3, .int .u64 y4, .int .u64 y5, .int .u64 y6, .int .u64 y7] 68)).alloc (.cells #[.int .u64 0, .int .u64 0, .int .u64 0, .int .u64 0] 32)) = W at *
 have hlw := (T0.b 2 rfl).lt
 go_cut [8, 9] (fun p q wx => CutX w wx [[.int .u64 x0, .int .u64 x1, .int .u64 x2, .int .u64 x3, .int .u64 x4, .int .u64 x5, .int .u64 x6, .int .u64 x7], [.int .u64 y0, .int .u64 y1, .int .u64 y2, .int .u64 y3, .int .u64 y4, .int .u64 y5, .int .u64 y6, .int .u64 y7], [.int .u64 0, .int .u64 0, .int .u64 0, .int .u64 0]] [.int .u64 q0, .int .u64 q1, .int .u64 q2, .int .u64 q3, .int .u64 q4, .int .u64 q5, .int .u64 q6, .int .u64 q7] [.int .u64 r0, .int .u64 r1, .int .u64 r2, .int .u64 r3, .int .u64 r4, .int .u64 r5, .int .u64 r6, .int .u64 r7] p q)
 case first =>
   go_region_held3 (fun w' => w'.cell? ⟨w.heap.size, 0, none⟩ = some (.int .u64 x0) ∧ w'.cell? ⟨w.heap.size, 1, none⟩ = some (.int .u64 x1) ∧ w'.cell? ⟨w.heap.size, 2, none⟩ = some (.int .u64 x2) ∧ w'.cell? ⟨w.heap.size, 3, none⟩ = some (.int .u64 x3) ∧ w'.cell? ⟨w.heap.size, 4, none⟩ = some (.int .u64 x4) ∧ w'.cell? ⟨w.heap.size, 5, none⟩ = some (.int .u64 x5) ∧ w'.cell? ⟨w.heap.size, 6, none⟩ = some (.int .u64 x6) ∧ w'.cell? ⟨w.heap.size, 7, none⟩ = some (.int .u64 x7) ∧ w'.cell? ⟨w.heap.size + 1, 0, none⟩ = some (.int .u64 y0) ∧ w'.cell? ⟨w.heap.size + 1, 1, none⟩ = some (.int .u64 y1) ∧ w'.cell? ⟨w.heap.size + 1, 2, none⟩ = some (.int .u64 y2) ∧ w'.cell? ⟨w.heap.size + 1, 3, none⟩ = some (.int .u64 y3) ∧ w'.cell? ⟨w.heap.size + 1, 4, none⟩ = some (.int .u64 y4) ∧ w'.cell? ⟨w.heap.size + 1, 5, none⟩ = some (.int .u64 y5) ∧ w'.cell? ⟨w.heap.size + 1, 6, none⟩ = some (.int .u64 y6) ∧ w'.cell? ⟨w.heap.size + 1, 7, none⟩ = some (.int .u64 y7)) ((refine sh_cells (cs := [[.int .u64 0, .int .u64 0, .int .u64 0, .int .u64 0]]) ?_ <;> repeat (first | (with_reducible exact T0) | (with_reducible refine ArgsB.drew ?_) | (with_reducible refine ArgsB.alloc ?_ _) | (with_reducible refine ArgsB.set8g ?_ (by simp; omega) _ _ _ _ _ _ _ _))))
     (first
       | (go_at_call 76; refine (SA _).mono ?_; rintro e w1 ⟨rfl, hB⟩; (first | (have T1 : ArgsB w w1 [[.int .u64 x0, .int .u64 x1, .int .u64 x2, .int .u64 x3, .int .u64 x4, .int .u64 x5, .int .u64 x6, .int .u64 x7], [.int .u64 y0, .int .u64 y1, .int .u64 y2, .int .u64 y3, .int .u64 y4, .int .u64 y5, .int .u64 y6, .int .u64 y7], [.int .u64 0, .int .u64 0, .int .u64 0, .int .u64 0]] := (by with_reducible exact T0.step hB); have tltw1 := (T0.b 2 rfl).lt; (try (replace G0 := G0.step hB; obtain ⟨j0c, j0f, j1c, j1f, j2c, j2f, j3c, j3f, j4c, j4f, j5c, j5f, j6c, j6f, j7c, j7f⟩ := G0.cf8; have jlt := G0.lt)); (try (replace G1 := G1.step hB; obtain ⟨k0c, k0f, k1c, k1f, k2c, k2f, k3c, k3f, k4c, k4f, k5c, k5f, k6c, k6f, k7c, k7f⟩ := G1.cf8; have klt := G1.lt))) | (have T1 : ArgsB w w1 [[.int .u64 x0, .int .u64 x1, .int .u64 x2, .int .u64 x3, .int .u64 x4, .int .u64 x5, .int .u64 x6, .int .u64 x7], [.int .u64 y0, .int .u64 y1, .int .u64 y2, .int .u64 y3, .int .u64 y4, .int .u64 y5, .int .u64 y6, .int .u64 y7], [.int .u64 0, .int .u64 0, .int .u64 0, .int .u64 0]] := (by with_reducible exact T0.drew.step hB); have tltw1 := (T0.b 2 rfl).lt; (try (replace G0 := G0.drew.step hB; obtain ⟨j0c, j0f, j1c, j1f, j2c, j2f, j3c, j3f, j4c, j4f, j5c, j5f, j6c, j6f, j7c, j7f⟩ := G0.cf8; have jlt := G0.lt)); (try (replace G1 := G1.drew.step hB; obtain ⟨k0c, k0f, k1c, k1f, k2c, k2f, k3c, k3f, k4c, k4f, k5c, k5f, k6c, k6f, k7c, k7f⟩ := G1.cf8; have klt := G1.lt))) | (have T1 : ArgsB w w1 [[.int .u64 x0, .int .u64 x1, .int .u64 x2, .int .u64 x3, .int .u64 x4, .int .u64 x5, .int .u64 x6, .int .u64 x7], [.int .u64 y0, .int .u64 y1, .int .u64 y2, .int .u64 y3, .int .u64 y4, .int .u64 y5, .int .u64 y6, .int .u64 y7], [.int .u64 0, .int .u64 0, .int .u64 0, .int .u64 0]] := (by with_reducible exact (T0.alloc _).step hB); have tltw1 := (T0.b 2 rfl).lt; (first | (have G1 := (Blk.new _ [.int .u64 0, .int .u64 0, .int .u64 0, .int .u64 0, .int .u64 0, .int .u64 0, .int .u64 0, .int .u64 0] _ rfl).step hB; have hgg := G0.lt; replace G0 := (G0.alloc _).step hB; obtain ⟨j0c, j0f, j1c, j1f, j2c, j2f, j3c, j3f, j4c, j4f, j5c, j5f, j6c, j6f, j7c, j7f⟩ := G0.cf8; have jlt := G0.lt; obtain ⟨k0c, k0f, k1c, k1f, k2c, k2f, k3c, k3f, k4c, k4f, k5c, k5f, k6c, k6f, k7c, k7f⟩ := G1.cf8; have klt := G1.lt) | (have G0 := (Blk.new _ [.int .u64 0, .int .u64 0, .int .u64 0, .int .u64 0, .int .u64 0, .int .u64 0, .int .u64 0, .int .u64 0] _ rfl).step hB; obtain ⟨j0c, j0f, j1c, j1f, j2c, j2f, j3c, j3f, j4c, j4f, j5c, j5f, j6c, j6f, j7c, j7f⟩ := G0.cf8; have jlt := G0.lt))) | (have T1 : ArgsB w w1 [[.int .u64 x0, .int .u64 x1, .int .u64 x2, .int .u64 x3, .int .u64 x4, .int .u64 x5, .int .u64 x6, .int .u64 x7], [.int .u64 y0, .int .u64 y1, .int .u64 y2, .int .u64 y3, .int .u64 y4, .int .u64 y5, .int .u64 y6, .int .u64 y7], [.int .u64 0, .int .u64 0, .int .u64 0, .int .u64 0]] := (by with_reducible exact (T0.alloc _).drew.step hB); have tltw1 := (T0.b 2 rfl).lt; (first | (have G1 := (Blk.new _ [.int .u64 0, .int .u64 0, .int .u64 0, .int .u64 0, .int .u64 0, .int .u64 0, .int .u64 0, .int .u64 0] _ rfl).drew.step hB; have hgg := G0.lt; replace G0 := (G0.alloc _).drew.step hB; obtain ⟨j0c, j0f, j1c, j1f, j2c, j2f, j3c, j3f, j4c, j4f, j5c, j5f, j6c, j6f, j7c, j7f⟩ := G0.cf8; have jlt := G0.lt; obtain ⟨k0c, k0f, k1c, k1f, k2c, k2f, k3c, k3f, k4c, k4f, k5c, k5f, k6c, k6f, k7c, k7f⟩ := G1.cf8; have klt := G1.lt) | (have G0 := (Blk.new _ [.int .u64 0, .int .u64 0, .int .u64 0, .int .u64 0, .int .u64 0, .int .u64 0, .int .u64 0, .int .u64 0] _ rfl).drew.step hB; obtain ⟨j0c, j0f, j1c, j1f, j2c, j2f, j3c, j3f, j4c, j4f, j5c, j5f, j6c, j6f, j7c, j7f⟩ := G0.cf8; have jlt := G0.lt))) | (have T1 : ArgsB w w1 [[.int .u64 x0, .int .u64 x1, .int .u64 x2, .int .u64 x3, .int .u64 x4, .int .u64 x5, .int .u64 x6, .int .u64 x7], [.int .u64 y0, .int .u64 y1, .int .u64 y2, .int .u64 y3, .int .u64 y4, .int .u64 y5, .int .u64 y6, .int .u64 y7], [.int .u64 0, .int .u64 0, .int .u64 0, .int .u64 0]] := (by with_reducible exact ((T0.alloc _).alloc _).step hB); have tltw1 := (T0.b 2 rfl).lt; have G0 := ((Blk.new _ [.int .u64 0, .int .u64 0, .int .u64 0, .int .u64 0, .int .u64 0, .int .u64 0, .int .u64 0, .int .u64 0] _ rfl).alloc _).step hB; have G1 := (Blk.newS _ _ [.int .u64 0, .int .u64 0, .int .u64 0, .int .u64 0, .int .u64 0, .int .u64 0, .int .u64 0, .int .u64 0] _).step hB; obtain ⟨j0c, j0f, j1c, j1f, j2c, j2f, j3c, j3f, j4c, j4f, j5c, j5f, j6c, j6f, j7c, j7f⟩ := G0.cf8; have jlt := G0.lt; obtain ⟨k0c, k0f, k1c, k1f, k2c, k2f, k3c, k3f, k4c, k4f, k5c, k5f, k6c, k6f, k7c, k7f⟩ := G1.cf8; have klt := G1.lt) | (have T1 : ArgsB w w1 [[.int .u64 x0, .int .u64 x1, .int .u64 x2, .int .u64 x3, .int .u64 x4, .int .u64 x5, .int .u64 x6, .int .u64 x7], [.int .u64 y0, .int .u64 y1, .int .u64 y2, .int .u64 y3, .int .u64 y4, .int .u64 y5, .int .u64 y6, .int .u64 y7], [.int .u64 0, .int .u64 0, .int .u64 0, .int .u64 0]] := (by with_reducible exact ((T0.alloc _).alloc _).drew.step hB); have tltw1 := (T0.b 2 rfl).lt; have G0 := ((Blk.new _ [.int .u64 0, .int .u64 0, .int .u64 0, .int .u64 0, .int .u64 0, .int .u64 0, .int .u64 0, .int .u64 0] _ rfl).alloc _).drew.step hB; have G1 := (Blk.newS _ _ [.int .u64 0, .int .u64 0, .int .u64 0, .int .u64 0, .int .u64 0, .int .u64 0, .int .u64 0, .int .u64 0] _).drew.step hB; obtain ⟨j0c, j0f, j1c, j1f, j2c, j2f, j3c, j3f, j4c, j4f, j5c, j5f, j6c, j6f, j7c, j7f⟩ := G0.cf8; have jlt := G0.lt; obtain ⟨k0c, k0f, k1c, k1f, k2c, k2f, k3c, k3f, k4c, k4f, k5c, k5f, k6c, k6f, k7c, k7f⟩ := G1.cf8; have klt := G1.lt)); clear T0; have T0 := T1; clear T1; clear hB)
       | (go_at_call 111; refine (DV _).mono ?_; rintro e w2 ⟨rfl, hB⟩; (first | (have T1 : ArgsB w w2 [[.int .u64 x0, .int .u64 x1, .int .u64 x2, .int .u64 x3, .int .u64 x4, .int .u64 x5, .int .u64 x6, .int .u64 x7], [.int .u64 y0, .int .u64 y1, .int .u64 y2, .int .u64 y3, .int .u64 y4, .int .u64 y5, .int .u64 y6, .int .u64 y7], [.int .u64 0, .int .u64 0, .int .u64 0, .int .u64 0]] := (by with_reducible exact T0.step hB); have tltw2 := (T0.b 2 rfl).lt; (try (replace G0 := G0.step hB; obtain ⟨j0c, j0f, j1c, j1f, j2c, j2f, j3c, j3f, j4c, j4f, j5c, j5f, j6c, j6f, j7c, j7f⟩ := G0.cf8; have jlt := G0.lt)); (try (replace G1 := G1.step hB; obtain ⟨k0c, k0f, k1c, k1f, k2c, k2f, k3c, k3f, k4c, k4f, k5c, k5f, k6c, k6f, k7c, k7f⟩ := G1.cf8; have klt := G1.lt))) | (have T1 : ArgsB w w2 [[.int .u64 x0, .int .u64 x1, .int .u64 x2, .int .u64 x3, .int .u64 x4, .int .u64 x5, .int .u64 x6, .int .u64 x7], [.int .u64 y0, .int .u64 y1, .int .u64 y2, .int .u64 y3, .int .u64 y4, .int .u64 y5, .int .u64 y6, .int .u64 y7], [.int .u64 0, .int .u64 0, .int .u64 0, .int .u64 0]] := (by with_reducible exact T0.drew.step hB); have tltw2 := (T0.b 2 rfl).lt; (try (replace G0 := G0.drew.step hB; obtain ⟨j0c, j0f, j1c, j1f, j2c, j2f, j3c, j3f, j4c, j4f, j5c, j5f, j6c, j6f, j7c, j7f⟩ := G0.cf8; have jlt := G0.lt)); (try (replace G1 := G1.drew.step hB; obtain ⟨k0c, k0f, k1c, k1f, k2c, k2f, k3c, k3f, k4c, k4f, k5c, k5f, k6c, k6f, k7c, k7f⟩ := G1.cf8; have klt := G1.lt))) | (have T1 : ArgsB w w2 [[.int .u64 x0, .int .u64 x1, .int .u64 x2, .int .u64 x3, .int .u64 x4, .int .u64 x5, .int .u64 x6, .int .u64 x7], [.int .u64 y0, .int .u64 y1, .int .u64 y2, .int .u64 y3, .int .u64 y4, .int .u64 y5, .int .u64 y6, .int .u64 y7], [.int .u64 0, .int .u64 0, .int .u64 0, .int .u64 0]] := (by with_reducible exact (T0.alloc _).step hB); have tltw2 := (T0.b 2 rfl).lt; (first | (have G1 := (Blk.new _ [.int .u64 0, .int .u64 0, .int .u64 0, .int .u64 0, .int .u64 0, .int .u64 0, .int .u64 0, .int .u64 0] _ rfl).step hB; have hgg := G0.lt; replace G0 := (G0.alloc _).step hB; obtain ⟨j0c, j0f, j1c, j1f, j2c, j2f, j3c, j3f, j4c, j4f, j5c, j5f, j6c, j6f, j7c, j7f⟩ := G0.cf8; have jlt := G0.lt; obtain ⟨k0c, k0f, k1c, k1f, k2c, k2f, k3c, k3f, k4c, k4f, k5c, k5f, k6c, k6f, k7c, k7f⟩ := G1.cf8; have klt := G1.lt) | (have G0 := (Blk.new _ [.int .u64 0, .int .u64 0, .int .u64 0, .int .u64 0, .int .u64 0, .int .u64 0, .int .u64 0, .int .u64 0] _ rfl).step hB; obtain ⟨j0c, j0f, j1c, j1f, j2c, j2f, j3c, j3f, j4c, j4f, j5c, j5f, j6c, j6f, j7c, j7f⟩ := G0.cf8; have jlt := G0.lt))) | (have T1 : ArgsB w w2 [[.int .u64 x0, .int .u64 x1, .int .u64 x2, .int .u64 x3, .int .u64 x4, .int .u64 x5, .int .u64 x6, .int .u64 x7], [.int .u64 y0, .int .u64 y1, .int .u64 y2, .int .u64 y3, .int .u64 y4, .int .u64 y5, .int .u64 y6, .int .u64 y7], [.int .u64 0, .int .u64 0, .int .u64 0, .int .u64 0]] := (by with_reducible exact (T0.alloc _).drew.step hB); have tltw2 := (T0.b 2 rfl).lt; (first | (have G1 := (Blk.new _ [.int .u64 0, .int .u64 0, .int .u64 0, .int .u64 0, .int .u64 0, .int .u64 0, .int .u64 0, .int .u64 0] _ rfl).drew.step hB; have hgg := G0.lt; replace G0 := (G0.alloc _).drew.step hB; obtain ⟨j0c, j0f, j1c, j1f, j2c, j2f, j3c, j3f, j4c, j4f, j5c, j5f, j6c, j6f, j7c, j7f⟩ := G0.cf8; have jlt := G0.lt; obtain ⟨k0c, k0f, k1c, k1f, k2c, k2f, k3c, k3f, k4c, k4f, k5c, k5f, k6c, k6f, k7c, k7f⟩ := G1.cf8; have klt := G1.lt) | (have G0 := (Blk.new _ [.int .u64 0, .int .u64 0, .int .u64 0, .int .u64 0, .int .u64 0, .int .u64 0, .int .u64 0, .int .u64 0] _ rfl).drew.step hB; obtain ⟨j0c, j0f, j1c, j1f, j2c, j2f, j3c, j3f, j4c, j4f, j5c, j5f, j6c, j6f, j7c, j7f⟩ := G0.cf8; have jlt := G0.lt))) | (have T1 : ArgsB w w2 [[.int .u64 x0, .int .u64 x1, .int .u64 x2, .int .u64 x3, .int .u64 x4, .int .u64 x5, .int .u64 x6, .int .u64 x7], [.int .u64 y0, .int .u64 y1, .int .u64 y2, .int .u64 y3, .int .u64 y4, .int .u64 y5, .int .u64 y6, .int .u64 y7], [.int .u64 0, .int .u64 0, .int .u64 0, .int .u64 0]] := (by with_reducible exact ((T0.alloc _).alloc _).step hB); have tltw2 := (T0.b 2 rfl).lt; have G0 := ((Blk.new _ [.int .u64 0, .int .u64 0, .int .u64 0, .int .u64 0, .int .u64 0, .int .u64 0, .int .u64 0, .int .u64 0] _ rfl).alloc _).step hB; have G1 := (Blk.newS _ _ [.int .u64 0, .int .u64 0, .int .u64 0, .int .u64 0, .int .u64 0, .int .u64 0, .int .u64 0, .int .u64 0] _).step hB; obtain ⟨j0c, j0f, j1c, j1f, j2c, j2f, j3c, j3f, j4c, j4f, j5c, j5f, j6c, j6f, j7c, j7f⟩ := G0.cf8; have jlt := G0.lt; obtain ⟨k0c, k0f, k1c, k1f, k2c, k2f, k3c, k3f, k4c, k4f, k5c, k5f, k6c, k6f, k7c, k7f⟩ := G1.cf8; have klt := G1.lt) | (have T1 : ArgsB w w2 [[.int .u64 x0, .int .u64 x1, .int .u64 x2, .int .u64 x3, .int .u64 x4, .int .u64 x5, .int .u64 x6, .int .u64 x7], [.int .u64 y0, .int .u64 y1, .int .u64 y2, .int .u64 y3, .int .u64 y4, .int .u64 y5, .int .u64 y6, .int .u64 y7], [.int .u64 0, .int .u64 0, .int .u64 0, .int .u64 0]] := (by with_reducible exact ((T0.alloc _).alloc _).drew.step hB); have tltw2 := (T0.b 2 rfl).lt; have G0 := ((Blk.new _ [.int .u64 0, .int .u64 0, .int .u64 0, .int .u64 0, .int .u64 0, .int .u64 0, .int .u64 0, .int .u64 0] _ rfl).alloc _).drew.step hB; have G1 := (Blk.newS _ _ [.int .u64 0, .int .u64 0, .int .u64 0, .int .u64 0, .int .u64 0, .int .u64 0, .int .u64 0, .int .u64 0] _).drew.step hB; obtain ⟨j0c, j0f, j1c, j1f, j2c, j2f, j3c, j3f, j4c, j4f, j5c, j5f, j6c, j6f, j7c, j7f⟩ := G0.cf8; have jlt := G0.lt; obtain ⟨k0c, k0f, k1c, k1f, k2c, k2f, k3c, k3f, k4c, k4f, k5c, k5f, k6c, k6f, k7c, k7f⟩ := G1.cf8; have klt := G1.lt)); clear T0; have T0 := T1; clear T1; clear hB))
   all_goals go_wp2_with fail
   all_goals go_meet
   all_goals have hl : w.heap.size + ([[.int .u64 x0, .int .u64 x1, .int .u64 x2, .int .u64 x3, .int .u64 x4, .int .u64 x5, .int .u64 x6, .int .u64 x7], [.int .u64 y0, .int .u64 y1, .int .u64 y2, .int .u64 y3, .int .u64 y4, .int .u64 y5, .int .u64 y6, .int .u64 y7], [.int .u64 0, .int .u64 0, .int .u64 0, .int .u64 0]] : List (List Value)).length ≤ w2.heap.size := (T0.b 2 rfl).lt
   all_goals first | (with_reducible exact cutX_nn T0 hl) | (with_reducible exact cutX_nn' T0 hl) | (with_reducible exact cutX_sn T0 G0 (by simp; omega) hl) | (with_reducible exact cutX_sn' T0 G0 (by simp; omega) hl) | (with_reducible exact cutX_ss T0 G0 G1 (by simp; omega) (by simp; omega) (by omega)) | (with_reducible exact cutX_ss T0 G1 G0 (by simp; omega) (by simp; omega) (by omega))
 case rest =>
   clear T0 SA DV hlw
   obtain ⟨gq, gr, hp, hq, hne, hgq, hgr, T3, GQ, GR⟩ := hcut
   have R0 : Blk _ (w.heap.size + 1 + 1) _ := T3.b 2 rfl
   have T0 := T3.drop3
   have hgq3 : w.heap.size + 3 ≤ gq := hgq
   clear T3 hgq hgr
   subst hp; subst hq
   clear GR
   have hlw := (T0.b 1 rfl).lt
   have hlr := R0.lt
   have hlq := GQ.lt
   go_upto_region 2 with fail
   go_region_held3 (fun w' => w'.cell? ⟨w.heap.size, 0, none⟩ = some (.int .u64 x0) ∧ w'.cell? ⟨w.heap.size, 1, none⟩ = some (.int .u64 x1) ∧ w'.cell? ⟨w.heap.size, 2, none⟩ = some (.int .u64 x2) ∧ w'.cell? ⟨w.heap.size, 3, none⟩ = some (.int .u64 x3) ∧ w'.cell? ⟨w.heap.size, 4, none⟩ = some (.int .u64 x4) ∧ w'.cell? ⟨w.heap.size, 5, none⟩ = some (.int .u64 x5) ∧ w'.cell? ⟨w.heap.size, 6, none⟩ = some (.int .u64 x6) ∧ w'.cell? ⟨w.heap.size, 7, none⟩ = some (.int .u64 x7) ∧ w'.cell? ⟨gq, 0, none⟩ = some (.int .u64 q0) ∧ w'.cell? ⟨gq, 1, none⟩ = some (.int .u64 q1) ∧ w'.cell? ⟨gq, 2, none⟩ = some (.int .u64 q2) ∧ w'.cell? ⟨gq, 3, none⟩ = some (.int .u64 q3) ∧ w'.cell? ⟨gq, 4, none⟩ = some (.int .u64 q4) ∧ w'.cell? ⟨gq, 5, none⟩ = some (.int .u64 q5) ∧ w'.cell? ⟨gq, 6, none⟩ = some (.int .u64 q6) ∧ w'.cell? ⟨gq, 7, none⟩ = some (.int .u64 q7)) ((refine sh_cells2 (y0 := y0) ( y1 := y1) ( y2 := y2) ( y3 := y3) ( y4 := y4) ( y5 := y5) ( y6 := y6) ( y7 := y7) ?_ ?_ <;> repeat (first | (with_reducible exact T0) | (with_reducible exact GQ) | (with_reducible refine ArgsB.drew ?_) | (with_reducible refine Blk.drew ?_) | (with_reducible refine ArgsB.set4g ?_ (by simp <;> omega) _ _ _ _) | (with_reducible refine Blk.set4 ?_ (by omega)))))
     (first
       | (go_at_call 77; refine (NA _).mono ?_; rintro e w3 ⟨rfl, hB⟩; (first | (have T1 : ArgsB w w3 [[.int .u64 x0, .int .u64 x1, .int .u64 x2, .int .u64 x3, .int .u64 x4, .int .u64 x5, .int .u64 x6, .int .u64 x7], [.int .u64 y0, .int .u64 y1, .int .u64 y2, .int .u64 y3, .int .u64 y4, .int .u64 y5, .int .u64 y6, .int .u64 y7]] := (by with_reducible exact T0.step hB); have tltw3 := (T0.b 1 rfl).lt; have lR0w3 := R0.lt; replace R0 := R0.step hB; have lGQw3 := GQ.lt; replace GQ := GQ.step hB; skip) | (have T1 : ArgsB w w3 [[.int .u64 x0, .int .u64 x1, .int .u64 x2, .int .u64 x3, .int .u64 x4, .int .u64 x5, .int .u64 x6, .int .u64 x7], [.int .u64 y0, .int .u64 y1, .int .u64 y2, .int .u64 y3, .int .u64 y4, .int .u64 y5, .int .u64 y6, .int .u64 y7]] := (by with_reducible exact T0.drew.step hB); have tltw3 := (T0.b 1 rfl).lt; have lR0w3 := R0.lt; replace R0 := R0.drew.step hB; have lGQw3 := GQ.lt; replace GQ := GQ.drew.step hB; skip)); clear T0; have T0 := T1; clear T1; clear hB)
       | (go_at_call 63; refine (SG _).mono ?_; rintro e w4 ⟨n0, n1, n2, n3, n4, n5, n6, n7, rfl, wn, nv, hB⟩; (first | (have T1 : ArgsB w w4 [[.int .u64 x0, .int .u64 x1, .int .u64 x2, .int .u64 x3, .int .u64 x4, .int .u64 x5, .int .u64 x6, .int .u64 x7], [.int .u64 y0, .int .u64 y1, .int .u64 y2, .int .u64 y3, .int .u64 y4, .int .u64 y5, .int .u64 y6, .int .u64 y7]] := (by with_reducible exact T0.step hB); have tltw4 := (T0.b 1 rfl).lt; have lR0w4 := R0.lt; replace R0 := R0.step hB; have lGQw4 := GQ.lt; replace GQ := GQ.step hB; skip) | (have T1 : ArgsB w w4 [[.int .u64 x0, .int .u64 x1, .int .u64 x2, .int .u64 x3, .int .u64 x4, .int .u64 x5, .int .u64 x6, .int .u64 x7], [.int .u64 y0, .int .u64 y1, .int .u64 y2, .int .u64 y3, .int .u64 y4, .int .u64 y5, .int .u64 y6, .int .u64 y7]] := (by with_reducible exact T0.drew.step hB); have tltw4 := (T0.b 1 rfl).lt; have lR0w4 := R0.lt; replace R0 := R0.drew.step hB; have lGQw4 := GQ.lt; replace GQ := GQ.drew.step hB; skip)); clear T0; have T0 := T1; clear T1; clear hB)
       | (go_at_call 59; refine (tellWide_det n0 n1 n2 n3 n4 n5 n6 n7 wn _ (nv.trans HZ.out) _).mono ?_; rw [HT]; rintro e w5 ⟨rfl, hB⟩; (first | (have T1 : ArgsB w w5 [[.int .u64 x0, .int .u64 x1, .int .u64 x2, .int .u64 x3, .int .u64 x4, .int .u64 x5, .int .u64 x6, .int .u64 x7], [.int .u64 y0, .int .u64 y1, .int .u64 y2, .int .u64 y3, .int .u64 y4, .int .u64 y5, .int .u64 y6, .int .u64 y7]] := (by with_reducible exact T0.step hB); have tltw5 := (T0.b 1 rfl).lt; have lR0w5 := R0.lt; replace R0 := R0.step hB; have lGQw5 := GQ.lt; replace GQ := GQ.step hB; skip) | (have T1 : ArgsB w w5 [[.int .u64 x0, .int .u64 x1, .int .u64 x2, .int .u64 x3, .int .u64 x4, .int .u64 x5, .int .u64 x6, .int .u64 x7], [.int .u64 y0, .int .u64 y1, .int .u64 y2, .int .u64 y3, .int .u64 y4, .int .u64 y5, .int .u64 y6, .int .u64 y7]] := (by with_reducible exact T0.drew.step hB); have tltw5 := (T0.b 1 rfl).lt; have lR0w5 := R0.lt; replace R0 := R0.drew.step hB; have lGQw5 := GQ.lt; replace GQ := GQ.drew.step hB; skip)); clear T0; have T0 := T1; clear T1; obtain ⟨o0c, o0f, o1c, o1f, o2c, o2f, o3c, o3f⟩ := R0.cf4; have olt := R0.lt; clear hB))
   all_goals have HB := T0.below
   all_goals clear T0 GQ
   all_goals go_wp2
   all_goals refine bodyPost_ret (v := .tuple #[.agg #[.int .u64 c3, .int .u64 c2, .int .u64 c1, .int .u64 c0], .bool t]) (by simp [results, Tryz.results72, go_sem, o0c, o1c, o2c, o3c]) rfl ?_
   all_goals refine ⟨by rw [HV.out], ?_⟩
   all_goals (try (with_reducible refine Below.drew ?_))
   all_goals repeat' (refine Below.setCell ?_ (by simp; try omega) _)
   all_goals exact HB
theorem implOf_det (n : Int) (w : World) (h0 : -9223372036854775808 ≤ n) (h1 : n ≤ 9223372036854775807) : Calls Tryz.prog 30 #[.int .i64 n] w (VP (W4 n) w) := by
 refine (implOf_any n w h0 h1).mono ?_
 rintro e w' ⟨a3, a2, a1, a0, rfl, g3, g2, g1, g0, hs, hB⟩
 obtain ⟨rfl, rfl, rfl, rfl⟩ := wd_of g3 g2 g1 g0 hs
 exact ⟨rfl, hB⟩
theorem toWp_det (s : Bool) (ao : Option Addr) (n cap : Nat) (ds : List Int) (z : Int) (k : Nat) (w : World) (h : IsNum w s ao n cap ds z k) (hk : k ≤ 1000000) (ht : told z = true) :
   Calls Tryz.prog 66 #[.agg #[.bool s, .slice ao n cap]] w (VP (.tuple #[W4 z, .bool true]) w) := by
 refine (toW_any s ao n cap ds z k w h hk).mono ?_
 rintro e w' ⟨hB, ⟨_, a3, a2, a1, a0, rfl, g3, g2, g1, g0, hs⟩ | ⟨hf, _⟩⟩
 · obtain ⟨rfl, rfl, rfl, rfl⟩ := wd_of g3 g2 g1 g0 hs
   exact ⟨rfl, hB⟩
 · rw [ht] at hf; cases hf
def L3P (k : Nat) (x y z : Int) (w : World) (e : Ending) (w' : World) : Prop :=
 ∃ (s1 : Bool) (o1 : Option Addr) (n1 c1 : Nat) (d1 : List Int) (s2 : Bool) (o2 : Option Addr) (n2 c2 : Nat) (d2 : List Int) (s3 : Bool) (o3 : Option Addr) (n3 c3 : Nat) (d3 : List Int), e = .returned (.agg #[.bool s1, .slice o1 n1 c1, .bool s2, .slice o2 n2 c2, .bool s3, .slice o3 n3 c3]) ∧ IsNum w' s1 o1 n1 c1 d1 x k ∧ IsNum w' s2 o2 n2 c2 d2 y k ∧ IsNum w' s3 o3 n3 c3 d3 z k ∧ Below w.heap.size w w'
theorem IsNum.setp {w : World} {s : Bool} {ao : Option Addr} {n cap : Nat} {ds : List Int} {z : Int} {k : Nat} (h : IsNum w s ao n cap ds z k) {p : Addr} {v : Value} (u : Value) (hp : w.cell? p = some v) (hv : ∀ x, v ≠ .int .u32 x) : IsNum (w.setCell p u) s ao n cap ds z k :=
 h.set hp hv u
theorem num_set6 {w : World} {s : Bool} {ao : Option Addr} {n cap : Nat} {ds : List Int} {z : Int} {k R : Nat} (h : IsNum w s ao n cap ds z k) (B : Blk w R [.bool false, .slice none 0 0, .bool false, .slice none 0 0, .bool false, .slice none 0 0]) (v0 v1 v2 v3 v4 v5 : Value) : IsNum ((((((w.setCell ⟨R, 0, none⟩ v0).setCell ⟨R, 1, none⟩ v1).setCell ⟨R, 2, none⟩ v2).setCell ⟨R, 3, none⟩ v3).setCell ⟨R, 4, none⟩ v4).setCell ⟨R, 5, none⟩ v5) s ao n cap ds z k := by
 have h1 := h.setp v0 (B.c 0 rfl) (by intro x e; cases e)
 have B1 := B.setI 0 (by simp) v0
 have h2 := h1.setp v1 (B1.c 1 rfl) (by intro x e; cases e)
 have B2 := B1.setI 1 (by simp) v1
 have h3 := h2.setp v2 (B2.c 2 rfl) (by intro x e; cases e)
 have B3 := B2.setI 2 (by simp) v2
 have h4 := h3.setp v3 (B3.c 3 rfl) (by intro x e; cases e)
 have B4 := B3.setI 3 (by simp) v3
 have h5 := h4.setp v4 (B4.c 4 rfl) (by intro x e; cases e)
 have B5 := B4.setI 4 (by simp) v4
 have h6 := h5.setp v5 (B5.c 5 rfl) (by intro x e; cases e)
 have B6 := B5.setI 5 (by simp) v5
 exact h6
theorem l3_cells {x y : Int} {w W : World} (h : ArgsB w W [[.int .i64 x, .int .i64 y], [.bool false, .slice none 0 0, .bool false, .slice none 0 0, .bool false, .slice none 0 0]]) : (fun w' => w'.cell? ⟨w.heap.size, 0, none⟩ = some (.int .i64 x) ∧ w'.cell? ⟨w.heap.size, 1, none⟩ = some (.int .i64 y)) W := ⟨(h.b 0 rfl).c 0 rfl, (h.b 0 rfl).c 1 rfl⟩
theorem l3_cells6 {x y : Int} {w W : World} {v0 v1 v2 v3 v4 v5 : Value} (h : ArgsB w W [[.int .i64 x, .int .i64 y], [.bool false, .slice none 0 0, .bool false, .slice none 0 0, .bool false, .slice none 0 0]]) : (fun w' => w'.cell? ⟨w.heap.size, 0, none⟩ = some (.int .i64 x) ∧ w'.cell? ⟨w.heap.size, 1, none⟩ = some (.int .i64 y)) ((((((W.setCell ⟨w.heap.size + 1, 0, none⟩ v0).setCell ⟨w.heap.size + 1, 1, none⟩ v1).setCell ⟨w.heap.size + 1, 2, none⟩ v2).setCell ⟨w.heap.size + 1, 3, none⟩ v3).setCell ⟨w.heap.size + 1, 4, none⟩ v4).setCell ⟨w.heap.size + 1, 5, none⟩ v5) := by
 have a : Blk _ (w.heap.size + 0) _ := (((((((h.b 0 rfl).setO (p := ⟨w.heap.size + 1, 0, none⟩) (by show w.heap.size + 0 ≠ w.heap.size + 1; omega) v0).setO (p := ⟨w.heap.size + 1, 1, none⟩) (by show w.heap.size + 0 ≠ w.heap.size + 1; omega) v1).setO (p := ⟨w.heap.size + 1, 2, none⟩) (by show w.heap.size + 0 ≠ w.heap.size + 1; omega) v2).setO (p := ⟨w.heap.size + 1, 3, none⟩) (by show w.heap.size + 0 ≠ w.heap.size + 1; omega) v3).setO (p := ⟨w.heap.size + 1, 4, none⟩) (by show w.heap.size + 0 ≠ w.heap.size + 1; omega) v4).setO (p := ⟨w.heap.size + 1, 5, none⟩) (by show w.heap.size + 0 ≠ w.heap.size + 1; omega) v5)
 exact ⟨a.c 0 rfl, a.c 1 rfl⟩
theorem l3_start (x y : Int) (w : World) : ArgsB w ((w.alloc (.cells #[.int .i64 x, .int .i64 y] 25)).alloc (.cells #[.bool false, .slice none 0 0, .bool false, .slice none 0 0, .bool false, .slice none 0 0] 92)) [[.int .i64 x, .int .i64 y], [.bool false, .slice none 0 0, .bool false, .slice none 0 0, .bool false, .slice none 0 0]] := by
 refine ⟨((Below.refl _ _).alloc (Nat.le_refl _) _).alloc (by simp) _, fun j vs hj => ?_⟩
 match j, hj with
 | 0, hj => cases hj; exact (Blk.new w [.int .i64 x, .int .i64 y] 25 rfl).alloc _
 | 1, hj => cases hj; exact Blk.new (w.alloc (.cells #[.int .i64 x, .int .i64 y] 25)) [.bool false, .slice none 0 0, .bool false, .slice none 0 0, .bool false, .slice none 0 0] 92 (by simp)
 | j + 2, hj => simp at hj
theorem l3Spot_any (x y : Int) (hx0 : -9223372036854775808 ≤ x) (hx1 : x ≤ 9223372036854775807) (hy0 : -9223372036854775808 ≤ y) (hy1 : y ≤ 9223372036854775807) (w : World) :
   Calls Tryz.prog 88 #[.agg #[.int .i64 x, .int .i64 y]] w (L3P 2 x y 1 w) := by
 have T0 := l3_start x y w
 have tok1 : True := trivial
 have tok2 : True := trivial
 go_enter Tryz.func88, Tryz.ntmps88
 go_upto_region 1 with fail
 generalize ((w.alloc (.cells #[.int .i64 x, .int .i64 y] 25)).alloc (.cells #[.bool false, .slice none 0 0, .bool false, .slice none 0 0, .bool false, .slice none 0 0] 92)) = W at *
 go_region_held3 (fun w' => w'.cell? ⟨w.heap.size, 0, none⟩ = some (.int .i64 x) ∧ w'.cell? ⟨w.heap.size, 1, none⟩ = some (.int .i64 y)) (first | (with_reducible exact l3_cells T0) | (with_reducible exact l3_cells T0.drew) | (with_reducible exact l3_cells6 T0))
   (first
     | (go_at_call 67; have _t := tok1; refine (int_any x _ hx0 hx1).mono ?_; rintro e w1 ⟨s1, o1, n1, c1, d1, rfl, N1, hB⟩; (first | (have T1 := T0.step hB) | (have T1 := T0.drew.step hB)); clear T0; have T0 := T1; clear T1; clear tok1 _t hB)
     | (go_at_call 67; have _t := tok2; refine (int_any y _ hy0 hy1).mono ?_; rintro e w2 ⟨s2, o2, n2, c2, d2, rfl, N2, hB⟩; replace N1 := N1.below hB; (first | (have T1 := T0.step hB) | (have T1 := T0.drew.step hB)); clear T0; have T0 := T1; clear T1; clear tok2 _t hB)
     | (go_at_call 67; refine (int_any 1 _ (by decide) (by decide)).mono ?_; rintro e w3 ⟨s3, o3, n3, c3, d3, rfl, N3, hB⟩; replace N1 := N1.below hB; replace N2 := N2.below hB; (first | (have T1 := T0.step hB) | (have T1 := T0.drew.step hB)); clear T0; have T0 := T1; clear T1; have r0 := (T0.b 1 rfl).c 0 rfl; have f0 := (T0.b 1 rfl).f 0 rfl; have r1 := (T0.b 1 rfl).c 1 rfl; have f1 := (T0.b 1 rfl).f 1 rfl; have r2 := (T0.b 1 rfl).c 2 rfl; have f2 := (T0.b 1 rfl).f 2 rfl; have r3 := (T0.b 1 rfl).c 3 rfl; have f3 := (T0.b 1 rfl).f 3 rfl; have r4 := (T0.b 1 rfl).c 4 rfl; have f4 := (T0.b 1 rfl).f 4 rfl; have r5 := (T0.b 1 rfl).c 5 rfl; have f5 := (T0.b 1 rfl).f 5 rfl; have rlt := (T0.b 1 rfl).lt; clear hB))
 all_goals have HB := T0.below
 all_goals have M1 := num_set6 N1 (T0.b 1 rfl) (.bool s1) (.slice o1 n1 c1) (.bool s2) (.slice o2 n2 c2) (.bool s3) (.slice o3 n3 c3)
 all_goals have M2 := num_set6 N2 (T0.b 1 rfl) (.bool s1) (.slice o1 n1 c1) (.bool s2) (.slice o2 n2 c2) (.bool s3) (.slice o3 n3 c3)
 all_goals have M3 := num_set6 N3 (T0.b 1 rfl) (.bool s1) (.slice o1 n1 c1) (.bool s2) (.slice o2 n2 c2) (.bool s3) (.slice o3 n3 c3)
 all_goals clear T0 N1 N2 N3
 all_goals go_wp2
 all_goals refine bodyPost_ret (v := .agg #[.bool s1, .slice o1 n1 c1, .bool s2, .slice o2 n2 c2, .bool s3, .slice o3 n3 c3]) (by simp [results, Tryz.results88, go_sem, r0, r1, r2, r3, r4, r5]) rfl ?_
 all_goals refine ⟨s1, o1, n1, c1, d1, s2, o2, n2, c2, d2, s3, o3, n3, c3, d3, rfl, M1, M2, M3, ?_⟩
 all_goals repeat' (refine Below.setCell ?_ (by simp) _)
 all_goals exact HB
theorem ret_bool {a b : Bool} (h : b = a) : Ending.returned (.bool a) = .returned (.bool b) := by rw [h]
def small (z : Int) : Bool := decide ((z.natAbs : Int) < 1208925819614629174706176)
theorem bits_small {v : Int} {b : Nat} (h : BitsOf v b) : b ≤ 80 ↔ v < 1208925819614629174706176 := by
 obtain ⟨h0, h1, h2⟩ := h
 have e : (2 : Int) ^ 80 = 1208925819614629174706176 := by decide
 constructor
 · intro hb
   have := ipow2_mono hb
   omega
 · intro hv
   apply Decidable.byContradiction
   intro hb
   rcases h2 with h2 | h2
   · omega
   · have := ipow2_mono (show 80 ≤ b - 1 by omega)
     omega
theorem l3Small_any (s1 : Bool) (o1 : Option Addr) (n1 c1 : Nat) (d1 : List Int) (s2 : Bool) (o2 : Option Addr) (n2 c2 : Nat) (d2 : List Int) (s3 : Bool) (o3 : Option Addr) (n3 c3 : Nat) (d3 : List Int) (x y z : Int) (k : Nat) (hk : k ≤ 100000) (w : World) (N1 : IsNum w s1 o1 n1 c1 d1 x k) (N2 : IsNum w s2 o2 n2 c2 d2 y k) (N3 : IsNum w s3 o3 n3 c3 d3 z k) :
   Calls Tryz.prog 91 #[.agg #[.bool s1, .slice o1 n1 c1, .bool s2, .slice o2 n2 c2, .bool s3, .slice o3 n3 c3]] w (BoolP (small x && small y && small z) w) := by
 have B0 := Blk.new w [.bool s1, .slice o1 n1 c1, .bool s2, .slice o2 n2 c2, .bool s3, .slice o3 n3 c3] 92 rfl
 have HB0 : Below w.heap.size w (w.alloc (.cells #[.bool s1, .slice o1 n1 c1, .bool s2, .slice o2 n2 c2, .bool s3, .slice o3 n3 c3] 92)) := (Below.refl _ _).alloc (Nat.le_refl _) _
 replace N1 := N1.below HB0
 replace N2 := N2.below HB0
 replace N3 := N3.below HB0
 by_cases h1 : small x = true
 · by_cases h2 : small y = true
   · by_cases h3 : small z = true
     · go_enter Tryz.func91, Tryz.ntmps91
       go_wp2_with fail
       refine (bits_any o1 n1 c1 d1 _ N1.len N1.nrm N1.rd (by have := N1.le; omega)).mono ?_
       rintro e w1 ⟨b1, rfl, hb1, hB⟩
       rw [N1.val] at hb1
       have q1 : (b1 : Int) ≤ 80 := by have := bits_small hb1; have := h1; unfold small at this; simp at this ⊢; omega
       have HB1 : Below w.heap.size w w1 := HB0.trans (hB.mono HB0.size)
       replace B0 := B0.step hB
       replace N1 := N1.below hB
       replace N2 := N2.below hB
       replace N3 := N3.below hB
       clear hB hb1
       obtain ⟨e0, e1, e2, e3, e4, e5⟩ := B0.cs6; have elt := B0.lt
       go_wp2_with fail
       refine (bits_any o2 n2 c2 d2 _ N2.len N2.nrm N2.rd (by have := N2.le; omega)).mono ?_
       rintro e w2 ⟨b2, rfl, hb2, hB⟩
       rw [N2.val] at hb2
       have q2 : (b2 : Int) ≤ 80 := by have := bits_small hb2; have := h2; unfold small at this; simp at this ⊢; omega
       have HB2 : Below w.heap.size w w2 := HB1.trans (hB.mono HB1.size)
       replace B0 := B0.step hB
       replace N1 := N1.below hB
       replace N2 := N2.below hB
       replace N3 := N3.below hB
       clear e0 e1 e2 e3 e4 e5 elt
       clear hB hb2
       obtain ⟨e0, e1, e2, e3, e4, e5⟩ := B0.cs6; have elt := B0.lt
       go_wp2_with fail
       refine (bits_any o3 n3 c3 d3 _ N3.len N3.nrm N3.rd (by have := N3.le; omega)).mono ?_
       rintro e w3 ⟨b3, rfl, hb3, hB⟩
       rw [N3.val] at hb3
       have q3 : (b3 : Int) ≤ 80 := by have := bits_small hb3; have := h3; unfold small at this; simp at this ⊢; omega
       have HB3 : Below w.heap.size w w3 := HB2.trans (hB.mono HB2.size)
       clear e0 e1 e2 e3 e4 e5 elt
       clear hB hb3
       go_wp2
       go_ret
       exact ⟨ret_bool (by simp [h1, h2, h3]), HB3⟩
     · have h3 := Bool.eq_false_iff.2 h3
       go_enter Tryz.func91, Tryz.ntmps91
       go_wp2_with fail
       refine (bits_any o1 n1 c1 d1 _ N1.len N1.nrm N1.rd (by have := N1.le; omega)).mono ?_
       rintro e w1 ⟨b1, rfl, hb1, hB⟩
       rw [N1.val] at hb1
       have q1 : (b1 : Int) ≤ 80 := by have := bits_small hb1; have := h1; unfold small at this; simp at this ⊢; omega
       have HB1 : Below w.heap.size w w1 := HB0.trans (hB.mono HB0.size)
       replace B0 := B0.step hB
       replace N1 := N1.below hB
       replace N2 := N2.below hB
       replace N3 := N3.below hB
       clear hB hb1
       obtain ⟨e0, e1, e2, e3, e4, e5⟩ := B0.cs6; have elt := B0.lt
       go_wp2_with fail
       refine (bits_any o2 n2 c2 d2 _ N2.len N2.nrm N2.rd (by have := N2.le; omega)).mono ?_
       rintro e w2 ⟨b2, rfl, hb2, hB⟩
       rw [N2.val] at hb2
       have q2 : (b2 : Int) ≤ 80 := by have := bits_small hb2; have := h2; unfold small at this; simp at this ⊢; omega
       have HB2 : Below w.heap.size w w2 := HB1.trans (hB.mono HB1.size)
       replace B0 := B0.step hB
       replace N1 := N1.below hB
       replace N2 := N2.below hB
       replace N3 := N3.below hB
       clear e0 e1 e2 e3 e4 e5 elt
       clear hB hb2
       obtain ⟨e0, e1, e2, e3, e4, e5⟩ := B0.cs6; have elt := B0.lt
       go_wp2_with fail
       refine (bits_any o3 n3 c3 d3 _ N3.len N3.nrm N3.rd (by have := N3.le; omega)).mono ?_
       rintro e w3 ⟨b3, rfl, hb3, hB⟩
       rw [N3.val] at hb3
       have q3 : decide ((b3 : Int) ≤ 80) = false := by have := bits_small hb3; have := h3; unfold small at this; simp at this ⊢; omega
       have HB3 : Below w.heap.size w w3 := HB2.trans (hB.mono HB2.size)
       clear e0 e1 e2 e3 e4 e5 elt
       clear hB hb3
       go_wp2
       go_ret
       exact ⟨ret_bool (by simp [h1, h2, h3]; try (simp at q3; omega)), HB3⟩
   · have h2 := Bool.eq_false_iff.2 h2
     go_enter Tryz.func91, Tryz.ntmps91
     go_wp2_with fail
     refine (bits_any o1 n1 c1 d1 _ N1.len N1.nrm N1.rd (by have := N1.le; omega)).mono ?_
     rintro e w1 ⟨b1, rfl, hb1, hB⟩
     rw [N1.val] at hb1
     have q1 : (b1 : Int) ≤ 80 := by have := bits_small hb1; have := h1; unfold small at this; simp at this ⊢; omega
     have HB1 : Below w.heap.size w w1 := HB0.trans (hB.mono HB0.size)
     replace B0 := B0.step hB
     replace N1 := N1.below hB
     replace N2 := N2.below hB
     replace N3 := N3.below hB
     clear hB hb1
     obtain ⟨e0, e1, e2, e3, e4, e5⟩ := B0.cs6; have elt := B0.lt
     go_wp2_with fail
     refine (bits_any o2 n2 c2 d2 _ N2.len N2.nrm N2.rd (by have := N2.le; omega)).mono ?_
     rintro e w2 ⟨b2, rfl, hb2, hB⟩
     rw [N2.val] at hb2
     have q2 : decide ((b2 : Int) ≤ 80) = false := by have := bits_small hb2; have := h2; unfold small at this; simp at this ⊢; omega
     have HB2 : Below w.heap.size w w2 := HB1.trans (hB.mono HB1.size)
     clear e0 e1 e2 e3 e4 e5 elt
     clear hB hb2
     go_wp2
     go_ret
     exact ⟨ret_bool (by simp [h1, h2]; try (simp at q2; omega)), HB2⟩
 · have h1 := Bool.eq_false_iff.2 h1
   go_enter Tryz.func91, Tryz.ntmps91
   go_wp2_with fail
   refine (bits_any o1 n1 c1 d1 _ N1.len N1.nrm N1.rd (by have := N1.le; omega)).mono ?_
   rintro e w1 ⟨b1, rfl, hb1, hB⟩
   rw [N1.val] at hb1
   have q1 : decide ((b1 : Int) ≤ 80) = false := by have := bits_small hb1; have := h1; unfold small at this; simp at this ⊢; omega
   have HB1 : Below w.heap.size w w1 := HB0.trans (hB.mono HB0.size)
   clear hB hb1
   go_wp2
   go_ret
   exact ⟨ret_bool (by simp [h1]; try (simp at q1; omega)), HB1⟩
end Go.Proofs.YtpnnpkchogooaaaGreat
