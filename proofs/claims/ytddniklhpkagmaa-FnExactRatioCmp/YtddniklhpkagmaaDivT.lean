/- The walk of one digit of the program's long division. -/
import Derived.Test.YtddniklhpkagmaaDivX
import Derived.Test.YtddniklhpkagmaaDivU
import Derived.Deep.LoopGhost
import Derived.WalkMore
import Derived.Deep.RegionHeld3
namespace Go.Proofs.Ytddniklhpkagmaa
open Go.RowKit
/-- What stands while a digit is sought. -/
structure Tk (w wr : World) (rs ys : List Int) : Prop where
  below : Below w.heap.size w wr
  r : Blk wr w.heap.size (rs.map (Value.int .u64))
  y : Blk wr (w.heap.size + 1) (ys.map (Value.int .u64))
  o : Blk wr (w.heap.size + 1 + 1) (List.replicate 9 (Value.int .u64 0))
theorem Tk.step {w wr wr' : World} {rs ys : List Int} (h : Tk w wr rs ys) (hB : Below wr.heap.size wr wr') : Tk w wr' rs ys := ⟨h.below.trans (hB.mono h.below.size), h.r.step hB, h.y.step hB, h.o.step hB⟩
theorem Tk.drew {w wr : World} {rs ys : List Int} (h : Tk w wr rs ys) : Tk w wr.drew rs ys := ⟨h.below.drew, h.r, h.y, h.o⟩
theorem Tk.drewN {w wr : World} {rs ys : List Int} (h : Tk w wr rs ys) (n : Nat) : Tk w (wr.drewN n) rs ys := ⟨bdrew h.below n, h.r, h.y, h.o⟩
theorem Tk.cr {w wr : World} {rs ys : List Int} (h : Tk w wr rs ys) (j : Nat) (hj : j < rs.length) : wr.cell? ⟨w.heap.size, j, none⟩ = some (.int .u64 rs[j]) := h.r.c j (by simp [hj])
theorem Tk.cy {w wr : World} {rs ys : List Int} (h : Tk w wr rs ys) (j : Nat) (hj : j < ys.length) : wr.cell? ⟨w.heap.size + 1, j, none⟩ = some (.int .u64 ys[j]) := h.y.c j (by simp [hj])
theorem below_set9 {B g : Nat} {w W : World} {v0 v1 v2 v3 v4 v5 v6 v7 v8 : Value} (hg : B ≤ g) (h : Below B w W) : Below B w (((((((((W.setCell ⟨g, 0, none⟩ v0).setCell ⟨g, 1, none⟩ v1).setCell ⟨g, 2, none⟩ v2).setCell ⟨g, 3, none⟩ v3).setCell ⟨g, 4, none⟩ v4).setCell ⟨g, 5, none⟩ v5).setCell ⟨g, 6, none⟩ v6).setCell ⟨g, 7, none⟩ v7).setCell ⟨g, 8, none⟩ v8) :=
  (((((((((h.setCell hg _).setCell hg _).setCell hg _).setCell hg _).setCell hg _).setCell hg _).setCell hg _).setCell hg _).setCell hg _)
set_option maxRecDepth 100000 in
set_option maxHeartbeats 2000000 in
theorem takeDigit_any (rs ys : List Int) (n place : Nat) (HK : Kn rs ys n place) (w : World) : Calls Try.prog 103 #[agg rs, agg ys, .int .i64 n, .int .i64 place] w (DigP rs ys n place w) := by
  obtain ⟨hl, hm, hr, hy, hn, hp, _, _⟩ := id HK
  have HL : Hid (rs.length = 9) := hl
  have HM : Hid (ys.length = 9) := hm
  have HR : Hid (Words rs) := hr
  have HY : Hid (Words ys) := hy
  obtain ⟨x0, x1, x2, x3, x4, x5, x6, x7, x8, hxs⟩ := list9 hl
  have HA : agg rs = .agg #[.int .u64 x0, .int .u64 x1, .int .u64 x2, .int .u64 x3, .int .u64 x4, .int .u64 x5, .int .u64 x6, .int .u64 x7, .int .u64 x8] := by rw [hxs]; rfl
  have AX : rs.map (Value.int .u64) = [.int .u64 x0, .int .u64 x1, .int .u64 x2, .int .u64 x3, .int .u64 x4, .int .u64 x5, .int .u64 x6, .int .u64 x7, .int .u64 x8] := by rw [hxs]; rfl
  rw [HA]
  clear HA
  obtain ⟨y0, y1, y2, y3, y4, y5, y6, y7, y8, hys⟩ := list9 hm
  have HA : agg ys = .agg #[.int .u64 y0, .int .u64 y1, .int .u64 y2, .int .u64 y3, .int .u64 y4, .int .u64 y5, .int .u64 y6, .int .u64 y7, .int .u64 y8] := by rw [hys]; rfl
  have AY : ys.map (Value.int .u64) = [.int .u64 y0, .int .u64 y1, .int .u64 y2, .int .u64 y3, .int .u64 y4, .int .u64 y5, .int .u64 y6, .int .u64 y7, .int .u64 y8] := by rw [hys]; rfl
  rw [HA]
  have HAG : Hid (agg ys = .agg #[.int .u64 y0, .int .u64 y1, .int .u64 y2, .int .u64 y3, .int .u64 y4, .int .u64 y5, .int .u64 y6, .int .u64 y7, .int .u64 y8]) := HA
  have HS : Tk w (((w.alloc (.cells #[.int .u64 x0, .int .u64 x1, .int .u64 x2, .int .u64 x3, .int .u64 x4, .int .u64 x5, .int .u64 x6, .int .u64 x7, .int .u64 x8] 121)).alloc (.cells #[.int .u64 y0, .int .u64 y1, .int .u64 y2, .int .u64 y3, .int .u64 y4, .int .u64 y5, .int .u64 y6, .int .u64 y7, .int .u64 y8] 121)).alloc (.cells #[.int .u64 0, .int .u64 0, .int .u64 0, .int .u64 0, .int .u64 0, .int .u64 0, .int .u64 0, .int .u64 0, .int .u64 0] 121)) rs ys :=
    ⟨(((Below.refl _ _).alloc (Nat.le_refl _) _).alloc (by simp) _).alloc (by simp; omega) _, by rw [AX]; exact ((Blk.new w _ _ rfl).alloc _).alloc _, by rw [AY]; exact (Blk.new _ [.int .u64 y0, .int .u64 y1, .int .u64 y2, .int .u64 y3, .int .u64 y4, .int .u64 y5, .int .u64 y6, .int .u64 y7, .int .u64 y8] _ (by simp)).alloc _, Blk.new _ [.int .u64 0, .int .u64 0, .int .u64 0, .int .u64 0, .int .u64 0, .int .u64 0, .int .u64 0, .int .u64 0, .int .u64 0] _ (by simp)⟩
  obtain ⟨m, hmn⟩ : ∃ m, m + 1 = n := ⟨n - 1, by omega⟩
  obtain ⟨pn, hpn⟩ : ∃ k, place + n = k := ⟨_, rfl⟩
  obtain ⟨pm, hpm⟩ : ∃ k, place + m = k := ⟨_, rfl⟩
  have HMN : Hid (m + 1 = n) := hmn
  have HPN : Hid (place + n = pn) := hpn
  have HPM : Hid (place + m = pm) := hpm
  have a1 : IntKind.i64.wrap ((place : Int) + (n : Int)) = (pn : Int) := by rw [IntKind.wrap_i64]; omega
  have a2 : IntKind.i64.wrap ((pn : Int) - 1) = (pm : Int) := by rw [IntKind.wrap_i64]; omega
  have a3 : IntKind.i64.wrap ((n : Int) - 1) = (m : Int) := by rw [IntKind.wrap_i64]; omega
  have b1 : (0 : Int) ≤ pn := by omega
  have b2 : (pn : Int) < 9 := by omega
  have b3 : (0 : Int) ≤ pm := by omega
  have b4 : (pm : Int) < 9 := by omega
  have b5 : (0 : Int) ≤ m := by omega
  have b6 : (m : Int) < 9 := by omega
  have i1 : pn < rs.length := by omega
  have i2 : pm < rs.length := by omega
  have i3 : m < ys.length := by omega
  have w1 := words_at hr _ i1
  have w2 := words_at hr _ i2
  have w3 := words_at hy _ i3
  have HAY : Hid (ys.map (Value.int .u64) = [.int .u64 y0, .int .u64 y1, .int .u64 y2, .int .u64 y3, .int .u64 y4, .int .u64 y5, .int .u64 y6, .int .u64 y7, .int .u64 y8]) := AY
  clear HA hxs hys hl hm hr hy AX AY hmn hpn hpm
  go_enter Try.func103, Try.ntmps103
  go_wp2_with fail
  go_step3
  go_wp2_with fail
  generalize (((w.alloc (.cells #[.int .u64 x0, .int .u64 x1, .int .u64 x2, .int .u64 x3, .int .u64 x4, .int .u64 x5, .int .u64 x6, .int .u64 x7, .int .u64 x8] 121)).alloc (.cells #[.int .u64 y0, .int .u64 y1, .int .u64 y2, .int .u64 y3, .int .u64 y4, .int .u64 y5, .int .u64 y6, .int .u64 y7, .int .u64 y8] 121)).alloc (.cells #[.int .u64 0, .int .u64 0, .int .u64 0, .int .u64 0, .int .u64 0, .int .u64 0, .int .u64 0, .int .u64 0, .int .u64 0] 121)) = W at *
  obtain ⟨g, hg⟩ : ∃ g, guessV rs[pn] rs[pm] ys[m] = g := ⟨_, rfl⟩
  have GC := guess_any rs[pn] rs[pm] ys[m] w1 w2 w3
  go_region_held3 (fun w' => w'.cell? ⟨w.heap.size, pn, none⟩ = some (.int .u64 rs[pn]) ∧ w'.cell? ⟨w.heap.size, pm, none⟩ = some (.int .u64 rs[pm]) ∧ w'.cell? ⟨w.heap.size + 1, m, none⟩ = some (.int .u64 ys[m])) (first | (with_reducible exact ⟨HS.cr _ i1, HS.cr _ i2, HS.cy _ i3⟩) | (with_reducible exact ⟨HS.drew.cr _ i1, HS.drew.cr _ i2, HS.drew.cy _ i3⟩))
    ((go_at_call 121; refine (GC _).mono ?_; rintro e w4 ⟨rfl, hB⟩; rw [hg]; (first | (have T1 := HS.step hB) | (have T1 := HS.drew.step hB)); clear HS; have HS := T1; clear T1 hB))
  obtain ⟨G1, G2, G3⟩ := HK.guess HMN.out HPN.out HPM.out i1 i2 i3
  rw [hg] at G1 G2 G3
  have BP := HK.pos
  have WP := val64_nonneg (win_words HR.out place (n + 1))
  obtain ⟨WV, eW⟩ : ∃ x, val64 (win rs place (n + 1)) = x := ⟨_, rfl⟩
  obtain ⟨BV, eB⟩ : ∃ x, val64 (ys.take n) = x := ⟨_, rfl⟩
  have HEW : Hid (val64 (win rs place (n + 1)) = WV) := eW
  have HEB : Hid (val64 (ys.take n) = BV) := eB
  rw [eW] at G1 WP
  rw [eB] at G1 BP
  clear GC hg eW eB w1 w2 w3 a1 a2 a3
  go_wp2_with fail
  go_step3
  go_wp2_with fail
  go_loopg [10] g.toNat (fun k p wr => ∃ d : Int, p = .int .u64 d ∧ d.toNat = k ∧ 0 ≤ d ∧ d < 18446744073709551616 ∧ WV / BV ≤ d ∧ Tk w wr rs ys)
  case atStart => exact ⟨g, rfl, rfl, G2, G3, G1, HS⟩
  case round =>
    clear HS G1 G2 G3
    obtain ⟨d, rfl, rfl, d0, d1, hd, HT⟩ := hrel
    have c0 := HT.y
    rw [HAY.out] at c0
    have y0c := c0.c 0 rfl; have y1c := c0.c 1 rfl; have y2c := c0.c 2 rfl; have y3c := c0.c 3 rfl; have y4c := c0.c 4 rfl; have y5c := c0.c 5 rfl; have y6c := c0.c 6 rfl; have y7c := c0.c 7 rfl; have y8c := c0.c 8 rfl
    have TC := timesDigit_any ys n d HM.out HY.out ⟨d0, d1⟩ (by omega)
    rw [HAG.out] at TC
    clear c0
    go_wp2_with fail
    refine (TC _).mono ?_
    rintro e w5 ⟨ps, rfl, pl, pw, pv, hB⟩
    replace HT := HT.step hB
    clear hB TC y0c y1c y2c y3c y4c y5c y6c y7c y8c
    have PV := HK.part ⟨d0, d1⟩ pl pw pv
    rw [HEB.out] at PV
    have HPV : Hid (val64 (ps.take (n + 1)) = d * BV) := PV
    have HPL : Hid (ps.length = 9) := pl
    have HPW : Hid (Words ps) := pw
    obtain ⟨p0, p1, p2, p3, p4, p5, p6, p7, p8, hps⟩ := list9 pl
    have HPA : agg ps = .agg #[.int .u64 p0, .int .u64 p1, .int .u64 p2, .int .u64 p3, .int .u64 p4, .int .u64 p5, .int .u64 p6, .int .u64 p7, .int .u64 p8] := by rw [hps]; rfl
    have PX : ps.map (Value.int .u64) = [.int .u64 p0, .int .u64 p1, .int .u64 p2, .int .u64 p3, .int .u64 p4, .int .u64 p5, .int .u64 p6, .int .u64 p7, .int .u64 p8] := by rw [hps]; rfl
    rw [HPA]
    have HPX : Hid (ps.map (Value.int .u64) = [.int .u64 p0, .int .u64 p1, .int .u64 p2, .int .u64 p3, .int .u64 p4, .int .u64 p5, .int .u64 p6, .int .u64 p7, .int .u64 p8]) := PX
    clear HPA PX hps pl pw pv PV
    go_upto_block 2 with fail
    have GP : Blk (w5.alloc (.cells #[.int .u64 p0, .int .u64 p1, .int .u64 p2, .int .u64 p3, .int .u64 p4, .int .u64 p5, .int .u64 p6, .int .u64 p7, .int .u64 p8] 121)) w5.heap.size (ps.map (Value.int .u64)) := by rw [HPX.out]; exact Blk.new w5 [.int .u64 p0, .int .u64 p1, .int .u64 p2, .int .u64 p3, .int .u64 p4, .int .u64 p5, .int .u64 p6, .int .u64 p7, .int .u64 p8] 121 rfl
    have hgp := HT.o.lt
    replace HT := HT.step ((Below.refl w5.heap.size w5).alloc (Nat.le_refl _) (.cells #[.int .u64 p0, .int .u64 p1, .int .u64 p2, .int .u64 p3, .int .u64 p4, .int .u64 p5, .int .u64 p6, .int .u64 p7, .int .u64 p8] 121))
    generalize w5.alloc (.cells #[.int .u64 p0, .int .u64 p1, .int .u64 p2, .int .u64 p3, .int .u64 p4, .int .u64 p5, .int .u64 p6, .int .u64 p7, .int .u64 p8] 121) = W5 at *
    generalize w5.heap.size = gp at *
    have hr9 : place + (n + 1) ≤ rs.length := by have := HL.out; omega
    have hp9 : n + 1 ≤ ps.length := by have := HPL.out; omega
    have hd1 : IntKind.u64.wrap (d - 1) = IntKind.u64.wrap (d - 1) := rfl
    go_cut [12] (fun _ wx => d * BV ≤ WV ∧ Tk w wx rs ys ∧ Blk wx gp (ps.map (Value.int .u64)))
    case first =>
      go_wp2_with fail
      go_loopg [12] (n + 1) (fun k p wr => ∃ i : Int, p = .int .i64 i ∧ i + 1 = (k : Int) ∧ k ≤ n + 1 ∧ Alike rs ps n place k ∧ Tk w wr rs ys ∧ Blk wr gp (ps.map (Value.int .u64)))
      case atStart => exact ⟨(n : Int), rfl, by omega, by omega, alike_start hr9 hp9, HT, GP⟩
      case round =>
        clear HT GP
        obtain ⟨i, rfl, hi, hk, hA, HT, GP⟩ := hrel
        rcases Nat.eq_zero_or_pos gk with h0 | h0
        · subst h0
          obtain rfl : i = -1 := by omega
          have HE := alike_all hA
          rw [HPV.out, HEW.out] at HE
          have HE' : Hid (d * BV ≤ WV) := by show _ ≤ _; omega
          clear HE hA
          go_wp2
          go_meet
          case rel => exact ⟨HE'.out, HT, GP⟩
        · obtain ⟨k, rfl⟩ : ∃ k, gk = k + 1 := ⟨gk - 1, by omega⟩
          obtain rfl : i = (k : Int) := by omega
          have hk1 : k < n + 1 := by omega
          have j1 : k < ps.length := by omega
          have j2 : place + k < rs.length := by omega
          have e1 : wr.cell? ⟨gp, k, none⟩ = some (.int .u64 ps[k]) := GP.c k (by simp [j1])
          have e2 := HT.cr (place + k) j2
          have bb1 : (0 : Int) ≤ k := by omega
          have bb2 : (k : Int) < 9 := by have := HPL.out; omega
          have bb3 : (place : Int) + (k : Int) < 9 := by have := HL.out; omega
          have A1 := alike_less HR.out HPW.out hA hr9 hp9 hk1
          have A2 := alike_more HR.out HPW.out hA hr9 hp9 hk1
          have A3 := alike_step hA hr9 hp9 hk1
          rw [HPV.out, HEW.out] at A1 A2
          clear hi hA h0
          generalize hx : ps[k] = x at *
          generalize hy : rs[place + k] = y at *
          clear hx hy
          rcases Int.lt_trichotomy x y with hc | hc | hc
          · have HE : Hid (d * BV ≤ WV) := by show _ ≤ _; have := A1 hc; omega
            clear A1 A2 A3
            go_wp2
            go_quiet (fail)
            go_wp2
            go_quiet (fail)
            go_wp2
            go_meet
            case rel => exact ⟨HE.out, by first | exact HT.drewN _ | exact (HT.drewN _).drewN _, GP⟩
          · have HA := A3 hc
            subst hc
            clear A1 A2 A3
            go_wp2
            go_quiet (fail)
            go_wp2
            go_quiet (fail)
            go_wp2
            go_roundg k
            case measure => omega
            case rel => exact ⟨(k : Int) - 1, by go_num, by omega, by omega, HA, by first | exact HT.drewN _ | exact (HT.drewN _).drewN _, GP⟩
          · obtain ⟨K1, K2⟩ := kn_more BP WP (A2 hc)
            have hw := wrap_word (show 0 ≤ d - 1 by omega) (show d - 1 < 18446744073709551616 by omega)
            clear A1 A2 A3
            go_wp2
            go_quiet (fail)
            go_wp2
            go_roundg (d - 1).toNat
            case measure => omega
            case rel => exact ⟨d - 1, rfl, rfl, by omega, by omega, K1, HT.drewN _⟩
    case rest =>
      clear HT GP
      obtain ⟨HLE, HT, GP⟩ := hcut
      have HD : Hid (d = WV / BV) := kn_digit BP hd HLE
      have SL1 := slice9_lh w.heap.size place (place + n + 1) (by omega) (by omega) (by omega) (place : Int) ((place : Int) + (n : Int) + 1) rfl (by omega)
      have SL2 := slice9_j gp (n + 1) (by omega) ((n : Int) + 1) (by omega)
      rw [show place + n + 1 - place = n + 1 by omega] at SL1
      have rx := blk_row HT.r hr9
      have ry := blk_row_take GP hp9
      have TW := fun ca cc cb => takeWords_any w.heap.size gp place 0 (n + 1) ca cc cb (win rs place (n + 1)) (ps.take (n + 1)) wc (win_len hr9) (by simp; omega) (win_words HR.out _ _) (words_take HPW.out _) rx ry (by omega) (by omega)
      clear rx ry
      go_wp2_with fail
      refine (TW _ _ _).mono ?_
      rintro e w6 ⟨zs, c, rfl, l1, l2, l3, l4, l5, l6, l7⟩
      have ZV := kn_left l2 l1 l3 l4 l5 (by rw [HPV.out, HEW.out]; exact HLE)
      rw [HPV.out] at ZV
      have RB := blk_put HT.r l6 (by rw [l1]; exact l7) (by rw [l1]; exact hr9)
      have OB := blk_wrote HT.o l7 (by omega)
      have HB := HT.below.trans (l7.below (Nat.le_refl _))
      have PVL := put_val (rs := rs) (place := place) l1 hr9
      rw [ZV] at PVL
      have PLN := put_len (rs := rs) (zs := zs) (place := place) (by rw [l1]; exact hr9)
      have PWD := put_words (place := place) HR.out l2
      have HF : Hid ((put rs place zs).length = 9 ∧ Words (put rs place zs) ∧ val64 (put rs place zs) = val64 rs - pw64 place * (val64 (win rs place (n + 1)) / val64 (ys.take n) * val64 (ys.take n))) := by
        refine ⟨by rw [PLN]; exact HL.out, PWD, ?_⟩
        rw [PVL, HEW.out, HEB.out, ← HD.out]
        generalize pw64 place = p
        grind
      obtain ⟨HF1, HF2, HF3⟩ := HF.out
      generalize put rs place zs = qs at *
      obtain ⟨z0, z1, z2, z3, z4, z5, z6, z7, z8, rfl⟩ := list9 HF1
      clear TW SL1 SL2 l1 l2 l3 l4 l5 l6 l7 ZV PVL PLN PWD HF1 HF2 HF3 HT GP
      have r0c := RB.c 0 rfl; have o0c := OB.c 0 rfl; have o0f := OB.f 0 rfl
      have r1c := RB.c 1 rfl; have o1c := OB.c 1 rfl; have o1f := OB.f 1 rfl
      have r2c := RB.c 2 rfl; have o2c := OB.c 2 rfl; have o2f := OB.f 2 rfl
      have r3c := RB.c 3 rfl; have o3c := OB.c 3 rfl; have o3f := OB.f 3 rfl
      have r4c := RB.c 4 rfl; have o4c := OB.c 4 rfl; have o4f := OB.f 4 rfl
      have r5c := RB.c 5 rfl; have o5c := OB.c 5 rfl; have o5f := OB.f 5 rfl
      have r6c := RB.c 6 rfl; have o6c := OB.c 6 rfl; have o6f := OB.f 6 rfl
      have r7c := RB.c 7 rfl; have o7c := OB.c 7 rfl; have o7f := OB.f 7 rfl
      have r8c := RB.c 8 rfl; have o8c := OB.c 8 rfl; have o8f := OB.f 8 rfl
      have olt := OB.lt
      clear RB OB
      go_wp2
      go_region
      go_wp2
      try rw [Exit.noGoto_ret]
      refine bodyPost_ret (v := .tuple #[.int .u64 d, .agg #[.int .u64 z0, .int .u64 z1, .int .u64 z2, .int .u64 z3, .int .u64 z4, .int .u64 z5, .int .u64 z6, .int .u64 z7, .int .u64 z8]]) (by simp [results, Try.results103, go_sem, o0c, o1c, o2c, o3c, o4c, o5c, o6c, o7c, o8c]) rfl ?_
      obtain ⟨HF1, HF2, HF3⟩ := HF.out
      refine ⟨[z0, z1, z2, z3, z4, z5, z6, z7, z8], by rw [HEW.out, HEB.out, ← HD.out]; rfl, rfl, HF2, HF3, ?_⟩
      exact (below_set9 (g := w.heap.size + 1 + 1) (by omega) HB).drew
end Go.Proofs.Ytddniklhpkagmaa
