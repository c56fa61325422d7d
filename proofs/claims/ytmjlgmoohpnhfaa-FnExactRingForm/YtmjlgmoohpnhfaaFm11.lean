/- Part 11 of the walks that the proof leans on. -/
import Derived.Test.YtmjlgmoohpnhfaaFm10
import Derived.Test.YtmjlgmoohpnhfaaFm3
import Derived.Test.YtmjlgmoohpnhfaaRows
import Derived.ProofKit
import Derived.Lib.SmallJoins
/- A ring's form: the document's walk. -/
namespace Go.Proofs.Ytmjlgmoohpnhfaa
open Go.RowKit
set_option maxRecDepth 100000 in
set_option maxHeartbeats 8000000 in
theorem specForm_any (g n cap : Nat) (p : Ps) (hn : n ≤ 1048576) (hcap : n ≤ cap) (hcap2 : cap ≤ 9223372036854775807) (w : World) (R : w.rowIs g 55 (n * 2) (fun i => .int .i64 (spW p i))) :
    Calls Try.prog 9 #[.agg #[.slice (some ⟨g, 0, none⟩) n cap]] w (RingP (tuN n p) (fmP n p) w) := by
  have C1 := fun w h => l5OkD_any (some ⟨g, 0, none⟩) n cap p hn w h
  have hgl := R.lt
  have HB0 : Below w.heap.size w ((w.alloc (.cells #[.slice (some ⟨g, 0, none⟩) n cap] 28)).alloc (.cells #[.slice none 0 0] 28)) := ((Below.refl _ _).alloc (Nat.le_refl _) _).alloc (by simp) _
  have BA : Blk ((w.alloc (.cells #[.slice (some ⟨g, 0, none⟩) n cap] 28)).alloc (.cells #[.slice none 0 0] 28)) w.heap.size [.slice (some ⟨g, 0, none⟩) n cap] := (Blk.new w [.slice (some ⟨g, 0, none⟩) n cap] 28 rfl).alloc _
  have BR : Blk ((w.alloc (.cells #[.slice (some ⟨g, 0, none⟩) n cap] 28)).alloc (.cells #[.slice none 0 0] 28)) (w.heap.size + 1) [.slice none 0 0] := Blk.new (w.alloc (.cells #[.slice (some ⟨g, 0, none⟩) n cap] 28)) [.slice none 0 0] 28 (by simp)
  go_enter Try.func9, Try.ntmps9
  go_wp2_with fail
  replace R := rows_step R HB0
  revert HB0 BR BA R
  generalize ((w.alloc (.cells #[.slice (some ⟨g, 0, none⟩) n cap] 28)).alloc (.cells #[.slice none 0 0] 28)) = W2
  intro HB0 BA BR R
  refine (C1 _ (spIn_row R)).mono ?_
  rintro e w1 ⟨rfl, hB⟩
  replace HB0 := HB0.trans (hB.mono HB0.size)
  replace BR := BR.step hB
  replace BA := BA.step hB
  replace R := rows_step R hB
  clear hB C1
  by_cases h : rgF n p = 0
  · rw [decide_eq_true h]
    have HN : Hid (tuN n p = n) := by show _ = _; unfold tuN; rw [if_pos h]
    obtain ⟨h3, h12, hok, _⟩ := rgF_okA h
    have C2 := fun w R => l5Area2_any (some ⟨g, 0, none⟩) n cap p h12 hok w R
    have C3 : ∀ (w : World) (_ : w.rowIs g 55 (n * 2) (fun i => .int .i64 (spW p i))), Calls Try.prog 36 #[.agg #[.slice (some ⟨g, 0, none⟩) n cap]] w (RingP n (turnP n p) w) := fun w R => by have := specTurned_any g n cap p hn w R; rwa [HN.out] at this
    clear h hok
    go_upto_region 3 with fail
    go_cut [13] (fun pv wx => pv = .bool (decide (arA n p n < 0)) ∧ Below w.heap.size w wx ∧ Blk wx w.heap.size [.slice (some ⟨g, 0, none⟩) n cap] ∧ Blk wx (w.heap.size + 1) [.slice none 0 0] ∧ wx.rowIs g 55 (n * 2) (fun i => .int .i64 (spW p i)))
    case first =>
      have a0 := BA.c 0 rfl
      go_wp2_with fail
      clear a0
      refine (C2 _ (spIn_row R)).mono ?_
      rintro e w2 ⟨rfl, hB⟩
      go_wp2
      go_meet
      case rel => exact ⟨rfl, HB0.trans (hB.mono HB0.size), BA.step hB, BR.step hB, rows_step R hB⟩
    case rest =>
      clear HB0 BA BR R C2
      obtain ⟨rfl, HB0, BA, BR, R⟩ := hcut
      rename_i hk
      refine hk _ _ ?_
      clear hk
      go_cut [] (fun wx => ∃ gq cq, n ≤ cq ∧ gq ≠ w.heap.size + 1 ∧ gq ≠ w.heap.size ∧ Below w.heap.size w wx ∧ Blk wx w.heap.size [.slice (some ⟨gq, 0, none⟩) n cq] ∧ Blk wx (w.heap.size + 1) [.slice none 0 0] ∧ SpIn wx (some ⟨gq, 0, none⟩) n (upP n p))
      case first =>
        by_cases har : arA n p n < 0
        · rw [decide_eq_true har]
          have HU : Hid (upP n p = turnP n p) := by show _ = _; unfold upP; rw [if_pos har]
          have a0 := BA.c 0 rfl; have af := BA.f 0 rfl; have al := BA.lt
          go_wp2_with fail
          clear a0 af al
          refine (C3 _ R).mono ?_
          rintro e w2 ⟨v, rfl, HO, hB⟩
          replace HB0 := HB0.trans (hB.mono HB0.size)
          have hsz := BR.lt
          have hsz2 := BA.lt
          replace BR := BR.step hB
          replace BA := BA.step hB
          rcases HO with ⟨_, h0⟩ | ⟨gq, cq, f, rfl, hgq, hcq, hmx, RQ, hf⟩
          · omega
          have S : SpIn w2 (some ⟨gq, 0, none⟩) n (turnP n p) := by
            have O : SpOwn w2 (w.heap.size + 2) (.slice (some ⟨gq, 0, none⟩) n cq) n (turnP n p) := .inr ⟨gq, cq, f, rfl, by omega, hcq, hmx, RQ, hf⟩
            obtain ⟨ao, cap, e, h⟩ := SpOwn.in O
            cases e
            exact h
          have a0 := BA.c 0 rfl; have af := BA.f 0 rfl; have al := BA.lt
          go_wp2
          go_meet
          case rel => exact ⟨gq, cq, hcq, by omega, by omega, HB0.setCell (by simp) _, BA.setI 0 (by simp) _, BR.setO (by simp) _, by rw [HU.out]; exact spIn_setO S (by simp; omega) _⟩
        · rw [decide_eq_false har]
          have HU : Hid (upP n p = p) := by show _ = _; unfold upP; rw [if_neg har]
          clear har
          go_wp2
          go_meet
          case rel => exact ⟨g, cap, hcap, by omega, by omega, HB0, BA, BR, by rw [HU.out]; exact spIn_row R⟩
      case rest =>
        clear HB0 BA BR R C3
        obtain ⟨gq, cq, hcq, hg1, hg0, HB0, BA, BR, S⟩ := hcut
        rename ∀ (a : Act) (w_1 : World), Code.wp _ _ _ _ _ → _ => hk
        refine hk _ _ ?_
        clear hk
        have HC : Hid (n ≤ cq) := hcq
        have HSZ : Hid (w.heap.size + 2 ≤ wc.heap.size) := BR.lt
        have HS : Hid (SpIn wc (some ⟨gq, 0, none⟩) n (upP n p)) := S
        clear S hcq
        go_wp2_with fail
        go_loopw [3, 4] (fun l i wr => ∃ c : Nat, 1 ≤ c ∧ c ≤ n ∧ i = .int .i64 c ∧ l = .int .i64 (lsI (upP n p) (c - 1)) ∧ Below wc.heap.size wc wr) (fun _ i _ => n - (intOf i).toNat)
        case atStart => exact ⟨1, by omega, by omega, rfl, rfl, Below.refl _ _⟩
        case round =>
          obtain ⟨c, hc1, hc, rfl, rfl, HB⟩ := hrel
          have HBA : Hid (Blk wr w.heap.size [.slice (some ⟨gq, 0, none⟩) n cq]) := BA.step HB
          have a0 := HBA.out.c 0 rfl; have af := HBA.out.f 0 rfl
          by_cases hcn : c < n
          · have hcI : (c : Int) < n := by omega
            have hl : lsI (upP n p) (c - 1) ≤ c - 1 := lsI_le _ _
            have hlI : ((lsI (upP n p) (c - 1) : Nat) : Int) < (n : Int) := by omega
            have NX : Hid (lsI (upP n p) c = if lessI (upP n p c).1 (upP n p c).2 (upP n p (lsI (upP n p) (c - 1))).1 (upP n p (lsI (upP n p) (c - 1))).2 = true then c else lsI (upP n p) (c - 1)) := by
              show _ = _
              cases c with
              | zero => simp [lsI]
              | succ c => rfl
            go_upto_region 9 with fail
            revert hl NX hlI
            generalize lsI (upP n p) (c - 1) = l
            intro hl hlI NX
            obtain ⟨A, off, e, hA2, q2, q3⟩ := HS.out.step HB c hcn
            cases e
            rw [Nat.zero_add] at q2 q3
            obtain ⟨A, off, e, hA3, q4, q5⟩ := HS.out.step HB l (by omega)
            cases e
            rw [Nat.zero_add] at q4 q5
            refine fmS (A1 := w.heap.size) (g := gq) (n := n) (cap := cq) (ix := c) (f := l) (x := (upP n p c).1) (y := (upP n p c).2) (u := (upP n p l).1) (t := (upP n p l).2) (b := lessI (upP n p c).1 (upP n p c).2 (upP n p l).1 (upP n p l).2) hcI hlI (fun w' => l4Less_any _ _ _ _ _ rfl w') rfl rfl rfl (HBA.out.c 0 rfl) HBA.out.lt q2 hA2 q3 hA2 q4 hA3 q5 hA3 rfl ?_
            rintro ⟨tm, df⟩ Wz hz hdf hoff hV hBz
            simp only at hz hdf hoff hV
            subst hdf
            have htm := tmps_fold [23, 24, 25, 26, 27, 28, 29, 30, 31, 32, 33] tm _ hz hoff
            simp only [List.foldl, List.setIfInBounds_toArray, List.set_cons_zero, List.set_cons_succ] at htm
            clear hz hoff
            have hV2 : tm.getD 33 undef = .bool (lessI (upP n p c).1 (upP n p c).2 (upP n p l).1 (upP n p l).2) := hV
            rw [hV2] at htm
            clear hV hV2
            generalize tm.getD 23 undef = sl0, tm.getD 24 undef = sl1, tm.getD 25 undef = sl2, tm.getD 26 undef = sl3, tm.getD 27 undef = sl4, tm.getD 28 undef = sl5, tm.getD 29 undef = sl6, tm.getD 30 undef = sl7, tm.getD 31 undef = sl8, tm.getD 32 undef = sl9 at htm
            subst htm
            replace HB := HB.trans (hBz.mono HB.size)
            clear q2 q3 q4 q5 hBz HBA hA2 hA3 a0 af
            have NX2 := NX.out
            clear NX
            cases hb : lessI (upP n p c).1 (upP n p c).2 (upP n p l).1 (upP n p l).2 with
            | true =>
              rw [hb, if_pos rfl] at NX2
              have NX : Hid (lsI (upP n p) c = c) := NX2
              clear NX2 hb
              go_wp2
              go_roundw
              case rel => exact ⟨c + 1, by omega, by omega, by go_num, by rw [Nat.add_sub_cancel, NX.out], HB⟩
              case measure => simp [intOf]; omega
            | false =>
              rw [hb, if_neg (by simp)] at NX2
              have NX : Hid (lsI (upP n p) c = l) := NX2
              clear NX2 hb
              go_wp2
              go_roundw
              case rel => exact ⟨c + 1, by omega, by omega, by go_num, by rw [Nat.add_sub_cancel, NX.out], HB⟩
              case measure => simp [intOf]; omega
          · obtain rfl : c = n := by omega
            have hl : lsI (upP c p) (c - 1) ≤ c - 1 := lsI_le _ _
            have HL : Hid (fmP c p = fun k => upP c p ((lsI (upP c p) (c - 1) + k) % c)) := rfl
            have HBR : Hid (Blk wr (w.heap.size + 1) [.slice none 0 0]) := BR.step HB
            have S2 : Hid (SpIn wr (some ⟨gq, 0, none⟩) c (upP c p)) := HS.out.step HB
            have hsz := HSZ.out
            have hsz2 := HB.size
            have HT := HB0.trans (HB.mono HB0.size)
            clear HB0 HB BA BR HS
            revert hl HL
            generalize lsI (upP c p) (c - 1) = l
            intro hl HL
            go_upto_region 12 with fail
            rename World => wm
            have hl3 : l < c := by omega
            have hs40 : c ≤ 12 := h12
            have hcI : (0 : Int) ≤ c := by omega
            clear a0 af
            go_wp2_with fail
            go_loopw [5, 6] (fun o i wr => ∃ k : Nat, k ≤ c ∧ i = .int .i64 k ∧ wr.ownsRow wm.heap.size 55 2 o k (spL k (fmP c p)) ∧ Below wm.heap.size wm wr) (fun _ i _ => c - (intOf i).toNat)
            case atStart => exact ⟨0, by omega, rfl, World.ownsRow_made wm #[] 0 (Nat.le_refl _) (by decide) rfl, (Below.refl _ _).alloc (Nat.le_refl _) _⟩
            case round =>
              obtain ⟨k, hk, rfl, hown, HX⟩ := hrel
              have hxs := HX.size
              have XA := HBA.out.step HX
              have a0 := XA.c 0 rfl
              by_cases hkn : k < c
              · have hkI : (k : Int) < c := by omega
                have HR : Hid (fmP c p k = upP c p ((l + k) % c)) := by show _ = _; rw [HL.out]
                have hrc : (l + k) % c < c := Nat.mod_lt _ (by omega)
                obtain ⟨A, off, e, hA2, q2, q3⟩ := S2.out _ hrc
                cases e
                rw [Nat.zero_add] at q2 q3
                have hwr : IntKind.i64.wrap ((l : Int) + (k : Int)) = ((l + k : Nat) : Int) := by rw [IntKind.wrap_i64]; omega
                have htm : (((l + k : Nat) : Int)).tmod (c : Int) = (((l + k) % c : Nat) : Int) := by
                  rw [Int.tmod_eq_emod_of_nonneg (by omega), Int.natCast_emod]
                revert HR hrc q2 q3 hwr htm
                generalize (l + k) % c = r
                generalize l + k = m
                intro HR hrc q2 q3 hwr htm
                go_upto_region 15 with fail
                refine fmN (A1 := w.heap.size) (g := gq) (n := c) (cap := cq) (lf := l) (kf := k) (m := m) (r := r) (x := (upP c p r).1) (y := (upP c p r).2) (o := u5) (c := k) (base := wm.heap.size) (Lz := spL k (fmP c p)) hwr htm (by omega) (by omega) rfl hown hxs (by omega) rfl rfl rfl ((HX.cell (p := ⟨w.heap.size, 0, none⟩) HBA.out.lt).trans (HBA.out.c 0 rfl)) HBA.out.lt ((HX.cell (p := ⟨gq, _, none⟩) hA2).trans q2) hA2 ((HX.cell (p := ⟨gq, _, none⟩) hA2).trans q3) hA2 rfl ?_
                rintro ⟨tm, df⟩ Wz hz hdf hoff _ hBz hown2
                simp only at hz hdf hoff hown2
                subst hdf
                have htm2 := tmps_fold [43, 44, 45, 46, 47, 48, 49, 50, 51, 52, 53, 54, 55, 56, 5] tm _ hz hoff
                simp only [List.foldl, List.setIfInBounds_toArray, List.set_cons_zero, List.set_cons_succ] at htm2
                clear hz hoff
                generalize tm.getD 43 undef = sl0, tm.getD 44 undef = sl1, tm.getD 45 undef = sl2, tm.getD 46 undef = sl3, tm.getD 47 undef = sl4, tm.getD 48 undef = sl5, tm.getD 49 undef = sl6, tm.getD 50 undef = sl7, tm.getD 51 undef = sl8, tm.getD 52 undef = sl9, tm.getD 53 undef = sl10, tm.getD 54 undef = sl11, tm.getD 55 undef = sl12, tm.getD 56 undef = sl13, tm.getD 5 undef = sr at htm2 hown2
                subst htm2
                have R1 : Wz.ownsRow wm.heap.size 55 2 sr (k + 1) (spL (k + 1) (fmP c p)) := by rw [spL_succ, HR.out]; exact hown2
                replace HX := HX.trans hBz
                clear q2 q3 hBz XA a0 hA2 hown2 hown hwr htm HR
                go_wp2
                go_roundw
                case rel => exact ⟨k + 1, by omega, by go_num, R1, HX⟩
                case measure => simp [intOf]; omega
              · obtain rfl : k = c := by omega
                rcases SpOwn.of hown with ⟨_, h0⟩ | ⟨g', cap', f', rfl, hg', hc', hm', R, hf⟩
                · omega
                have HOO : Hid (wr.rowIs g' 55 (cap' * 2) f' ∧ ∀ i, i < k * 2 → f' i = .int .i64 (spW (fmP k p) i)) := ⟨R, hf⟩
                have X1 := HBR.out.step HX
                have r0 := X1.c 0 rfl; have rf := X1.f 0 rfl
                have HBw := HT.trans (HX.mono HT.size)
                clear R hf X1 hown S2 HL XA
                go_wp2
                refine bodyPost_ret (v := .agg #[.slice (some ⟨g', 0, none⟩) k cap']) (by simp [results, Try.results9, go_sem, r0]) rfl ?_
                rw [HN.out]
                exact ⟨_, rfl, .inr ⟨g', cap', f', rfl, by omega, hc', hm', HOO.out.1.setOther (by simp; omega) _, HOO.out.2⟩, HBw.setCell (by simp) _⟩
  · rw [decide_eq_false h]
    have HN : Hid (tuN n p = 0) := by show _ = _; unfold tuN; rw [if_neg h]
    have r0 := BR.c 0 rfl; have rf := BR.f 0 rfl
    clear h R BA BR
    go_wp2
    refine bodyPost_ret (v := .agg #[.slice none 0 0]) (by simp [results, Try.results9, go_sem, r0]) rfl ?_
    rw [HN.out]
    exact ⟨_, rfl, .inl ⟨rfl, rfl⟩, HB0.setCell (by simp) _⟩
end Go.Proofs.Ytmjlgmoohpnhfaa

/- A ring's form: the law. -/
namespace Go.Proofs.Ytmjlgmoohpnhfaa
open Go.RowKit
theorem tuF_le (n : Nat) (p : Ps) (h : n ≤ 1048576) : tuN n p ≤ 1048576 := by
  unfold tuN
  split <;> omega
set_option maxRecDepth 100000 in
set_option maxHeartbeats 8000000 in
theorem lawRingForm_any (ao : Option Addr) (n cap : Nat) (p : Ps) (hn : n ≤ 9223372036854775807) (w : World) (hS : SpIn w ao n p) : Calls Try.prog 3 #[.agg #[.slice ao n cap]] w (BoolP true w) := by
  have BA := Blk.new w [.slice ao n cap] 24 rfl
  have HB : Below w.heap.size w (w.alloc (.cells #[.slice ao n cap] 24)) := (Below.refl _ w).alloc (Nat.le_refl _) _
  have SZ := szRing_any ao n cap 1048576 (by omega) (by omega) hn
  have HS : Hid (SpIn w ao n p) := hS
  clear hS
  go_enter Try.func3, Try.ntmps3
  go_upto_region 1 with fail
  generalize w.alloc (.cells #[.slice ao n cap] 24) = W at *
  by_cases hs : n ≤ 1048576
  · rw [if_pos (by omega)] at SZ
    have TR := fun w h => toRing_any ao n cap p hs w h
    have SP := fun g w R => specForm_any g n n p hs (Nat.le_refl _) (by omega) w R
    have IM := fun g w R => implForm_any g n n p hs (Nat.le_refl _) (by omega) w R
    have hm := tuF_le n p hs
    revert SP IM hm
    generalize tuN n p = m
    generalize fmP n p = q
    intro SP IM hm
    have hsI : (n : Int) ≤ 1048576 := by omega
    have cBA := BA.c 0 rfl
    go_wp2_with fail
    refine (SZ _).mono ?_
    rintro e w1 ⟨rfl, hB⟩
    replace HB := HB.trans (hB.mono HB.size); replace BA := BA.step hB
    clear hB
    clear SZ cBA
    have hz : ¬ ((1048576 : Int) - n < 0) := by omega
    have cBA := BA.c 0 rfl
    go_wp2_with fail
    refine (TR _ (HS.out.step HB)).mono ?_
    rintro e w2 ⟨ga, rfl, la, Ra, hB⟩
    replace HB := HB.trans (hB.mono HB.size); replace BA := BA.step hB
    clear hB
    clear cBA
    go_wp2_with fail
    refine (SP ga _ Ra).mono ?_
    rintro e w3 ⟨v1, rfl, N1, hB⟩
    replace HB := HB.trans (hB.mono HB.size); replace BA := BA.step hB
    clear hB
    obtain ⟨o1, k1, rfl, _⟩ := N1.in
    have q1 : Hid (∀ g, (Value.slice o1 m k1).ownBlock = some g → g < w3.heap.size) := fun g hg => (N1.lt hg).2
    have hw3 : w.heap.size < w3.heap.size := BA.lt
    clear Ra la SP
    have B1 := Blk.new w3 [.slice o1 m k1] 28 rfl
    replace BA := BA.alloc (.cells #[.slice o1 m k1] 28)
    replace N1 := N1.step ((Below.refl _ _).alloc (Nat.le_refl _) (.cells #[.slice o1 m k1] 28))
    replace HB := HB.alloc HB.size (.cells #[.slice o1 m k1] 28)
    have cBA := BA.c 0 rfl
    go_wp2_with fail
    have zzW3 : (w3.alloc (.cells #[.slice o1 m k1] 28)).heap.size = w3.heap.size + 1 := by simp
    generalize w3.alloc (.cells #[.slice o1 m k1] 28) = W3 at *
    refine (TR _ (HS.out.step HB)).mono ?_
    rintro e w4 ⟨g2, rfl, l2, R2, hB⟩
    have s4 := hB.size
    clear cBA
    replace HB := HB.trans (hB.mono HB.size); replace BA := BA.step hB; replace B1 := B1.step hB; replace N1 := N1.step hB
    clear hB
    have zg2 := R2.lt
    have B2 := Blk.new w4 [.slice (some ⟨g2, 0, none⟩) n n] 28 rfl
    replace BA := BA.alloc (.cells #[.slice (some ⟨g2, 0, none⟩) n n] 28)
    replace B1 := B1.alloc (.cells #[.slice (some ⟨g2, 0, none⟩) n n] 28)
    replace N1 := N1.step ((Below.refl _ _).alloc (Nat.le_refl _) (.cells #[.slice (some ⟨g2, 0, none⟩) n n] 28))
    replace R2 := rows_step R2 ((Below.refl _ _).alloc (Nat.le_refl _) (.cells #[.slice (some ⟨g2, 0, none⟩) n n] 28))
    replace HB := HB.alloc HB.size (.cells #[.slice (some ⟨g2, 0, none⟩) n n] 28)
    have cB2 := B2.c 0 rfl
    go_wp2_with fail
    have zzW4 : (w4.alloc (.cells #[.slice (some ⟨g2, 0, none⟩) n n] 28)).heap.size = w4.heap.size + 1 := by simp
    generalize w4.alloc (.cells #[.slice (some ⟨g2, 0, none⟩) n n] 28) = W4 at *
    refine (IM g2 _ R2).mono ?_
    rintro e w5 ⟨v2, rfl, N2, hB⟩
    have s5 := hB.size
    clear cB2
    replace HB := HB.trans (hB.mono HB.size); replace BA := BA.step hB; replace B1 := B1.step hB; replace B2 := B2.step hB; replace N1 := N1.step hB; replace R2 := rows_step R2 hB
    clear hB
    obtain ⟨o2, k2, rfl, _⟩ := N2.in
    have q2 : Hid (∀ g, (Value.slice o2 m k2).ownBlock = some g → W4.heap.size ≤ g ∧ g < w5.heap.size) := fun g hg => N2.lt hg
    have B3 := Blk.new w5 [.slice o2 m k2] 28 rfl
    replace BA := BA.alloc (.cells #[.slice o2 m k2] 28)
    replace B1 := B1.alloc (.cells #[.slice o2 m k2] 28)
    replace B2 := B2.alloc (.cells #[.slice o2 m k2] 28)
    replace N1 := N1.step ((Below.refl _ _).alloc (Nat.le_refl _) (.cells #[.slice o2 m k2] 28))
    replace N2 := N2.step ((Below.refl _ _).alloc (Nat.le_refl _) (.cells #[.slice o2 m k2] 28))
    replace R2 := rows_step R2 ((Below.refl _ _).alloc (Nat.le_refl _) (.cells #[.slice o2 m k2] 28))
    replace HB := HB.alloc HB.size (.cells #[.slice o2 m k2] 28)
    have cB3 := B3.c 0 rfl
    have cB1 := B1.c 0 rfl
    go_wp2_with fail
    have zzW5 : (w5.alloc (.cells #[.slice o2 m k2] 28)).heap.size = w5.heap.size + 1 := by simp
    generalize w5.alloc (.cells #[.slice o2 m k2] 28) = W5 at *
    refine (eqRing_own hm _ N2 N1).mono ?_
    rintro e w6 ⟨rfl, hB⟩
    clear cB3 cB1
    have s6 := hB.size
    replace HB := HB.trans (hB.mono HB.size); replace BA := BA.step hB; replace B1 := B1.step hB; replace B2 := B2.step hB; replace B3 := B3.step hB; replace N1 := N1.step hB; replace N2 := N2.step hB; replace R2 := rows_step R2 hB
    clear hB
    have HK : ∀ w', Below w6.heap.size w6 w' → (fun w' => w'.cell? ⟨w4.heap.size, 0, none⟩ = some (.slice (some ⟨g2, 0, none⟩) n n) ∧ w'.cell? ⟨w.heap.size, 0, none⟩ = some (.slice ao n cap)) w' := fun w' hB => ⟨(B2.step hB).c 0 rfl, (BA.step hB).c 0 rfl⟩
    have CH : Below w6.heap.size w6 w6 := Below.refl _ _
    have HTR : Hid (∀ W, Below w6.heap.size w6 W → Calls Try.prog 10 #[.agg #[.slice ao n cap]] W (fun e w' => ∃ g, e = .returned (.agg #[.slice (some ⟨g, 0, none⟩) n n]) ∧ W.heap.size ≤ g ∧ w'.rowIs g 55 (n * 2) (fun i => .int .i64 (spW p i)) ∧ Below W.heap.size W w')) := fun W h => TR W (HS.out.step (HB.trans (h.mono HB.size)))
    have HEQ : Hid (∀ W, Below w6.heap.size w6 W → ∀ g7, W.rowIs g7 55 (n * 2) (fun i => .int .i64 (spW p i)) → Calls Try.prog 12 #[.agg #[.slice (some ⟨g2, 0, none⟩) n n], .agg #[.slice (some ⟨g7, 0, none⟩) n n]] W (BoolP true W)) := fun W h g7 R7 => eqRing_any _ _ n n n p hs W (spIn_row (rows_step R2 h)) (spIn_row R7)
    go_upto_region 10 with fail
    go_region_held3 (fun w' => w'.cell? ⟨w4.heap.size, 0, none⟩ = some (.slice (some ⟨g2, 0, none⟩) n n) ∧ w'.cell? ⟨w.heap.size, 0, none⟩ = some (.slice ao n cap)) (first | (with_reducible exact HK _ CH) | (with_reducible exact HK _ CH.drew))
      (first
        | (go_at_call 10; refine (HTR.out _ (by first | (with_reducible exact CH) | (with_reducible exact CH.drew))).mono ?_; rintro e w7 ⟨g7, rfl, _, R7, hB⟩; (first | (have CH1 := CH.trans (hB.mono CH.size)) | (have CH1 := CH.drew.trans (hB.mono CH.drew.size))); clear CH; have CH := CH1; clear CH1; clear hB)
        | (go_at_call 12; refine (HEQ.out _ (by first | (with_reducible exact CH) | (with_reducible exact CH.drew)) g7 (by first | (with_reducible exact R7) | (with_reducible exact R7.drew))).mono ?_; rintro e w8 ⟨rfl, hB⟩; (first | (have CH1 := CH.trans (hB.mono CH.size)) | (have CH1 := CH.drew.trans (hB.mono CH.drew.size))); clear CH; have CH := CH1; clear CH1; clear hB))
    have hB : Below w6.heap.size w6 w8 := CH
    clear CH HK HTR HEQ R7
    have s8 := hB.size
    replace HB := HB.trans (hB.mono HB.size); replace BA := BA.step hB; replace B1 := B1.step hB; replace B2 := B2.step hB; replace B3 := B3.step hB; replace N1 := N1.step hB; replace N2 := N2.step hB; replace R2 := rows_step R2 hB
    clear hB
    have cB2 := B2.c 0 rfl
    go_wp2_with fail
    refine (markRing_any _ n p g2 hs _ (SpOwn.row R2 (Nat.le_refl _) hs)).mono ?_
    rintro e w9 ⟨rfl, _, KM⟩
    clear cB2
    replace KM : OtherB (some g2) w8 w9 := KM
    replace HB := KM.2.2 w (fun g hg => by cases hg; omega) HB
    replace BA := KM.blk (fun e => by have := Option.some.inj e; omega) BA
    replace B1 := KM.blk (fun e => by have := Option.some.inj e; omega) B1
    replace B2 := KM.blk (fun e => by have := Option.some.inj e; omega) B2
    replace B3 := KM.blk (fun e => by have := Option.some.inj e; omega) B3
    replace N1 := KM.sown N1 (fun g hg e => by have e2 := Option.some.inj e; have := q1.out g hg; omega)
    replace N2 := KM.sown N2 (fun g hg e => by have e2 := Option.some.inj e; have := (q2.out g hg).1; omega)
    clear KM R2
    have hk1 : ¬ ((n : Int) * 2 + 1 < 0) := by omega
    have cB3 := B3.c 0 rfl
    have cB1 := B1.c 0 rfl
    go_wp2_with fail
    refine (eqRing_own hm _ N2 N1).mono ?_
    rintro e w10 ⟨rfl, hB⟩
    clear cB3 cB1
    replace HB := HB.trans (hB.mono HB.size); replace BA := BA.step hB; replace B1 := B1.step hB; replace B2 := B2.step hB; replace B3 := B3.step hB; replace N1 := N1.step hB; replace N2 := N2.step hB
    clear hB
    have cB3 := B3.c 0 rfl
    go_wp2_with fail
    refine (markRing_any _ m q _ hm _ N2).mono ?_
    rintro e w11 ⟨rfl, N2', KM⟩
    clear cB3
    replace HB := KM.2.2 w (fun g hg => by have := q2.out g hg; omega) HB
    replace BA := KM.blk (fun e => by have := q2.out _ e.symm; omega) BA
    replace B1 := KM.blk (fun e => by have := q2.out _ e.symm; omega) B1
    replace B2 := KM.blk (fun e => by have := q2.out _ e.symm; omega) B2
    replace B3 := KM.blk (fun e => by have := q2.out _ e.symm; omega) B3
    replace N1 := KM.sown N1 (fun g hg e => by have := q1.out g hg; have := q2.out _ e.symm; omega)
    clear KM N2
    have N2 := N2'
    clear N2' q1 q2
    have hk2 : ¬ ((m : Int) * 2 + 1 < 0) := by omega
    have hk3 : (((m : Int) * 2 + 1) != ((m : Int) * 2 + 1)) = false := by simp
    have cB3 := B3.c 0 rfl
    go_wp2_with fail
    refine (heldRing_any _ m _ hm _ N2).mono ?_
    rintro e w12 ⟨rfl, hB⟩
    clear cB3
    replace HB := HB.trans (hB.mono HB.size); replace BA := BA.step hB; replace B1 := B1.step hB; replace B2 := B2.step hB; replace B3 := B3.step hB; replace N1 := N1.step hB; replace N2 := N2.step hB
    clear hB
    have cBA := BA.c 0 rfl
    go_wp2_with fail
    refine (TR _ (HS.out.step HB)).mono ?_
    rintro e w13 ⟨g13, rfl, _, R13, hB⟩
    clear cBA
    replace HB := HB.trans (hB.mono HB.size); replace BA := BA.step hB; replace B1 := B1.step hB; replace B2 := B2.step hB; replace B3 := B3.step hB; replace N1 := N1.step hB; replace N2 := N2.step hB
    clear hB
    go_wp2_with fail
    refine (IM g13 _ R13).mono ?_
    rintro e w14 ⟨v4, rfl, N4, hB⟩
    replace HB := HB.trans (hB.mono HB.size); replace BA := BA.step hB; replace B1 := B1.step hB; replace B2 := B2.step hB; replace B3 := B3.step hB; replace N1 := N1.step hB; replace N2 := N2.step hB
    clear hB
    obtain ⟨o4, k4, rfl, _⟩ := N4.in
    clear R13 IM TR
    have B4 := Blk.new w14 [.slice o4 m k4] 28 rfl
    replace BA := BA.alloc (.cells #[.slice o4 m k4] 28)
    replace B1 := B1.alloc (.cells #[.slice o4 m k4] 28)
    replace B2 := B2.alloc (.cells #[.slice o4 m k4] 28)
    replace B3 := B3.alloc (.cells #[.slice o4 m k4] 28)
    replace N1 := N1.step ((Below.refl _ _).alloc (Nat.le_refl _) (.cells #[.slice o4 m k4] 28))
    replace N2 := N2.step ((Below.refl _ _).alloc (Nat.le_refl _) (.cells #[.slice o4 m k4] 28))
    replace N4 := N4.step ((Below.refl _ _).alloc (Nat.le_refl _) (.cells #[.slice o4 m k4] 28))
    replace HB := HB.alloc HB.size (.cells #[.slice o4 m k4] 28)
    have cB4 := B4.c 0 rfl
    have cB1 := B1.c 0 rfl
    go_wp2_with fail
    have zzW14 : (w14.alloc (.cells #[.slice o4 m k4] 28)).heap.size = w14.heap.size + 1 := by simp
    generalize w14.alloc (.cells #[.slice o4 m k4] 28) = W14 at *
    refine (eqRing_own hm _ N4 N1).mono ?_
    rintro e w15 ⟨rfl, hB⟩
    clear cB4 cB1
    replace HB := HB.trans (hB.mono HB.size); replace BA := BA.step hB; replace B1 := B1.step hB; replace B2 := B2.step hB; replace B3 := B3.step hB; replace B4 := B4.step hB; replace N1 := N1.step hB; replace N2 := N2.step hB; replace N4 := N4.step hB
    clear hB
    have cB3 := B3.c 0 rfl
    go_wp2_with fail
    refine (heldRing_any _ m _ hm _ N2).mono ?_
    rintro e w16 ⟨rfl, hB⟩
    clear cB3
    replace HB := HB.trans (hB.mono HB.size); replace BA := BA.step hB; replace B1 := B1.step hB; replace B2 := B2.step hB; replace B3 := B3.step hB; replace B4 := B4.step hB; replace N1 := N1.step hB; replace N2 := N2.step hB; replace N4 := N4.step hB
    clear hB
    clear BA B1 B2 B3 B4 N1 N2 N4
    go_wp2
    go_ret
    exact ⟨rfl, HB⟩
  · rw [if_neg (by omega)] at SZ
    have cBA := BA.c 0 rfl
    go_wp2_with fail
    refine (SZ _).mono ?_
    rintro e w1 ⟨rfl, hB⟩
    replace HB := HB.trans (hB.mono HB.size)
    clear SZ cBA hB BA
    go_wp2
    go_ret
    exact ⟨rfl, HB⟩
end Go.Proofs.Ytmjlgmoohpnhfaa

/- How spots and segments read as data, beside points: opened and shut. -/
namespace Go.Proofs.Ytmjlgmoohpnhfaa
open Go.ChangeShapes Go.WideShapes Go.ChangeAt Go.RowKit Go.Joins
abbrev Wf (x : Int) : Prop := (Lit.int .i64 x).wf = true
abbrev SpD {H : Type} (x y : Int) : DataW H := .agg [.lit (.int .i64 x), .lit (.int .i64 y)]
theorem trod_spot {H : Type} {enc : TypeId × Value → H} {w : World} {base : Nat} {spare : TypeId → Bool} {held : Bool} {n : Nat} {c0 c1 : Value} {y : DataW H × List MemPlace} (h : DataW.trod enc Try.prog w base spare held n 44 [c0, c1] = some y) :
    ∃ a b : Int, c0 = .int .i64 a ∧ c1 = .int .i64 b ∧ y = (SpD a b, []) ∧ Wf a ∧ Wf b := by
  obtain ⟨y0, y1, m, hx, _, h0, h1⟩ := trod_struct2 Try.underlying44 h
  obtain ⟨a, e0, rfl, wa⟩ := DataW.trod_int Try.underlying2 h0
  obtain ⟨b, e1, rfl, wb⟩ := DataW.trod_int Try.underlying2 h1
  have k : Try.prog.cellsOf 2 = 1 := by kernel_rfl
  simp [k] at e0 e1
  exact ⟨a, b, e0, e1, hx, wa, wb⟩
end Go.Proofs.Ytmjlgmoohpnhfaa

/- What the row of a law asks of the program as a whole, each by itself. -/
namespace Go.Proofs.Ytmjlgmoohpnhfaa
open Go.ChangeShapes Go.WideShapes Go.ChangeAt Go.RowKit Go.Joins
theorem jn_laid : laidOutB Try.pinned.checked.prog = true := by kernel_rfl
theorem jn_maps : mapsRowed Try.pinned.checked.prog = true := by kernel_rfl
theorem jn_enter : Try.pinned.checked.prog.mayEnter = true := by kernel_rfl
theorem jn_heard : Try.pinned.checked.prog.stopsHeard = true := by kernel_rfl
end Go.Proofs.Ytmjlgmoohpnhfaa
