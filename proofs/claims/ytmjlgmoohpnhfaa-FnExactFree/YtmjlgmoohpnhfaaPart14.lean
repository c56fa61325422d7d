/- Part 14 of the walks that the proof leans on. -/
import Derived.Test.YtmjlgmoohpnhfaaPart13
import Derived.Test.YtmjlgmoohpnhfaaPart9
import Derived.Test.YtmjlgmoohpnhfaaPart10
import Derived.Test.YtmjlgmoohpnhfaaPart4
import Derived.SizedLaws
import Derived.Deep.Slices
import Derived.Test.YtmjlgmoohpnhfaaRows
import Derived.ProofKit
import Derived.Lib.SmallJoins
/- Whether a way keeps clear of segments: the model's walk. -/
namespace Go.Proofs.Ytmjlgmoohpnhfaa
open Go.RowKit
/-- What the model asks of a spot, of the leg from it, and of a segment. -/
def sfP (x : Nat → Int) (n : Nat) (p : Ps) (i k : Nat) : Prop := btwS (x (k * 4)) (x (k * 4 + 1)) 1 (x (k * 4 + 2)) (x (k * 4 + 3)) 1 (p i).1 (p i).2 1 = false ∧ (i + 1 = n ∨ segOk (cond (lessI (p ((i + 1) % n)).1 (p ((i + 1) % n)).2 (p i).1 (p i).2) (p ((i + 1) % n)).1 (p i).1) (cond (lessI (p ((i + 1) % n)).1 (p ((i + 1) % n)).2 (p i).1 (p i).2) (p ((i + 1) % n)).2 (p i).2) (cond (lessI (p ((i + 1) % n)).1 (p ((i + 1) % n)).2 (p i).1 (p i).2) (p i).1 (p ((i + 1) % n)).1) (cond (lessI (p ((i + 1) % n)).1 (p ((i + 1) % n)).2 (p i).1 (p i).2) (p i).2 (p ((i + 1) % n)).2) = false ∨ kndZ (cond (lessI (p ((i + 1) % n)).1 (p ((i + 1) % n)).2 (p i).1 (p i).2) (p ((i + 1) % n)).1 (p i).1) (cond (lessI (p ((i + 1) % n)).1 (p ((i + 1) % n)).2 (p i).1 (p i).2) (p ((i + 1) % n)).2 (p i).2) (cond (lessI (p ((i + 1) % n)).1 (p ((i + 1) % n)).2 (p i).1 (p i).2) (p i).1 (p ((i + 1) % n)).1) (cond (lessI (p ((i + 1) % n)).1 (p ((i + 1) % n)).2 (p i).1 (p i).2) (p i).2 (p ((i + 1) % n)).2) (x (k * 4)) (x (k * 4 + 1)) (x (k * 4 + 2)) (x (k * 4 + 3)) = 0)
def sfA (m : Nat) (x : Nat → Int) (n : Nat) (p : Ps) : Prop := sgI m x = 0 ∧ paB n p ∧ ∀ i, i < n → ∀ k, k < m → sfP x n p i k
set_option maxRecDepth 100000 in
set_option maxHeartbeats 8000000 in
theorem pathOk_any (ao : Option Addr) (n cap : Nat) (p : Ps) (b : Bool) (hb : b = true ↔ paB n p) (w : World) (hS : SpIn w ao n p) : Calls Try.prog 68 #[.slice ao n cap] w (VP (.bool b) w) := by
  have HS : Hid (SpIn w ao n p) := hS
  have HBB : Hid (b = true ↔ paB n p) := hb
  clear hS hb
  by_cases h1 : (n : Int) < 1
  · have hf : b = false := Bool.eq_false_iff.2 fun h => by have := (HBB.out.1 h).1; omega
    subst hf
    go_enter Try.func68, Try.ntmps68
    go_wp2
    go_ret
    exact ⟨rfl, Below.refl _ _⟩
  · by_cases h2 : (12 : Int) < n
    · have hf : b = false := Bool.eq_false_iff.2 fun h => by have := (HBB.out.1 h).2.1; omega
      subst hf
      go_enter Try.func68, Try.ntmps68
      go_wp2
      go_ret
      exact ⟨rfl, Below.refl _ _⟩
    · go_enter Try.func68, Try.ntmps68
      go_wp2_with fail
      go_loopw [3] (fun i wr => ∃ c : Nat, c ≤ n ∧ i = .int .i64 c ∧ (∀ j, j < c → spotOk (p j).1 (p j).2 = true) ∧ Below w.heap.size w wr) (fun i _ => n - (intOf i).toNat)
      case atStart => exact ⟨0, by omega, rfl, fun j hj => by omega, Below.refl _ _⟩
      case round =>
        obtain ⟨c, hc, rfl, hall, HB⟩ := hrel
        have HA : Hid (∀ j, j < c → spotOk (p j).1 (p j).2 = true) := hall
        clear hall
        by_cases hcn : c < n
        · obtain ⟨A, off, rfl, hA, q0, q1⟩ := HS.out.step HB c hcn
          have hcI : (c : Int) < n := by omega
          have SO := fun w => specSpotOk_any (p c).1 (p c).2 _ rfl w
          go_wp2_with fail
          refine (SO _).mono ?_
          rintro e w1 ⟨rfl, hB⟩
          replace HB := HB.trans (hB.mono HB.size)
          clear hB q0 q1 SO hA
          by_cases hk : spotOk (p c).1 (p c).2 = true
          · rw [hk]
            have HK : Hid (spotOk (p c).1 (p c).2 = true) := hk
            clear hk
            go_wp2
            go_roundw
            case rel => exact ⟨c + 1, by omega, by go_num, fun j hj => by
              rcases Nat.lt_or_ge j c with h | h
              · exact HA.out j h
              · obtain rfl : j = c := by omega
                exact HK.out, HB⟩
            case measure => simp [intOf]; omega
          · have hf : b = false := Bool.eq_false_iff.2 fun h => hk ((HBB.out.1 h).2.2 c hcn)
            subst hf
            rw [Bool.eq_false_iff.2 hk]
            clear hk
            go_wp2
            go_ret
            exact ⟨rfl, HB⟩
        · obtain rfl : c = n := by omega
          have hf : b = true := HBB.out.2 ⟨by omega, by omega, HA.out⟩
          subst hf
          clear HA HS
          go_wp2
          go_ret
          exact ⟨rfl, HB⟩
set_option maxRecDepth 100000 in
set_option maxHeartbeats 8000000 in
theorem specFree_any (ao bo : Option Addr) (m n ca cb : Nat) (x : Nat → Int) (p : Ps) (r : Bool) (hr : r = true ↔ sfA m x n p) (w : World) (hS : SegIn w ao m x) (hP : SpIn w bo n p) : Calls Try.prog 30 #[.slice ao m ca, .slice bo n cb] w (VP (.bool r) w) := by
  have HS : Hid (SegIn w ao m x) := hS
  have HP : Hid (SpIn w bo n p) := hP
  have HR : Hid (r = true ↔ sfA m x n p) := hr
  have CS := l7Ok_any ao m ca x w hS
  clear hS hP hr
  go_enter Try.func30, Try.ntmps30
  go_wp2_with fail
  refine CS.mono ?_
  rintro e w1 ⟨rfl, HB⟩
  clear CS
  by_cases hsg : sgI m x = 0
  · rw [decide_eq_true hsg]
    obtain ⟨b, hb⟩ := bool_of (paB n p)
    have CP := pathOk_any bo n cb p b hb _ (HP.out.step HB)
    go_wp2_with fail
    refine CP.mono ?_
    rintro e w2 ⟨rfl, hB⟩
    replace HB := HB.trans (hB.mono HB.size)
    clear hB CP
    cases b
    · have hf : r = false := Bool.eq_false_iff.2 fun h => by
        have := hb.2 (HR.out.1 h).2.1
        cases this
      subst hf
      clear hb hsg
      go_wp2
      go_ret
      exact ⟨rfl, HB⟩
    · have hpa := hb.1 rfl
      obtain ⟨h1, h12, hsp⟩ := hpa
      obtain ⟨h40, hall⟩ := sgI_zero hsg
      have HA : Hid (∀ i, i < m → segOk (x (i * 4)) (x (i * 4 + 1)) (x (i * 4 + 2)) (x (i * 4 + 3)) = true) := hall
      have HQ : Hid (∀ i, i < n → spotOk (p i).1 (p i).2 = true) := hsp
      have HG : Hid (sgI m x = 0 ∧ paB n p) := ⟨hsg, h1, h12, hsp⟩
      clear hall hsp hsg hb
      go_wp2_with fail
      go_loopw [5] (fun iv wr => ∃ i : Nat, i ≤ n ∧ iv = .int .i64 i ∧ (∀ i', i' < i → ∀ k, k < m → sfP x n p i' k) ∧ Below w.heap.size w wr) (fun iv _ => n - (intOf iv).toNat)
      case atStart => exact ⟨0, by omega, rfl, fun j hj => by omega, HB⟩
      case round =>
        clear HB
        obtain ⟨i, hi, rfl, hall, HB⟩ := hrel
        have HL : Hid (∀ i', i' < i → ∀ k, k < m → sfP x n p i' k) := hall
        clear hall
        by_cases hin : i < n
        · obtain ⟨A2, of2, hbo, hA2, q0, q1⟩ := HP.out.step HB i hin
          subst hbo
          clear q0 q1 hA2
          have hiI : (i : Int) < n := by omega
          go_wp2_with fail
          go_loopw [6] (fun kv wk => ∃ k : Nat, k ≤ m ∧ kv = .int .i64 k ∧ (∀ k', k' < k → sfP x n p i k') ∧ Below w.heap.size w wk) (fun kv _ => m - (intOf kv).toNat)
          case atStart => exact ⟨0, by omega, rfl, fun j hj => by omega, HB⟩
          case round =>
            clear HB
            obtain ⟨k, hk, rfl, hall, HB⟩ := hrel
            have HK : Hid (∀ k', k' < k → sfP x n p i k') := hall
            clear hall
            by_cases hkm : k < m
            · obtain ⟨A, of, hao, hA, hcell⟩ := HS.out.step HB k hkm
              obtain ⟨A', of', hbo, hA2, q0, q1⟩ := HP.out.step HB i hin
              obtain ⟨rfl, rfl⟩ : A2 = A' ∧ of2 = of' := by simpa using hbo
              clear hbo
              subst hao
              have c0 := hcell 0 (by omega); have c1 := hcell 1 (by omega); have c2 := hcell 2 (by omega); have c3 := hcell 3 (by omega)
              simp only [Nat.add_zero] at c0
              obtain ⟨ia, ib, ic, id⟩ := in6_seg (HA.out k hkm)
              obtain ⟨ie, ig⟩ := in6_spot (HQ.out i hin)
              have hkI : (k : Int) < m := by omega
              clear hcell
              go_upto_region 9 with fail
              refine frS (a := (x (k * 4))) (b := (x (k * 4 + 1))) (c := (x (k * 4 + 2))) (d := (x (k * 4 + 3))) (e := (p i).1) (f := (p i).2) hkm h40 hin h12 ia ib ic id ie ig rfl rfl rfl rfl c0 hA c1 hA c2 hA c3 hA q0 hA2 q1 hA2 rfl ?_
              rintro ⟨tm, df⟩ W9 hz hdf hoff h41 hBz
              simp only at hz hdf hoff
              change tm.getD 41 undef = .bool (btwS (x (k * 4)) (x (k * 4 + 1)) 1 (x (k * 4 + 2)) (x (k * 4 + 3)) 1 (p i).1 (p i).2 1) at h41
              subst hdf
              have htm := tmps_fold [32, 33, 34, 35, 36, 37, 38, 39, 40, 41] tm _ hz hoff
              simp only [List.foldl, List.setIfInBounds_toArray, List.set_cons_zero, List.set_cons_succ, h41] at htm
              clear hz hoff
              generalize tm.getD 32 undef = s0, tm.getD 33 undef = s1, tm.getD 34 undef = s2, tm.getD 35 undef = s3, tm.getD 36 undef = s4, tm.getD 37 undef = s5, tm.getD 38 undef = s6, tm.getD 39 undef = s7, tm.getD 40 undef = s8 at htm
              clear h41
              subst htm
              replace HB := HB.trans (hBz.mono HB.size)
              clear hBz c0 c1 c2 c3 q0 q1 hA hA2
              cases hon : btwS (x (k * 4)) (x (k * 4 + 1)) 1 (x (k * 4 + 2)) (x (k * 4 + 3)) 1 (p i).1 (p i).2 1
              · have HON : Hid (btwS (x (k * 4)) (x (k * 4 + 1)) 1 (x (k * 4 + 2)) (x (k * 4 + 3)) 1 (p i).1 (p i).2 1 = false) := hon
                clear hon
                obtain ⟨jn, hjn⟩ : ∃ jn, jn = (i + 1) % n := ⟨_, rfl⟩
                have hjl : jn < n := by rw [hjn]; exact Nat.mod_lt _ (by omega)
                have HJ : Hid (jn = (i + 1) % n) := hjn
                obtain ⟨A', of', hbo, hA2, q0, q1⟩ := HP.out.step HB i hin
                obtain ⟨rfl, rfl⟩ : A2 = A' ∧ of2 = of' := by simpa using hbo
                clear hbo
                obtain ⟨A', of', hbo, _, r0, r1⟩ := HP.out.step HB jn hjl
                obtain ⟨rfl, rfl⟩ : A2 = A' ∧ of2 = of' := by simpa using hbo
                clear hbo
                have CSG := fun w => specSegOf_any (p i).1 (p i).2 (p jn).1 (p jn).2 _ _ _ _ _ _ rfl rfl rfl rfl rfl rfl w
                obtain ⟨A4, hA4⟩ : ∃ A4, cond (lessI (p jn).1 (p jn).2 (p i).1 (p i).2) (p jn).1 (p i).1 = A4 := ⟨_, rfl⟩
                obtain ⟨B4, hB4⟩ : ∃ B4, cond (lessI (p jn).1 (p jn).2 (p i).1 (p i).2) (p jn).2 (p i).2 = B4 := ⟨_, rfl⟩
                obtain ⟨C4, hC4⟩ : ∃ C4, cond (lessI (p jn).1 (p jn).2 (p i).1 (p i).2) (p i).1 (p jn).1 = C4 := ⟨_, rfl⟩
                obtain ⟨D4, hD4⟩ : ∃ D4, cond (lessI (p jn).1 (p jn).2 (p i).1 (p i).2) (p i).2 (p jn).2 = D4 := ⟨_, rfl⟩
                rw [hA4, hB4, hC4, hD4] at CSG
                have HSF : Hid (sfP x n p i k ↔ (btwS (x (k * 4)) (x (k * 4 + 1)) 1 (x (k * 4 + 2)) (x (k * 4 + 3)) 1 (p i).1 (p i).2 1 = false ∧ (i + 1 = n ∨ segOk A4 B4 C4 D4 = false ∨ kndZ A4 B4 C4 D4 (x (k * 4)) (x (k * 4 + 1)) (x (k * 4 + 2)) (x (k * 4 + 3)) = 0))) := by
                  show _ ↔ _
                  unfold sfP
                  rw [← hjn, hA4, hB4, hC4, hD4]
                obtain ⟨je, jf⟩ := in6_spot (HQ.out jn hjl)
                have jA : -1000000 ≤ A4 ∧ A4 ≤ 1000000 := by rw [← hA4]; cases lessI (p jn).1 (p jn).2 (p i).1 (p i).2 <;> assumption
                have jB : -1000000 ≤ B4 ∧ B4 ≤ 1000000 := by rw [← hB4]; cases lessI (p jn).1 (p jn).2 (p i).1 (p i).2 <;> assumption
                have jC : -1000000 ≤ C4 ∧ C4 ≤ 1000000 := by rw [← hC4]; cases lessI (p jn).1 (p jn).2 (p i).1 (p i).2 <;> assumption
                have jD : -1000000 ≤ D4 ∧ D4 ≤ 1000000 := by rw [← hD4]; cases lessI (p jn).1 (p jn).2 (p i).1 (p i).2 <;> assumption
                have H0 : Hid (n ≤ 12) := h12
                clear hA4 hB4 hC4 hD4 hjn je jf
                obtain ⟨kk, hkk⟩ : ∃ kk, segOk A4 B4 C4 D4 = kk := ⟨_, rfl⟩
                rw [hkk] at CSG
                go_upto_region 11 with fail
                refine frT (B4 := W9.heap.size) (i := i) (jn := jn) (ex := (p i).1) (ey := (p i).2) (gx := (p jn).1) (gy := (p jn).2) (k := kk) rfl hin h12 HJ hjl CSG rfl rfl q0 hA2 q1 hA2 r0 hA2 r1 hA2 rfl ?_
                rintro ⟨tm, df⟩ W11 hz hdf hoff h17 h8 hBz ⟨gz, h7, hgz, GZ⟩
                simp only at hz hdf hoff
                change tm.getD 8 undef = .bool kk at h8
                change tm.getD 7 undef = .pointer (some ⟨gz, 0, none⟩) at h7
                subst hdf
                have htm := tmps_fold [43, 44, 45, 46, 47, 48, 49, 50, 51, 52, 53, 54, 55, 42, 56, 57, 7, 8] tm _ hz hoff
                simp only [List.foldl, List.setIfInBounds_toArray, List.set_cons_zero, List.set_cons_succ, h7, h8] at htm
                clear hz hoff
                generalize tm.getD 43 undef = t0, tm.getD 44 undef = t1, tm.getD 45 undef = t2, tm.getD 46 undef = t3, tm.getD 47 undef = t4, tm.getD 48 undef = t5, tm.getD 49 undef = t6, tm.getD 50 undef = t7, tm.getD 51 undef = t8, tm.getD 52 undef = t9, tm.getD 53 undef = t10, tm.getD 54 undef = t11, tm.getD 55 undef = t12, tm.getD 42 undef = t13, tm.getD 56 undef = t14, tm.getD 57 undef = t15 at htm
                clear h7 h8
                subst htm
                replace HB := HB.trans (hBz.mono HB.size)
                clear hBz q0 q1 r0 r1 hA2 CSG h17
                have wI : IntKind.i64.wrap ((i : Int) + 1) = (i : Int) + 1 := by rw [IntKind.wrap_i64]; omega
                by_cases hlast : i + 1 = n
                · have hlI : ((i : Int) + 1 == (n : Int)) = true := beq_iff_eq.2 (by omega)
                  have hlJ : (i : Int) + 1 = (n : Int) := by omega
                  have HNX : Hid (sfP x n p i k) := HSF.out.2 ⟨HON.out, .inl hlast⟩
                  clear GZ HSF hlast
                  go_wp2
                  go_roundw
                  case rel => exact ⟨k + 1, by omega, by go_num, fun k' hk' => by
                    rcases Nat.lt_or_ge k' k with h | h
                    · exact HK.out k' h
                    · obtain rfl : k' = k := by omega
                      exact HNX.out, HB⟩
                  case measure => simp [intOf]; omega
                · have hlI : ((i : Int) + 1 == (n : Int)) = false := beq_eq_false_iff_ne.2 (by omega)
                  have hlJ : ¬ ((i : Int) + 1 = (n : Int)) := by omega
                  cases kk
                  · have HNX : Hid (sfP x n p i k) := HSF.out.2 ⟨HON.out, .inr (.inl hkk)⟩
                    clear GZ HSF hlast hkk
                    go_wp2
                    go_roundw
                    case rel => exact ⟨k + 1, by omega, by go_num, fun k' hk' => by
                      rcases Nat.lt_or_ge k' k with h | h
                      · exact HK.out k' h
                      · obtain rfl : k' = k := by omega
                        exact HNX.out, HB⟩
                    case measure => simp [intOf]; omega
                  · have CM : ∀ w, Calls Try.prog 72 #[.agg #[.int .i64 A4, .int .i64 B4, .int .i64 C4, .int .i64 D4], .agg #[.int .i64 (x (k * 4)), .int .i64 (x (k * 4 + 1)), .int .i64 (x (k * 4 + 2)), .int .i64 (x (k * 4 + 3))]] w (fun e w' => (∃ (af1 af2 af3 : Bool) (ak1 ak2 ak3 : Option Addr) (am1 am2 am3 ax1 ax2 ax3 : Nat) (bf1 bf2 bf3 : Bool) (bk1 bk2 bk3 : Option Addr) (bm1 bm2 bm3 bx1 bx2 bx3 : Nat), e = .returned (.tuple #[.int .i64 (kndZ A4 B4 C4 D4 (x (k * 4)) (x (k * 4 + 1)) (x (k * 4 + 2)) (x (k * 4 + 3))), .agg #[.bool af1, .slice ak1 am1 ax1, .bool af2, .slice ak2 am2 ax2, .bool af3, .slice ak3 am3 ax3], .agg #[.bool bf1, .slice bk1 bm1 bx1, .bool bf2, .slice bk2 bm2 bx2, .bool bf3, .slice bk3 bm3 bx3]])) ∧ Below w.heap.size w w') := by
                      intro w
                      refine (l4Meet_any A4 B4 C4 D4 (x (k * 4)) (x (k * 4 + 1)) (x (k * 4 + 2)) (x (k * 4 + 3)) jA jB jC jD ia ib ic id w).mono ?_
                      intro e w' h
                      obtain ⟨⟨f1, f2, f3, g1, g2, g3, k1, k2, k3, l1, l2, l3, m1, m2, m3, x1, x2, x3, y1, y2, y3, z1, z2, z3, he⟩, hB⟩ := mtP_kind h
                      exact ⟨⟨f1, f2, f3, k1, k2, k3, m1, m2, m3, x1, x2, x3, g1, g2, g3, l1, l2, l3, y1, y2, y3, z1, z2, z3, he⟩, hB⟩
                    obtain ⟨A', of', hao, hA, hcell⟩ := HS.out.step HB k hkm
                    obtain ⟨rfl, rfl⟩ : A = A' ∧ of = of' := by simpa using hao
                    have c0 := hcell 0 (by omega); have c1 := hcell 1 (by omega); have c2 := hcell 2 (by omega); have c3 := hcell 3 (by omega)
                    simp only [Nat.add_zero] at c0
                    clear hcell hao
                    have GY : Blk W11 gz [.int .i64 A4, .int .i64 B4, .int .i64 C4, .int .i64 D4] := GZ
                    generalize hKN : kndZ A4 B4 C4 D4 (x (k * 4)) (x (k * 4 + 1)) (x (k * 4 + 2)) (x (k * 4 + 3)) = KN4 at CM
                    have HKN : Hid (kndZ A4 B4 C4 D4 (x (k * 4)) (x (k * 4 + 1)) (x (k * 4 + 2)) (x (k * 4 + 3)) = KN4) := hKN
                    clear GZ hKN
                    go_upto_region 13 with fail
                    refine frU (A7 := gz) (k := k) (K4 := KN4) hkm h40 CM rfl rfl rfl (GY.c 0 rfl) GY.lt (GY.c 1 rfl) GY.lt (GY.c 2 rfl) GY.lt (GY.c 3 rfl) GY.lt c0 hA c1 hA c2 hA c3 hA rfl ?_
                    rintro ⟨tm, df⟩ W13 hz hdf hoff h9 hBz
                    simp only at hz hdf hoff
                    change tm.getD 9 undef = .int .i64 KN4 at h9
                    subst hdf
                    have htm := tmps_fold [68, 69, 70, 71, 72, 73, 67, 74, 75, 76, 10, 11, 9] tm _ hz hoff
                    simp only [List.foldl, List.setIfInBounds_toArray, List.set_cons_zero, List.set_cons_succ, h9] at htm
                    clear hz hoff
                    generalize tm.getD 68 undef = y0, tm.getD 69 undef = y1, tm.getD 70 undef = y2, tm.getD 71 undef = y3, tm.getD 72 undef = y4, tm.getD 73 undef = y5, tm.getD 67 undef = y6, tm.getD 74 undef = y7, tm.getD 75 undef = y8, tm.getD 76 undef = y9, tm.getD 10 undef = y10, tm.getD 11 undef = y11 at htm
                    clear h9
                    subst htm
                    replace HB := HB.trans (hBz.mono HB.size)
                    clear hBz GY c0 c1 c2 c3 hA CM
                    by_cases hz0 : KN4 = 0
                    · have hb0 : (KN4 == 0) = true := beq_iff_eq.2 hz0
                      have HNX : Hid (sfP x n p i k) := HSF.out.2 ⟨HON.out, .inr (.inr (by rw [HKN.out]; exact hz0))⟩
                      clear HSF HKN hz0 hkk hlast
                      go_wp2
                      go_roundw
                      case rel => exact ⟨k + 1, by omega, by go_num, fun k' hk' => by
                        rcases Nat.lt_or_ge k' k with h | h
                        · exact HK.out k' h
                        · obtain rfl : k' = k := by omega
                          exact HNX.out, HB⟩
                      case measure => simp [intOf]; omega
                    · have hb0 : (KN4 == 0) = false := beq_eq_false_iff_ne.2 hz0
                      have hf : r = false := Bool.eq_false_iff.2 fun h => by
                        have h5 := HSF.out.1 ((HR.out.1 h).2.2 i hin k hkm)
                        rcases h5.2 with h6 | h6 | h6
                        · exact hlast h6
                        · rw [hkk] at h6; cases h6
                        · rw [HKN.out] at h6; exact hz0 h6
                      subst hf
                      clear HSF HKN hz0 hkk hlast
                      go_wp2
                      go_ret
                      exact ⟨rfl, HB⟩
              · have hf : r = false := Bool.eq_false_iff.2 fun h => by
                  have h5 := ((HR.out.1 h).2.2 i hin k hkm).1
                  rw [hon] at h5
                  cases h5
                subst hf
                clear hon
                go_wp2
                go_ret
                exact ⟨rfl, HB⟩
            · obtain rfl : k = m := by omega
              go_wp2
              go_roundw
              case rel => exact ⟨i + 1, by omega, by go_num, fun i' hi' => by
                rcases Nat.lt_or_ge i' i with h | h
                · exact HL.out i' h
                · obtain rfl : i' = i := by omega
                  exact HK.out, HB⟩
              case measure => simp [intOf]; omega
        · obtain rfl : i = n := by omega
          have hf : r = true := HR.out.2 ⟨HG.out.1, HG.out.2, HL.out⟩
          subst hf
          clear HL
          go_wp2
          go_ret
          exact ⟨rfl, HB⟩
  · have hf : r = false := Bool.eq_false_iff.2 fun h => hsg (HR.out.1 h).1
    rw [decide_eq_false hsg]
    subst hf
    go_wp2
    go_ret
    exact ⟨rfl, HB⟩
end Go.Proofs.Ytmjlgmoohpnhfaa

/- Where a segment stands over a point: the model's side. -/
namespace Go.Proofs.Ytmjlgmoohpnhfaa
open Go.RowKit
end Go.Proofs.Ytmjlgmoohpnhfaa

/- Where a segment stands over a point, whether the point lies on it, on which side it lies: the reckoning. -/
namespace Go.Proofs.Ytmjlgmoohpnhfaa
open Go.RowKit
theorem cmpZ_le {x y : Int} : cmpI x y ≤ 0 ↔ x ≤ y := by unfold cmpI; repeat' split <;> omega
theorem cmpZ_lt {x y : Int} : cmpI x y < 0 ↔ x < y := by unfold cmpI; repeat' split <;> omega
theorem cmpZ_gt {x y : Int} : cmpI x y > 0 ↔ y < x := by unfold cmpI; repeat' split <;> omega
theorem cmpZ_eq {x y : Int} : cmpI x y = 0 ↔ x = y := by unfold cmpI; repeat' split <;> omega
theorem ordZ_le (x y z u v t : Int) : ordI x y z u v t ≤ 0 ↔ x * t < u * z ∨ (x * t = u * z ∧ y * t ≤ v * z) := by
  unfold ordI
  by_cases h : cmpI (x * t) (u * z) = 0
  · rw [if_pos h, cmpZ_le]
    have := cmpZ_eq.1 h
    omega
  · rw [if_neg h, cmpZ_le]
    have : x * t ≠ u * z := fun e => h (cmpZ_eq.2 e)
    omega
theorem turn_lin (a b c d x y z : Int) : a * (d * z - 1 * y) - b * (c * z - 1 * x) + 1 * (c * y - d * x) = (c - a) * (y - b * z) - (d - b) * (x - a * z) := by grind
theorem turn_zero {a b c d x y z : Int} : turnI a b 1 c d 1 x y z = 0 ↔ (c - a) * (y - b * z) = (d - b) * (x - a * z) := by
  unfold turnI
  rw [cmpZ_eq, turn_lin]
  omega
theorem btw_seg {a b c d x y z : Int} (h : a < c ∨ (a = c ∧ b < d)) : btwS a b 1 c d 1 x y z = (decide (ordI a b 1 x y z ≤ 0) && decide (ordI x y z c d 1 ≤ 0) && decide (turnI a b 1 c d 1 x y z = 0)) := by
  have h0 : ¬ 0 < ordI a b 1 c d 1 := by
    have := (ordZ_le a b 1 c d 1).2 (by omega)
    omega
  unfold btwS
  rw [if_neg h0]
theorem prod_zero {p q : Int} (hp : p ≠ 0) (h : p * q = 0) : q = 0 := by
  rcases Int.mul_eq_zero.1 h with h' | h'
  · exact absurd h' hp
  · exact h'
theorem over_zero {a b c d x y z : Int} (h : a < c ∨ (a = c ∧ b < d)) : overJ a b c d x y z = 0 ↔ (ordI a b 1 x y z ≤ 0 ∧ ordI x y z c d 1 ≤ 0 ∧ turnI a b 1 c d 1 x y z = 0) := by
  rw [ordZ_le, ordZ_le]
  simp only [Int.mul_one]
  unfold overJ
  simp only [cmpZ_lt, cmpZ_gt, Int.mul_one]
  by_cases h1 : x < a * z
  · rw [if_pos h1]
    omega
  by_cases h2 : c * z < x
  · rw [if_neg h1, if_pos h2]
    omega
  rw [if_neg h1, if_neg h2]
  rcases h with h | ⟨h, h'⟩
  · rw [if_pos h]
    constructor
    · intro ht
      have ht' : turnI a b 1 c d 1 x y z = 0 := by omega
      have e := turn_zero.1 ht'
      refine ⟨?_, ?_, ht'⟩
      · by_cases hx : x = a * z
        · refine Or.inr ⟨hx.symm, ?_⟩
          rw [hx] at e
          have e2 : (c - a) * (y - b * z) = 0 := by rw [e]; simp
          have := prod_zero (by omega) e2
          omega
        · exact Or.inl (by omega)
      · by_cases hx : x = c * z
        · refine Or.inr ⟨hx, ?_⟩
          rw [hx] at e
          have e2 : (c - a) * (y - d * z) = 0 := by
            have : (c - a) * (y - d * z) = (c - a) * (y - b * z) - (d - b) * (c * z - a * z) := by grind
            omega
          have := prod_zero (by omega) e2
          omega
        · exact Or.inl (by omega)
    · rintro ⟨-, -, ht⟩
      omega
  · subst h
    rw [if_neg (by omega)]
    have hx : x = a * z := by omega
    have ht : turnI a b 1 a d 1 x y z = 0 := by
      rw [turn_zero, hx]
      simp
    by_cases h3 : y < b * z
    · rw [if_pos h3]
      omega
    by_cases h4 : d * z < y
    · rw [if_neg h3, if_pos h4]
      omega
    rw [if_neg h3, if_neg h4]
    constructor
    · intro _
      exact ⟨Or.inr ⟨by omega, by omega⟩, Or.inr ⟨by omega, by omega⟩, ht⟩
    · intro _
      rfl
end Go.Proofs.Ytmjlgmoohpnhfaa

/- Whether a way keeps clear of segments: both say the same. -/
namespace Go.Proofs.Ytmjlgmoohpnhfaa
open Go.RowKit
theorem on_over {a b c d e f : Int} (h : lessI a b c d = true) : btwS a b 1 c d 1 e f 1 = true ↔ overJ a b c d e f 1 = 0 := by
  rw [less_iff] at h
  rw [btw_seg h, over_zero h]
  simp only [Bool.and_eq_true, decide_eq_true_eq]
  constructor
  · rintro ⟨⟨p, q⟩, r⟩
    exact ⟨p, q, r⟩
  · rintro ⟨p, q, r⟩
    exact ⟨⟨p, q⟩, r⟩
theorem on_parts {a b c d e f : Int} (h : lessI a b c d = true) (ho : btwS a b 1 c d 1 e f 1 = true) : turnZ a b c d e f = 0 ∧ (a < e ∨ (a = e ∧ b ≤ f)) ∧ (e < c ∨ (e = c ∧ f ≤ d)) := by
  rw [on_over h] at ho
  rw [less_iff] at h
  obtain ⟨h1, h2, h3⟩ := (over_zero h).1 ho
  rw [ordZ_le] at h1 h2
  have h4 := turn_zero.1 h3
  refine ⟨?_, by omega, by omega⟩
  unfold turnZ
  simp only [Int.mul_one] at h4
  omega
theorem seg_lessI {a b c d : Int} (h : segOk a b c d = true) : lessI a b c d = true := by
  unfold segOk at h
  simp only [Bool.and_eq_true] at h
  exact h.2
/-- A step: its ends in their order. -/
theorem step_ok {p q u v : Int} (hp : spotOk p q = true) (hu : spotOk u v = true) (h : segOk (cond (lessI u v p q) u p) (cond (lessI u v p q) v q) (cond (lessI u v p q) p u) (cond (lessI u v p q) q v) = false) : p = u ∧ q = v := by
  cases hl : lessI u v p q <;> rw [hl] at h <;> simp only [cond_true, cond_false] at h
  · unfold segOk at h
    rw [hp, hu, Bool.true_and, Bool.true_and] at h
    have h1 : ¬ lessI u v p q = true := by rw [hl]; decide
    have h2 : ¬ lessI p q u v = true := by rw [h]; decide
    rw [less_iff] at h1 h2
    omega
  · unfold segOk at h
    rw [hp, hu, hl] at h
    cases h
theorem step_same {p q : Int} : segOk (cond (lessI p q p q) p p) (cond (lessI p q p q) q q) (cond (lessI p q p q) p p) (cond (lessI p q p q) q q) = false := by
  have h : lessI p q p q = false := Bool.eq_false_iff.2 fun h => by rw [less_iff] at h; omega
  rw [h]
  simp only [cond_false]
  unfold segOk
  rw [h, Bool.and_false]
theorem step_on {a b c d p q u v e f : Int} (h : lessI a b c d = true) (hk : segOk (cond (lessI u v p q) u p) (cond (lessI u v p q) v q) (cond (lessI u v p q) p u) (cond (lessI u v p q) q v) = true) (he : (e = p ∧ f = q) ∨ (e = u ∧ f = v)) (ho : btwS a b 1 c d 1 e f 1 = true) : kndZ a b c d (cond (lessI u v p q) u p) (cond (lessI u v p q) v q) (cond (lessI u v p q) p u) (cond (lessI u v p q) q v) ≠ 0 := by
  obtain ⟨t1, t2, t3⟩ := on_parts h ho
  have hl := seg_lessI hk
  refine knd_on h hl ?_ t1 t2 t3
  cases lessI u v p q <;> simp only [cond_true, cond_false]
  · exact he
  · exact he.symm
theorem st_false {a b c d p q u v : Int} : stB a b c d p q u v = false ↔ (if segOk (cond (lessI u v p q) u p) (cond (lessI u v p q) v q) (cond (lessI u v p q) p u) (cond (lessI u v p q) q v) = true then kndZ a b c d (cond (lessI u v p q) u p) (cond (lessI u v p q) v q) (cond (lessI u v p q) p u) (cond (lessI u v p q) q v) = 0 else ¬ overJ a b c d p q 1 = 0) := by
  unfold stB
  split
  · simp
  · simp
theorem free_same (m : Nat) (x : Nat → Int) (n : Nat) (p : Ps) : frP m x n p ↔ sfA m x n p := by
  constructor
  · rintro ⟨hsg, hpa, hall⟩
    refine ⟨hsg, hpa, fun i hi k hk => ?_⟩
    have hs := (sgI_zero hsg).2 k hk
    have hl := seg_lessI hs
    have hsp := hpa.2.2
    refine ⟨Bool.eq_false_iff.2 fun hon => ?_, ?_⟩
    · have h1 := st_false.1 (hall i hi k hk)
      by_cases hg : segOk (cond (lessI (p i).1 (p i).2 (p (i - 1)).1 (p (i - 1)).2) (p i).1 (p (i - 1)).1) (cond (lessI (p i).1 (p i).2 (p (i - 1)).1 (p (i - 1)).2) (p i).2 (p (i - 1)).2) (cond (lessI (p i).1 (p i).2 (p (i - 1)).1 (p (i - 1)).2) (p (i - 1)).1 (p i).1) (cond (lessI (p i).1 (p i).2 (p (i - 1)).1 (p (i - 1)).2) (p (i - 1)).2 (p i).2) = true
      · rw [if_pos hg] at h1
        exact step_on hl hg (.inr ⟨rfl, rfl⟩) hon h1
      · rw [if_neg hg] at h1
        obtain ⟨e1, e2⟩ := step_ok (hsp (i - 1) (by omega)) (hsp i hi) (Bool.eq_false_iff.2 hg)
        rw [e1, e2] at h1
        exact h1 ((on_over hl).1 hon)
    · by_cases hlast : i + 1 = n
      · exact .inl hlast
      · right
        have hm : (i + 1) % n = i + 1 := Nat.mod_eq_of_lt (by omega)
        rw [hm]
        have h1 := st_false.1 (hall (i + 1) (by omega) k hk)
        rw [Nat.add_sub_cancel] at h1
        cases hg : segOk (cond (lessI (p (i + 1)).1 (p (i + 1)).2 (p i).1 (p i).2) (p (i + 1)).1 (p i).1) (cond (lessI (p (i + 1)).1 (p (i + 1)).2 (p i).1 (p i).2) (p (i + 1)).2 (p i).2) (cond (lessI (p (i + 1)).1 (p (i + 1)).2 (p i).1 (p i).2) (p i).1 (p (i + 1)).1) (cond (lessI (p (i + 1)).1 (p (i + 1)).2 (p i).1 (p i).2) (p i).2 (p (i + 1)).2)
        · exact .inl rfl
        · right
          rw [if_pos hg] at h1
          exact (knd_swap hl (seg_lessI hg)).1 h1
  · rintro ⟨hsg, hpa, hall⟩
    refine ⟨hsg, hpa, fun c hc k hk => st_false.2 ?_⟩
    have hs := (sgI_zero hsg).2 k hk
    have hl := seg_lessI hs
    rcases Nat.eq_zero_or_pos c with h0 | h0
    · subst h0
      have h1 := (hall 0 hc k hk).1
      rw [if_neg (by rw [show (0 - 1 : Nat) = 0 from rfl, step_same]; decide)]
      intro h2
      rw [(on_over hl).2 h2] at h1
      cases h1
    · obtain ⟨i, rfl⟩ : ∃ i, c = i + 1 := ⟨c - 1, by omega⟩
      rw [Nat.add_sub_cancel]
      obtain ⟨h1, h2⟩ := hall i (by omega) k hk
      have hm : (i + 1) % n = i + 1 := Nat.mod_eq_of_lt hc
      rw [hm] at h2
      rcases h2 with h2 | h2 | h2
      · omega
      · rw [if_neg (by rw [h2]; decide)]
        intro h3
        rw [(on_over hl).2 h3] at h1
        cases h1
      · split
        · rename_i hg
          exact (knd_swap hl (seg_lessI hg)).2 h2
        · intro h3
          rw [(on_over hl).2 h3] at h1
          cases h1
end Go.Proofs.Ytmjlgmoohpnhfaa

/- Whether a way keeps clear of segments: the law over both sides. -/
namespace Go.Proofs.Ytmjlgmoohpnhfaa
open Go.RowKit
set_option maxRecDepth 100000 in
set_option maxHeartbeats 8000000 in
theorem lawFree_any (ao bo : Option Addr) (m n ca cb : Nat) (x : Nat → Int) (p : Ps) (hm : m ≤ 9223372036854775807) (hn : n ≤ 9223372036854775807) (w : World) (hS : m ≤ 1048576 → SegIn w ao m x) (hP : n ≤ 1048576 → SpIn w bo n p) : Calls Try.prog 7 #[.slice ao m ca, .slice bo n cb] w (BoolP true w) := by
  have SZ := szSegS_any ao m ca hm
  go_enter Try.func7, Try.ntmps7
  by_cases hs : m ≤ 1048576
  · rw [if_pos hs] at SZ
    have HS := hS hs
    have hsI : (m : Int) ≤ 1048576 := by omega
    have T1 := fun w => toSegS_any ao m ca x hs w
    have SP := szSpotS_any bo n cb (1048576 - m) (by omega) (by omega) hn
    clear hS
    go_wp2_with fail
    refine (SZ _).mono ?_
    rintro e w1 ⟨rfl, HB⟩
    replace HS := HS.step HB
    clear SZ
    by_cases hq : (n : Int) ≤ 1048576 - m
    · rw [if_pos hq] at SP
      have hnI : n ≤ 1048576 := by omega
      have HP := (hP hnI).step HB
      have T2 := fun w => toSpotS_any bo n cb p hnI w
      have hq1 : ¬ ((1048576 : Int) - m < 0) := by omega
      have hq2 : ¬ ((1048576 : Int) - m - n < 0) := by omega
      obtain ⟨r, hr⟩ := bool_of (frP m x n p)
      have hr2 : r = true ↔ sfA m x n p := hr.trans (free_same m x n p)
      have rr : (r != r) = false := by simp
      clear hP
      go_wp2_with fail
      refine (SP _).mono ?_
      rintro e w2 ⟨rfl, hB⟩
      replace HB := HB.trans (hB.mono HB.size)
      replace HS := HS.step hB
      replace HP := HP.step hB
      clear hB SP
      go_wp2_with fail
      refine (T1 _ HS).mono ?_
      rintro e w3 ⟨g1, rfl, R1, hB⟩
      replace HB := HB.trans (hB.mono HB.size)
      replace HS := HS.step hB
      replace HP := HP.step hB
      clear hB
      go_wp2_with fail
      refine (T2 _ HP).mono ?_
      rintro e w4 ⟨g2, rfl, _, R2, hB⟩
      replace HB := HB.trans (hB.mono HB.size)
      replace HS := HS.step hB
      replace HP := HP.step hB
      replace R1 := row_step R1 hB
      clear hB
      have CF := specFree_any _ _ m n m n x p r hr2 _ (segIn_row R1) (spIn_row R2)
      go_wp2_with fail
      refine CF.mono ?_
      rintro e w5 ⟨rfl, hB⟩
      replace HB := HB.trans (hB.mono HB.size)
      replace HS := HS.step hB
      replace HP := HP.step hB
      clear hB R1 R2 CF
      go_wp2_with fail
      refine (T1 _ HS).mono ?_
      rintro e w6 ⟨g3, rfl, R1, hB⟩
      replace HB := HB.trans (hB.mono HB.size)
      replace HS := HS.step hB
      replace HP := HP.step hB
      clear hB
      go_wp2_with fail
      refine (T2 _ HP).mono ?_
      rintro e w7 ⟨g4, rfl, _, R2, hB⟩
      replace HB := HB.trans (hB.mono HB.size)
      replace HS := HS.step hB
      replace HP := HP.step hB
      replace R1 := row_step R1 hB
      clear hB
      have CF := implFree_any _ _ m n m n x p r hr _ (segIn_row R1) (spIn_row R2)
      go_wp2_with fail
      refine CF.mono ?_
      rintro e w8 ⟨rfl, hB⟩
      replace HB := HB.trans (hB.mono HB.size)
      replace HS := HS.step hB
      replace HP := HP.step hB
      replace R1 := row_step R1 hB
      replace R2 := row_step R2 hB
      clear hB CF hr hr2
      go_wp2_with fail
      refine (T1 _ HS).mono ?_
      rintro e w9 ⟨g5, rfl, R3, hB⟩
      replace HB := HB.trans (hB.mono HB.size)
      replace HP := HP.step hB
      replace R1 := row_step R1 hB
      replace R2 := row_step R2 hB
      clear hB HS
      go_wp2_with fail
      refine (eqSegS_any _ _ m m m x hs _ (segIn_row R1) (segIn_row R3)).mono ?_
      rintro e w10 ⟨rfl, hB⟩
      replace HB := HB.trans (hB.mono HB.size)
      replace HP := HP.step hB
      replace R2 := row_step R2 hB
      clear hB R1 R3
      go_wp2_with fail
      refine (T2 _ HP).mono ?_
      rintro e w11 ⟨g6, rfl, _, R3, hB⟩
      replace HB := HB.trans (hB.mono HB.size)
      replace R2 := row_step R2 hB
      clear hB HP
      go_wp2_with fail
      refine (eqSpotS_any _ _ n n n p hnI _ (spIn_row R2) (spIn_row R3)).mono ?_
      rintro e w12 ⟨rfl, hB⟩
      replace HB := HB.trans (hB.mono HB.size)
      clear hB R2 R3
      go_wp2
      go_ret
      exact ⟨rfl, HB⟩
    · rw [if_neg hq] at SP
      have hq1 : ¬ ((1048576 : Int) - m < 0) := by omega
      clear hP
      go_wp2_with fail
      refine (SP _).mono ?_
      rintro e w2 ⟨rfl, hB⟩
      replace HB := HB.trans (hB.mono HB.size)
      clear hB SP HS
      go_wp2
      go_ret
      exact ⟨rfl, HB⟩
  · rw [if_neg hs] at SZ
    clear hS hP
    go_wp2_with fail
    refine (SZ _).mono ?_
    rintro e w1 ⟨rfl, HB⟩
    clear SZ
    go_wp2
    go_ret
    exact ⟨rfl, HB⟩
end Go.Proofs.Ytmjlgmoohpnhfaa

/- How spots and segments read as data, beside points: opened and shut. -/
namespace Go.Proofs.Ytmjlgmoohpnhfaa
open Go.ChangeShapes Go.WideShapes Go.ChangeAt Go.RowKit Go.Joins
theorem Try.cellsSpot : Try.prog.cellsOf 44 = 2 := by kernel_rfl
theorem Try.cellsSeg : Try.prog.cellsOf 109 = 4 := by kernel_rfl
abbrev Wf (x : Int) : Prop := (Lit.int .i64 x).wf = true
abbrev SpD {H : Type} (x y : Int) : DataW H := .agg [.lit (.int .i64 x), .lit (.int .i64 y)]
theorem trod_spot {H : Type} {enc : TypeId × Value → H} {w : World} {base : Nat} {spare : TypeId → Bool} {held : Bool} {n : Nat} {c0 c1 : Value} {y : DataW H × List MemPlace} (h : DataW.trod enc Try.prog w base spare held n 44 [c0, c1] = some y) :
    ∃ a b : Int, c0 = .int .i64 a ∧ c1 = .int .i64 b ∧ y = (SpD a b, []) ∧ Wf a ∧ Wf b := by
  obtain ⟨y0, y1, m, hx, _, h0, h1⟩ := trod_struct2 Try.underlying44 h
  obtain ⟨a, e0, rfl, wa⟩ := DataW.trod_int Try.underlying2 h0
  obtain ⟨b, e1, rfl, wb⟩ := DataW.trod_int Try.underlying2 h1
  have k : Try.prog.cellsOf 2 = 1 := by kernel_rfl
  simp [k] at e0 e1
  exact ⟨a, b, e0, e1, hx, wa, wb⟩
end Go.Proofs.Ytmjlgmoohpnhfaa

/- How a row of segments reads as data. -/
namespace Go.Proofs.Ytmjlgmoohpnhfaa
open Go.ChangeShapes Go.WideShapes Go.ChangeAt Go.RowKit Go.Joins
theorem Try.laidOut : laidOutB Try.prog = true := by kernel_rfl
/-- The numbers of a row of segments, one behind the other. -/
def flat4 (q : Nat → Int × Int × Int × Int) (k : Nat) : Int := if k % 4 = 0 then (q (k / 4)).1 else if k % 4 = 1 then (q (k / 4)).2.1 else if k % 4 = 2 then (q (k / 4)).2.2.1 else (q (k / 4)).2.2.2
theorem segs_of {H : Type} {enc : TypeId × Value → H} {W : World} {a : Addr} {len m n : Nat} {D : Nat → DataW H} {Pl : Nat → List MemPlace} (hl : len ≤ m)
    (hx : ∀ i, i < m → ∃ cs', W.cells? 0 (a.add (i * Try.prog.cellsOf 109)) (Try.prog.cellsOf 109) = some cs' ∧ DataW.trod enc Try.prog W 0 (fun _ => true) true n 109 cs' = some (D i, Pl i))
    (hlt : ∀ x ∈ MemPlace.row a (m * Try.prog.cellsOf 109), x.block < W.heap.size) : ∃ x : Nat → Int, SegIn W (some a) len x := by
  rw [Try.cellsSeg] at hx hlt
  have each : ∀ i, i < m → ∃ q : Int × Int × Int × Int, W.cell? (a.add (i * 4)) = some (.int .i64 q.1) ∧ W.cell? (a.add (i * 4 + 1)) = some (.int .i64 q.2.1) ∧ W.cell? (a.add (i * 4 + 2)) = some (.int .i64 q.2.2.1) ∧ W.cell? (a.add (i * 4 + 3)) = some (.int .i64 q.2.2.2) := by
    intro i hi
    obtain ⟨cs', h1, h2⟩ := hx i hi
    obtain ⟨_, hlen, hcell⟩ := World.cells?_some h1
    match cs', hlen with
    | [v0, v1, v2, v3], _ =>
      have e0 := hcell 0 (by omega); have e1 := hcell 1 (by omega); have e2 := hcell 2 (by omega); have e3 := hcell 3 (by omega)
      rw [Go.Deep.add_add] at e0 e1 e2 e3
      obtain ⟨y0, y1, k, hy, _, g0, g1⟩ := trod_struct2 Try.underlying109 h2
      simp [Try.cellsSpot] at g0 g1
      obtain ⟨p, q, rfl, rfl, -, -, -⟩ := trod_spot g0
      obtain ⟨r, s, rfl, rfl, -, -, -⟩ := trod_spot g1
      exact ⟨(p, q, r, s), by simpa using e0, by simpa using e1, by simpa using e2, by simpa using e3⟩
  obtain ⟨q, hq⟩ := Go.Deep.choose_lt each
  obtain ⟨ab, ao, spot⟩ := a
  refine ⟨flat4 q, fun i hi => ?_⟩
  have hspot : spot = none := by simpa [Addr.add] using World.cell?_spot (hq 0 (by omega)).1
  subst hspot
  obtain ⟨c0, c1, c2, c3⟩ := hq i (by omega)
  rw [Addr.add_lit] at c0 c1 c2 c3
  refine ⟨ab, ao, rfl, hlt (.cell ab (ao + i * 4)) (by simp only [MemPlace.row, List.mem_map, List.mem_range]; exact ⟨i * 4, by omega, rfl⟩), fun j hj => ?_⟩
  unfold flat4
  have hd : (i * 4 + j) / 4 = i := by omega
  have hm : (i * 4 + j) % 4 = j := by omega
  rw [hd, hm]
  rcases (show j = 0 ∨ j = 1 ∨ j = 2 ∨ j = 3 by omega) with rfl | rfl | rfl | rfl
  · simpa using c0
  · simpa [Nat.add_assoc] using c1
  · simpa [Nat.add_assoc] using c2
  · simpa [Nat.add_assoc] using c3
end Go.Proofs.Ytmjlgmoohpnhfaa

/- How a row of segments, and a row of spots, read as data. -/
namespace Go.Proofs.Ytmjlgmoohpnhfaa
open Go.ChangeShapes Go.WideShapes Go.ChangeAt Go.RowKit Go.Joins
theorem spots_ofF {H : Type} {enc : TypeId × Value → H} {W : World} {a : Addr} {len m n : Nat} {D : Nat → DataW H} {Pl : Nat → List MemPlace} (hl : len ≤ m)
    (hx : ∀ i, i < m → ∃ cs', W.cells? 0 (a.add (i * Try.prog.cellsOf 44)) (Try.prog.cellsOf 44) = some cs' ∧ DataW.trod enc Try.prog W 0 (fun _ => true) true n 44 cs' = some (D i, Pl i))
    (hlt : ∀ x ∈ MemPlace.row a (m * Try.prog.cellsOf 44), x.block < W.heap.size) : ∃ p : Ps, SpIn W (some a) len p := by
  rw [Try.cellsSpot] at hx hlt
  have each : ∀ i, i < m → ∃ q : Int × Int, W.cell? (a.add (i * 2)) = some (.int .i64 q.1) ∧ W.cell? (a.add (i * 2 + 1)) = some (.int .i64 q.2) := by
    intro i hi
    obtain ⟨cs', h1, h2⟩ := hx i hi
    obtain ⟨_, hlen, hcell⟩ := World.cells?_some h1
    match cs', hlen with
    | [v0, v1], _ =>
      have e0 := hcell 0 (by omega); have e1 := hcell 1 (by omega)
      rw [Go.Deep.add_add] at e0 e1
      obtain ⟨x, y, rfl, rfl, -, -, -⟩ := trod_spot h2
      exact ⟨(x, y), by simpa using e0, by simpa using e1⟩
  obtain ⟨q, hq⟩ := Go.Deep.choose_lt each
  obtain ⟨ab, ao, spot⟩ := a
  refine ⟨q, fun i hi => ?_⟩
  have hspot : spot = none := by simpa [Addr.add] using World.cell?_spot (hq 0 (by omega)).1
  subst hspot
  obtain ⟨c0, c1⟩ := hq i (by omega)
  rw [Addr.add_lit] at c0 c1
  exact ⟨ab, ao, rfl, hlt (.cell ab (ao + i * 2)) (by simp only [MemPlace.row, List.mem_map, List.mem_range]; exact ⟨i * 2, by omega, rfl⟩), c0, by simpa [Nat.add_assoc] using c1⟩
set_option maxRecDepth 100000 in
theorem open_segs {H : Type} {enc : TypeId × Value → H} {W : World} {base : Nat} {v : Value} {d : DataW H} {pl : List MemPlace} (ok : Value.okWide Try.prog W .any base 42 v) (h : DataW.Trod enc Try.prog W 0 (fun _ => true) true 42 v d pl) (hlt : ∀ x ∈ pl, x.block < W.heap.size) :
    ∃ ao n cap p, v = .slice ao n cap ∧ n ≤ 9223372036854775807 ∧ SegIn W ao n p := by
  obtain ⟨a0, len, cap, rfl⟩ := okWide_slice Try.underlying42 ok
  obtain ⟨fuel, hf⟩ := h
  rcases Go.Deep.open_slice Try.underlying42 hf with ⟨hcs, -⟩ | ⟨a', len', cap', m', n', D', Pl', hcs, _, hl', hm', hz', hx', hel'⟩
  · simp [Value.cells] at hcs
    obtain ⟨rfl, rfl, rfl⟩ := hcs
    exact ⟨none, 0, 0, fun _ => 0, rfl, Nat.zero_le _, fun i hi => absurd hi (Nat.not_lt_zero _)⟩
  · simp [Value.cells] at hcs
    obtain ⟨rfl, rfl, rfl⟩ := hcs
    simp only [Prod.mk.injEq] at hx'
    obtain ⟨rfl, rfl⟩ := hx'
    simp only [if_true] at hz'
    obtain ⟨p, hp⟩ := segs_of (len := len) (by omega) hel' (fun y hy => hlt y (List.mem_append_left _ hy))
    exact ⟨some a', len, cap, p, rfl, by have := hm'; simp [maxLen] at this; omega, hp⟩
set_option maxRecDepth 100000 in
theorem open_spots {H : Type} {enc : TypeId × Value → H} {W : World} {base : Nat} {v : Value} {d : DataW H} {pl : List MemPlace} (ok : Value.okWide Try.prog W .any base 22 v) (h : DataW.Trod enc Try.prog W 0 (fun _ => true) true 22 v d pl) (hlt : ∀ x ∈ pl, x.block < W.heap.size) :
    ∃ ao n cap p, v = .slice ao n cap ∧ n ≤ 9223372036854775807 ∧ SpIn W ao n p := by
  obtain ⟨a0, len, cap, rfl⟩ := okWide_slice Try.underlying22 ok
  obtain ⟨fuel, hf⟩ := h
  rcases Go.Deep.open_slice Try.underlying22 hf with ⟨hcs, -⟩ | ⟨a', len', cap', m', n', D', Pl', hcs, _, hl', hm', hz', hx', hel'⟩
  · simp [Value.cells] at hcs
    obtain ⟨rfl, rfl, rfl⟩ := hcs
    exact ⟨none, 0, 0, fun _ => (0, 0), rfl, Nat.zero_le _, fun i hi => absurd hi (Nat.not_lt_zero _)⟩
  · simp [Value.cells] at hcs
    obtain ⟨rfl, rfl, rfl⟩ := hcs
    simp only [Prod.mk.injEq] at hx'
    obtain ⟨rfl, rfl⟩ := hx'
    simp only [if_true] at hz'
    obtain ⟨p, hp⟩ := spots_ofF (len := len) (by omega) hel' (fun y hy => hlt y (List.mem_append_left _ hy))
    exact ⟨some a', len, cap, p, rfl, by have := hm'; simp [maxLen] at this; omega, hp⟩
end Go.Proofs.Ytmjlgmoohpnhfaa

/- What the row of a law asks of the program as a whole, each by itself. -/
namespace Go.Proofs.Ytmjlgmoohpnhfaa
open Go.ChangeShapes Go.WideShapes Go.ChangeAt Go.RowKit Go.Joins
theorem jn_laid : laidOutB Try.pinned.checked.prog = true := by kernel_rfl
theorem jn_maps : mapsRowed Try.pinned.checked.prog = true := by kernel_rfl
theorem jn_enter : Try.pinned.checked.prog.mayEnter = true := by kernel_rfl
theorem jn_heard : Try.pinned.checked.prog.stopsHeard = true := by kernel_rfl
end Go.Proofs.Ytmjlgmoohpnhfaa
