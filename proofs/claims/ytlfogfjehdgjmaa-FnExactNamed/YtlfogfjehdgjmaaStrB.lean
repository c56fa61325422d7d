/- A matrix and a mask: whether they meet, on both sides. -/
import Derived.Test.YtlfogfjehdgjmaaStrA
import Derived.Test.YtlfogfjehdgjmaaQw
namespace Go.Proofs.Ytlfogfjehdgjmaa
open Go.RowKit
/-- What stands at a place of a matrix meets what stands there in a mask. -/
def meetsB (f g : Nat) : Bool := g == 42 || (if g == 84 then f != 70 else f == g)
/-- A matrix meets a mask. -/
def mtc (m k : ByteArray) : Bool := nine matL m && nine maskL k && (List.range 9).all fun i => meetsB (bt m i) (bt k i)
theorem mtc_no1 {m k : ByteArray} (h : nine matL m = false) : mtc m k = false := by unfold mtc; rw [h]; rfl
theorem mtc_no2 {m k : ByteArray} (h : nine maskL k = false) : mtc m k = false := by unfold mtc; rw [h, Bool.and_false]; rfl
theorem mtc_not {m k : ByteArray} {i : Nat} (hi : i < 9) (h : meetsB (bt m i) (bt k i) = false) : mtc m k = false := by
  refine Bool.eq_false_iff.2 fun g => ?_
  unfold mtc at g
  rw [Bool.and_eq_true, List.all_eq_true] at g
  rw [g.2 i (List.mem_range.2 hi)] at h
  cases h
theorem mtc_yes {m k : ByteArray} (hm : nine matL m = true) (hk : nine maskL k = true) (h : ∀ i, i < 9 → meetsB (bt m i) (bt k i) = true) : mtc m k = true := by
  unfold mtc
  rw [hm, hk, Bool.and_eq_true, List.all_eq_true]
  exact ⟨rfl, fun i hi => h i (List.mem_range.1 hi)⟩
set_option maxRecDepth 100000 in
set_option maxHeartbeats 1000000 in
theorem meetsAt_same (f g : Nat) (w : World) : Calls Try.prog 47 #[.int .u8 f, .int .u8 g] w (fun e w' => e = .returned (.bool (meetsB f g)) ∧ w' = w) := by
  by_cases h1 : g = 42
  · subst h1
    have HO : Hid (meetsB f 42 = true) := rfl
    go_enter Try.func47, Try.ntmps47
    go_wp2
    go_ret
    exact ⟨by rw [HO.out]; rfl, rfl⟩
  · have e1 : ((g : Int) == 42) = false := by simp; omega
    by_cases h2 : g = 84
    · subst h2
      have HO : Hid (meetsB f 84 = (f != 70)) := rfl
      by_cases h3 : f = 70
      · subst h3
        go_enter Try.func47, Try.ntmps47
        go_wp2
        go_ret
        exact ⟨by rw [HO.out]; rfl, rfl⟩
      · have e3 : ((f : Int) != 70) = true := by simp; omega
        have HN : Hid ((f != 70) = true) := by show _ = _; simp; omega
        go_enter Try.func47, Try.ntmps47
        go_wp2
        go_ret
        exact ⟨by rw [HO.out, HN.out]; rfl, rfl⟩
    · have e2 : ((g : Int) == 84) = false := by simp; omega
      have HO : Hid (meetsB f g = (f == g)) := by
        show _ = _
        unfold meetsB
        rw [if_neg (by simp; omega), show (g == 42) = false by simp; omega, Bool.false_or]
      by_cases h3 : f = g
      · subst h3
        have HN : Hid ((f == f) = true) := by show _ = _; simp
        go_enter Try.func47, Try.ntmps47
        go_wp2
        go_ret
        exact ⟨by rw [HO.out, HN.out]; rfl, rfl⟩
      · have e3 : ((f : Int) == g) = false := by simp; omega
        have HN : Hid ((f == g) = false) := by show _ = _; simp; omega
        go_enter Try.func47, Try.ntmps47
        go_wp2
        go_ret
        exact ⟨by rw [HO.out, HN.out]; rfl, rfl⟩
set_option maxRecDepth 100000 in
set_option maxHeartbeats 2000000 in
theorem implMatches_any (m k : ByteArray) (w : World) : Calls Try.prog 14 #[.string m, .string k] w (VP (.bool (mtc m k)) w) := by
  have C1 := isMatrix_any m
  have C2 := implMaskOk_any k
  cases h1 : nine matL m
  · have HO : Hid (mtc m k = false) := mtc_no1 h1
    rw [h1] at C1
    clear h1 C2
    go_enter Try.func14, Try.ntmps14
    go_wp2_with fail
    refine (C1 _).mono ?_
    rintro e w1 ⟨rfl, hB⟩
    go_wp2
    go_ret
    exact ⟨by rw [HO.out]; rfl, hB⟩
  · rw [h1] at C1
    cases h2 : nine maskL k
    · have HO : Hid (mtc m k = false) := mtc_no2 h2
      rw [h2] at C2
      clear h1 h2
      go_enter Try.func14, Try.ntmps14
      go_wp2_with fail
      refine (C1 _).mono ?_
      rintro e w1 ⟨rfl, hB⟩
      go_wp2_with fail
      refine (C2 _).mono ?_
      rintro e w2 ⟨rfl, hB2⟩
      go_wp2
      go_ret
      exact ⟨by rw [HO.out]; rfl, hB.trans (hB2.mono hB.size)⟩
    · rw [h2] at C2
      have H1 : Hid (nine matL m = true) := h1
      have H2 : Hid (nine maskL k = true) := h2
      have m9 := nine_size h1
      have k9 := nine_size h2
      clear h1 h2
      go_enter Try.func14, Try.ntmps14
      go_wp2_with fail
      refine (C1 _).mono ?_
      rintro e w1 ⟨rfl, hB⟩
      clear C1
      go_wp2_with fail
      refine (C2 _).mono ?_
      rintro e w2 ⟨rfl, hB2⟩
      clear C2
      replace hB := hB.trans (hB2.mono hB.size)
      clear hB2
      go_wp2_with fail
      go_loopw [14] (fun i wr => ∃ c : Nat, c ≤ 9 ∧ i = .int .i64 c ∧ (∀ j, j < c → meetsB (bt m j) (bt k j) = true) ∧ Below w.heap.size w wr) (fun i _ => 9 - (intOf i).toNat)
      case atStart => exact ⟨0, by omega, rfl, fun j hj => by omega, hB⟩
      case round =>
        clear hB
        obtain ⟨c, hc, rfl, hall, HB⟩ := hrel
        have HA : Hid (∀ j, j < c → meetsB (bt m j) (bt k j) = true) := hall
        clear hall
        by_cases hcn : c < 9
        · have hcI : (c : Int) < 9 := by omega
          have hcs : c < m.size := by omega
          have hck : c < k.size := by omega
          have hb1 := bt_at hcs
          have hb2 := bt_at hck
          have MA := meetsAt_same (bt m c) (bt k c)
          cases hk : meetsB (bt m c) (bt k c)
          · have HO : Hid (mtc m k = false) := mtc_not hcn hk
            rw [hk] at MA
            clear hk
            go_wp2_with fail
            go_quiet ((go_at_call 47; exact Calls.quiet_of_same (MA _)))
            go_wp2
            go_ret
            exact ⟨by rw [HO.out]; rfl, below_drewN HB nq⟩
          · have HK : Hid (meetsB (bt m c) (bt k c) = true) := hk
            rw [hk] at MA
            clear hk
            go_wp2_with fail
            go_quiet ((go_at_call 47; exact Calls.quiet_of_same (MA _)))
            go_wp2
            go_roundw
            case rel => exact ⟨c + 1, by omega, by go_num, fun j hj => by
              rcases Nat.lt_or_ge j c with h | h
              · exact HA.out j h
              · obtain rfl : j = c := by omega
                exact HK.out, below_drewN HB nq⟩
            case measure => simp [intOf]; omega
        · obtain rfl : c = 9 := by omega
          have HO : Hid (mtc m k = true) := mtc_yes H1.out H2.out HA.out
          clear HA
          go_wp2
          go_ret
          exact ⟨by rw [HO.out]; rfl, HB⟩
set_option maxRecDepth 100000 in
set_option maxHeartbeats 4000000 in
theorem specMatches_any (m k : ByteArray) (w : World) : Calls Try.prog 15 #[.string m, .string k] w (VP (.bool (mtc m k)) w) := by
  have C1 := specMatrix_any m
  have C2 := specMaskOk_any k
  cases h1 : nine matL m
  · have HO : Hid (mtc m k = false) := mtc_no1 h1
    rw [h1] at C1
    clear h1 C2
    go_enter Try.func15, Try.ntmps15
    go_wp2_with fail
    refine (C1 _).mono ?_
    rintro e w1 ⟨rfl, hB⟩
    go_wp2
    go_ret
    exact ⟨by rw [HO.out]; rfl, hB⟩
  · rw [h1] at C1
    cases h2 : nine maskL k
    · have HO : Hid (mtc m k = false) := mtc_no2 h2
      rw [h2] at C2
      clear h1 h2
      go_enter Try.func15, Try.ntmps15
      go_wp2_with fail
      refine (C1 _).mono ?_
      rintro e w1 ⟨rfl, hB⟩
      go_wp2_with fail
      refine (C2 _).mono ?_
      rintro e w2 ⟨rfl, hB2⟩
      go_wp2
      go_ret
      exact ⟨by rw [HO.out]; rfl, hB.trans (hB2.mono hB.size)⟩
    · rw [h2] at C2
      have H1 : Hid (nine matL m = true) := h1
      have H2 : Hid (nine maskL k = true) := h2
      have m9 := nine_size h1
      have k9 := nine_size h2
      clear h1 h2
      go_enter Try.func15, Try.ntmps15
      go_wp2_with fail
      refine (C1 _).mono ?_
      rintro e w1 ⟨rfl, hB⟩
      clear C1
      go_wp2_with fail
      refine (C2 _).mono ?_
      rintro e w2 ⟨rfl, hB2⟩
      clear C2
      replace hB := hB.trans (hB2.mono hB.size)
      clear hB2
      go_wp2_with fail
      go_loopw [5] (fun i wr => ∃ c : Nat, c ≤ 9 ∧ i = .int .i64 c ∧ (∀ j, j < c → meetsB (bt m j) (bt k j) = true) ∧ Below w.heap.size w wr) (fun i _ => 9 - (intOf i).toNat)
      case atStart => exact ⟨0, by omega, rfl, fun j hj => by omega, hB⟩
      case round =>
        clear hB
        obtain ⟨c, hc, rfl, hall, HB⟩ := hrel
        have HA : Hid (∀ j, j < c → meetsB (bt m j) (bt k j) = true) := hall
        clear hall
        by_cases hcn : c < 9
        · have hcI : (c : Int) < 9 := by omega
          have hcs : c < m.size := by omega
          have hck : c < k.size := by omega
          have hb1 := bt_at hcs
          have hb2 := bt_at hck
          have HM1 := nine_mem H1.out hcn
          have HM2 := nine_mem H2.out hcn
          have HN : Hid (meetsB (bt m c) (bt k c) = false → mtc m k = false) := fun h => mtc_not hcn h
          have HY : Hid (meetsB (bt m c) (bt k c) = true → ∀ j, j < c + 1 → meetsB (bt m j) (bt k j) = true) := fun g j hj => by
            rcases Nat.lt_or_ge j c with h | h
            · exact HA.out j h
            · obtain rfl : j = c := by omega
              exact g
          clear HA
          revert hb1 hb2 HM1 HM2 HN HY
          generalize bt m c = x
          generalize bt k c = y
          intro hb1 hb2 HM1 HM2 HN HY
          clear HM1 HM2 H1 H2
          by_cases g1 : y = 84
          · subst g1
            by_cases g2 : x = 70
            · subst g2
              replace HN : Hid (mtc m k = false) := HN.out rfl
              clear HY
              go_wp2_with fail
              refine wp_region_qw (by kernel_rfl) (by kernel_rfl) ?_
              intro W qN qS
              repeat (refine qS _ _ _ (fun K hK => ?_); go_simp; refine hK _ ?_; clear hK K)
              refine qN _ (fun nq => ?_)
              clear qN qS
              go_wp2
              go_ret
              exact ⟨by rw [HN.out]; rfl, below_drewN HB nq⟩
            · replace HY : Hid (∀ j, j < c + 1 → meetsB (bt m j) (bt k j) = true) := HY.out (by unfold meetsB; simp; omega)
              have q1 : ((x : Int) == 70) = false := by simp; omega
              clear HN g2
              go_wp2_with fail
              refine wp_region_qw (by kernel_rfl) (by kernel_rfl) ?_
              intro W qN qS
              repeat (refine qS _ _ _ (fun K hK => ?_); go_simp; refine hK _ ?_; clear hK K)
              refine qN _ (fun nq => ?_)
              clear qN qS
              go_wp2
              go_roundw
              case rel => exact ⟨c + 1, by omega, by go_num, HY.out, below_drewN HB nq⟩
              case measure => simp [intOf]; omega
          · have q1 : ((y : Int) == 84) = false := by simp; omega
            have q2 : ((y : Int) != 84) = true := by simp; omega
            by_cases g2 : y = 42
            · subst g2
              replace HY : Hid (∀ j, j < c + 1 → meetsB (bt m j) (bt k j) = true) := HY.out rfl
              clear HN g1 q1 q2
              go_wp2_with fail
              refine wp_region_qw (by kernel_rfl) (by kernel_rfl) ?_
              intro W qN qS
              repeat (refine qS _ _ _ (fun K hK => ?_); go_simp; refine hK _ ?_; clear hK K)
              refine qN _ (fun nq => ?_)
              clear qN qS
              go_wp2
              go_roundw
              case rel => exact ⟨c + 1, by omega, by go_num, HY.out, below_drewN HB nq⟩
              case measure => simp [intOf]; omega
            · have q3 : ((y : Int) != 42) = true := by simp; omega
              have hd : meetsB x y = (x == y) := by
                unfold meetsB
                rw [if_neg (by simp; omega), show (y == 42) = false by simp; omega, Bool.false_or]
              by_cases g3 : x = y
              · subst g3
                have q4 : ((x : Int) != x) = false := by simp
                replace HY : Hid (∀ j, j < c + 1 → meetsB (bt m j) (bt k j) = true) := HY.out (by rw [hd]; simp)
                clear HN g1 g2 hd
                go_wp2_with fail
                refine wp_region_qw (by kernel_rfl) (by kernel_rfl) ?_
                intro W qN qS
                repeat (refine qS _ _ _ (fun K hK => ?_); go_simp; refine hK _ ?_; clear hK K)
                refine qN _ (fun nq => ?_)
                clear qN qS
                go_wp2
                go_roundw
                case rel => exact ⟨c + 1, by omega, by go_num, HY.out, below_drewN HB nq⟩
                case measure => simp [intOf]; omega
              · have q4 : ((y : Int) != x) = true := by simp; omega
                replace HN : Hid (mtc m k = false) := HN.out (by rw [hd]; simp; omega)
                clear HY g1 g2 g3 hd
                go_wp2_with fail
                refine wp_region_qw (by kernel_rfl) (by kernel_rfl) ?_
                intro W qN qS
                repeat (refine qS _ _ _ (fun K hK => ?_); go_simp; refine hK _ ?_; clear hK K)
                refine qN _ (fun nq => ?_)
                clear qN qS
                go_wp2
                go_ret
                exact ⟨by rw [HN.out]; rfl, below_drewN HB nq⟩
        · obtain rfl : c = 9 := by omega
          have HO : Hid (mtc m k = true) := mtc_yes H1.out H2.out HA.out
          clear HA
          go_wp2
          go_ret
          exact ⟨by rw [HO.out]; rfl, HB⟩
end Go.Proofs.Ytlfogfjehdgjmaa
