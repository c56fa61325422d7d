/- Names: both sides' answers, and the law. -/
import Derived.Test.YtlfogfjehdgjmaaNamB
namespace Go.Proofs.Ytlfogfjehdgjmaa
open Go.RowKit
theorem masksL_len (s : ByteArray) : (masksL s).length ≤ 4 := by
  unfold masksL
  repeat' split
  all_goals simp
/-- Whether a matrix meets one of some masks. -/
def anyM (m : ByteArray) (L : List ByteArray) : Bool := L.any (fun k => mtc m k)
theorem anyM_yes {m : ByteArray} {L : List ByteArray} {i : Nat} (hi : i < L.length) (h : mtc m L[i] = true) : anyM m L = true := List.any_eq_true.2 ⟨_, List.getElem_mem hi, h⟩
theorem anyM_no {m : ByteArray} {L : List ByteArray} (h : ∀ i, (hi : i < L.length) → mtc m L[i] = false) : anyM m L = false := by
  refine Bool.eq_false_iff.2 fun g => ?_
  obtain ⟨k, hk, hm⟩ := List.any_eq_true.1 g
  obtain ⟨i, hi, rfl⟩ := List.mem_iff_getElem.1 hk
  rw [h i hi] at hm
  cases hm
def namOk (m : ByteArray) (L : List ByteArray) : Bool := nine matL m && !L.isEmpty
def namV (m : ByteArray) (L : List ByteArray) : Value := .tuple #[.bool (namOk m L && anyM m L), .bool (namOk m L)]
set_option maxRecDepth 100000 in
set_option maxHeartbeats 2000000 in
theorem specNamed_any (m s : ByteArray) (w : World) : Calls Try.prog 23 #[.string m, .string s] w (VP (namV m (masksL s)) w) := by
  have C1 := l14Masks_any s
  have C2 := specMatrix_any m
  have hl := masksL_len s
  revert C1 hl
  generalize masksL s = L
  intro C1 hl
  go_enter Try.func23, Try.ntmps23
  go_wp2_with fail
  refine (C1 _).mono ?_
  rintro e w1 ⟨ao, cap, rfl, HS, hB⟩
  clear C1
  have HB := hB
  clear hB
  go_wp2_with fail
  refine (C2 _).mono ?_
  rintro e w2 ⟨rfl, hB⟩
  replace HB := HB.trans (hB.mono HB.size)
  replace HS := HS.step hB
  clear hB C2
  cases h9 : nine matL m
  · have HO : Hid (namV m L = .tuple #[.bool false, .bool false]) := by show _ = _; unfold namV namOk; rw [h9]; rfl
    clear h9 HS
    go_wp2
    go_ret2
    exact ⟨by rw [HO.out]; rfl, HB⟩
  · by_cases h0 : L.length = 0
    · have HO : Hid (namV m L = .tuple #[.bool false, .bool false]) := by
        show _ = _
        obtain rfl := List.length_eq_zero_iff.1 h0
        unfold namV namOk
        rw [h9]
        rfl
      have h0I : ((L.length : Int) == 0) = true := beq_iff_eq.2 (by omega)
      clear h9 HS
      go_wp2
      go_ret2
      exact ⟨by rw [HO.out]; rfl, HB⟩
    · have h0I : ((L.length : Int) == 0) = false := beq_eq_false_iff_ne.2 (by omega)
      have HN : Hid (namV m L = .tuple #[.bool (anyM m L), .bool true]) := by
        show _ = _
        have he : L.isEmpty = false := by cases L; simp at h0; rfl
        unfold namV namOk
        rw [h9, he]
        rfl
      have HSS : Hid (StIn w2 ao L) := HS
      clear HS h9
      go_wp2_with fail
      go_loopw [7] (fun i wr => ∃ c : Nat, c ≤ L.length ∧ i = .int .i64 c ∧ (∀ j, (hj : j < L.length) → j < c → mtc m L[j] = false) ∧ Below w.heap.size w wr ∧ Below w2.heap.size w2 wr) (fun i _ => L.length - (intOf i).toNat)
      case atStart => exact ⟨0, by omega, rfl, fun j _ hj => by omega, HB, Below.refl _ _⟩
      case round =>
        clear HB
        obtain ⟨c, hc, rfl, hall, HB, H2⟩ := hrel
        have HA : Hid (∀ j, (hj : j < L.length) → j < c → mtc m L[j] = false) := hall
        clear hall
        by_cases hcn : c < L.length
        · obtain ⟨A, off, rfl, hA, hcell⟩ := HSS.out.step H2 c hcn
          have hcI : (c : Int) < L.length := by omega
          have MC := specMatches_any m L[c]
          have HY : Hid (mtc m L[c] = true → namV m L = .tuple #[.bool true, .bool true]) := fun h => by rw [HN.out, anyM_yes hcn h]
          have HNN : Hid (mtc m L[c] = false → ∀ j, (hj : j < L.length) → j < c + 1 → mtc m L[j] = false) := fun h j hj hjc => by
            rcases Nat.lt_or_ge j c with h' | h'
            · exact HA.out j hj h'
            · obtain rfl : j = c := by omega
              exact h
          revert MC hcell HY HNN
          generalize L[c] = k
          generalize mtc m k = b
          intro hcell MC HY HNN
          go_wp2_with fail
          refine (MC _).mono ?_
          rintro e w3 ⟨rfl, hB⟩
          replace HB := HB.trans (hB.mono HB.size)
          replace H2 := H2.trans (hB.mono H2.size)
          clear hB hcell MC hA
          cases b
          · replace HNN : Hid (∀ j, (hj : j < L.length) → j < c + 1 → mtc m L[j] = false) := HNN.out rfl
            clear HY HA
            go_wp2
            go_roundw
            case rel => exact ⟨c + 1, by omega, by go_num, HNN.out, HB, H2⟩
            case measure => simp [intOf]; omega
          · replace HY : Hid (namV m L = .tuple #[.bool true, .bool true]) := HY.out rfl
            clear HNN HA
            go_wp2
            go_ret2
            exact ⟨by rw [HY.out]; rfl, HB⟩
        · obtain rfl : c = L.length := by omega
          have HO : Hid (namV m L = .tuple #[.bool false, .bool true]) := by show _ = _; rw [HN.out, anyM_no (fun i hi => HA.out i hi hi)]
          clear HA HSS
          go_wp2
          go_ret2
          exact ⟨by rw [HO.out]; rfl, HB⟩
set_option maxRecDepth 100000 in
set_option maxHeartbeats 2000000 in
theorem implNamed_any (m s : ByteArray) (hs : s.size ≤ maxLen) (w : World) : Calls Try.prog 24 #[.string m, .string s] w (VP (namV m (masksL s)) w) := by
  have C1 := meaning_any s hs
  have C2 := isMatrix_any m
  have hl := masksL_len s
  revert C1 hl
  generalize masksL s = L
  intro C1 hl
  clear hs
  go_enter Try.func24, Try.ntmps24
  go_wp2_with fail
  refine (C1 _).mono ?_
  rintro e w1 ⟨ao, cap, rfl, HS, hB⟩
  clear C1
  have HB := hB
  clear hB
  cases he : L.isEmpty
  · go_wp2_with fail
    refine (C2 _).mono ?_
    rintro e w2 ⟨rfl, hB⟩
    replace HB := (HB.alloc HB.size (.cells #[.slice ao L.length cap] 88)).trans (hB.mono (HB.alloc HB.size (.cells #[.slice ao L.length cap] 88)).size)
    replace HS := (HS.step ((Below.refl _ _).alloc (Nat.le_refl _) _)).step hB
    have G := (Blk.new w1 [.slice ao L.length cap] 88 rfl).step hB
    clear hB C2
    cases h9 : nine matL m
    · have HO : Hid (namV m L = .tuple #[.bool false, .bool false]) := by show _ = _; unfold namV namOk; rw [h9]; rfl
      clear h9 HS
      go_wp2
      go_ret2
      exact ⟨by rw [HO.out]; rfl, HB⟩
    · have HN : Hid (namV m L = .tuple #[.bool (anyM m L), .bool true]) := by
        show _ = _
        unfold namV namOk
        rw [h9, he]
        rfl
      have HSS : Hid (StIn w2 ao L) := HS
      have g0 := G.c 0 rfl
      clear HS h9
      go_wp2_with fail
      go_loopw [25] (fun i wr => ∃ c : Nat, c ≤ L.length ∧ i = .int .i64 c ∧ (∀ j, (hj : j < L.length) → j < c → mtc m L[j] = false) ∧ Below w.heap.size w wr ∧ Below w2.heap.size w2 wr) (fun i _ => L.length - (intOf i).toNat)
      case atStart => exact ⟨0, by omega, rfl, fun j _ hj => by omega, HB, Below.refl _ _⟩
      case round =>
        clear HB
        obtain ⟨c, hc, rfl, hall, HB, H2⟩ := hrel
        have HA : Hid (∀ j, (hj : j < L.length) → j < c → mtc m L[j] = false) := hall
        clear hall
        by_cases hcn : c < L.length
        · obtain ⟨A, off, rfl, hA, hcell⟩ := HSS.out.step H2 c hcn
          have hcI : (c : Int) < L.length := by omega
          have MC := implMatches_any m L[c]
          have HY : Hid (mtc m L[c] = true → namV m L = .tuple #[.bool true, .bool true]) := fun h => by rw [HN.out, anyM_yes hcn h]
          have HNN : Hid (mtc m L[c] = false → ∀ j, (hj : j < L.length) → j < c + 1 → mtc m L[j] = false) := fun h j hj hjc => by
            rcases Nat.lt_or_ge j c with h' | h'
            · exact HA.out j hj h'
            · obtain rfl : j = c := by omega
              exact h
          revert MC hcell HY HNN
          generalize L[c] = k
          generalize mtc m k = b
          intro hcell MC HY HNN
          go_wp2_with fail
          refine (MC _).mono ?_
          rintro e w3 ⟨rfl, hB⟩
          replace HB := HB.trans (hB.mono HB.size)
          replace H2 := H2.trans (hB.mono H2.size)
          clear hB hcell MC hA
          cases b
          · replace HNN : Hid (∀ j, (hj : j < L.length) → j < c + 1 → mtc m L[j] = false) := HNN.out rfl
            clear HY HA
            go_wp2
            go_roundw
            case rel => exact ⟨c + 1, by omega, by go_num, HNN.out, HB, H2⟩
            case measure => simp [intOf]; omega
          · replace HY : Hid (namV m L = .tuple #[.bool true, .bool true]) := HY.out rfl
            clear HNN HA
            go_wp2
            go_ret2
            exact ⟨by rw [HY.out]; rfl, HB⟩
        · obtain rfl : c = L.length := by omega
          have HO : Hid (namV m L = .tuple #[.bool false, .bool true]) := by show _ = _; rw [HN.out, anyM_no (fun i hi => HA.out i hi hi)]
          clear HA HSS
          go_wp2
          go_ret2
          exact ⟨by rw [HO.out]; rfl, HB⟩
  · have HO : Hid (namV m L = .tuple #[.bool false, .bool false]) := by show _ = _; unfold namV namOk; rw [he, Bool.not_true, Bool.and_false]; rfl
    clear HS
    go_wp2
    go_ret2
    exact ⟨by rw [HO.out]; rfl, HB.alloc HB.size _⟩
set_option maxRecDepth 100000 in
set_option maxHeartbeats 1000000 in
theorem lawNamed_any (m s : ByteArray) (w : World) : Calls Try.prog 7 #[.string m, .string s] w (VP (.bool true) w) := by
  by_cases h1 : (1048576 : Int) < m.size
  · go_enter Try.func7, Try.ntmps7
    go_wp2
    go_ret
    exact ⟨rfl, Below.refl _ _⟩
  · by_cases h2 : (1048576 : Int) < s.size
    · go_enter Try.func7, Try.ntmps7
      go_wp2
      go_ret
      exact ⟨rfl, Below.refl _ _⟩
    · have C1 := specNamed_any m s
      have C2 := implNamed_any m s (by unfold maxLen; omega)
      revert C1 C2
      unfold namV
      generalize (namOk m (masksL s) && anyM m (masksL s)) = a
      generalize namOk m (masksL s) = b
      intro C1 C2
      have ha : (a != a) = false := by simp
      have hb : (b != b) = false := by simp
      go_enter Try.func7, Try.ntmps7
      go_wp2_with fail
      refine (C1 _).mono ?_
      rintro e w1 ⟨rfl, hB⟩
      have HB := hB
      clear hB C1
      go_wp2_with fail
      refine (C2 _).mono ?_
      rintro e w2 ⟨rfl, hB⟩
      replace HB := HB.trans (hB.mono HB.size)
      clear hB C2
      go_wp2
      go_ret
      exact ⟨rfl, HB⟩
end Go.Proofs.Ytlfogfjehdgjmaa
