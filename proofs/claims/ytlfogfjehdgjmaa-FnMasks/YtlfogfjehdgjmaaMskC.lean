/- Matrices and masks that are drawn: the law. -/
import Derived.Test.YtlfogfjehdgjmaaMskA
import Derived.Test.YtlfogfjehdgjmaaMskB
namespace Go.Proofs.Ytlfogfjehdgjmaa
open Go.RowKit
theorem bigs_any (ao : Option Addr) (n cap : Nat) (w : World) (z : Bool) (hz : decide (1048576 < n) = z) : Calls Try.prog 12 #[.slice ao n cap] w (VP (.bool z) w) := by
  subst hz
  go_enter Try.func12, Try.ntmps12
  go_wp2
  go_ret
  exact ⟨by simp; try omega, Below.refl _ _⟩
set_option maxRecDepth 100000 in
set_option maxHeartbeats 4000000 in
theorem lawMasks_any (ao : Option Addr) (n cap : Nat) (cs : List Int) (w : World) (h : n ≤ 1048576 → Code w ao n cs) : Calls Try.prog 3 #[.slice ao n cap] w (VP (.bool true) w) := by
  by_cases hn : 1048576 < n
  · go_enter Try.func3, Try.ntmps3
    go_wp2_with fail
    refine (bigs_any ao n cap _ true (by simpa using hn)).mono ?_
    rintro e w1 ⟨rfl, hB⟩
    clear h
    go_wp2
    go_ret
    exact ⟨rfl, hB⟩
  · have hc := h (by omega)
    clear h
    go_enter Try.func3, Try.ntmps3
    go_wp2_with fail
    refine (bigs_any ao n cap _ false (by simpa using hn)).mono ?_
    rintro e w1 ⟨rfl, hB⟩
    replace hc := hc.below hB
    have HB := hB
    clear hB
    go_wp2_with fail
    refine (drawMatches_any ao n cap cs _ hc).mono ?_
    rintro e w2 ⟨m, k, rfl, hm9, hk9, hB⟩
    replace HB := HB.trans (hB.mono HB.size)
    clear hB hc
    have IM := implMatches_any m k
    have SM := specMatches_any m k
    have IT := implTransposed_any m
    have STR := specTransposed_any m
    cases h9 : nine matL m
    · have e1 : mtc m k = false := mtc_no1 h9
      have e2 : trS m = ⟨#[]⟩ := trS_no h9
      rw [e1] at IM SM
      rw [e2] at IT STR
      clear e1 e2 h9
      go_wp2_with fail
      refine (IM _).mono ?_
      rintro e w3 ⟨rfl, hB⟩
      replace HB := HB.trans (hB.mono HB.size)
      clear hB IM
      go_wp2_with fail
      refine (SM _).mono ?_
      rintro e w4 ⟨rfl, hB⟩
      replace HB := HB.trans (hB.mono HB.size)
      clear hB SM
      go_wp2_with fail
      refine (IT _).mono ?_
      rintro e w5 ⟨rfl, hB⟩
      replace HB := HB.trans (hB.mono HB.size)
      clear hB IT
      go_wp2_with fail
      refine (STR _).mono ?_
      rintro e w6 ⟨rfl, hB⟩
      replace HB := HB.trans (hB.mono HB.size)
      clear hB STR
      go_wp2
      go_ret
      exact ⟨rfl, HB⟩
    · have IS := implMatches_any m m
      have IK := implMaskOk_any m
      have IST := implMatches_any m stars
      have ITT := implTransposed_any (trS m)
      have IMK := implMaskOk_any k
      rw [mtc_self h9] at IS
      rw [mask_of_mat h9] at IK
      rw [mtc_stars h9] at IST
      rw [trS_trS h9] at ITT
      have IE : nine maskL k = true → ∀ w, Calls Try.prog 14 #[.string (trS m), .string (strOfNums (trL k 9))] w (VP (.bool (mtc m k)) w) := fun hk w => by
        have := implMatches_any (trS m) (strOfNums (trL k 9)) w
        rwa [mtc_turned h9 hk] at this
      have HNK : Hid (nine maskL k = false → mtc m k = false) := fun hk => mtc_no2 hk
      have hne : (trS m).toList.isEmpty = false := by
        have hz : (trS m).size = 9 := by rw [trS_yes h9]; exact size_turned m
        rw [Lib.toList_data]
        have : (trS m).data.toList.length = 9 := by simpa using hz
        cases hl : (trS m).data.toList with
        | nil => rw [hl] at this; simp at this
        | cons a b => rfl
      clear h9 STR
      revert IM SM IT ITT IE hne HNK
      generalize trS m = t
      generalize mtc m k = b
      intro IM SM IT ITT IE HNK hne
      have hbb : (b != b) = false := by simp
      go_wp2_with fail
      refine (IM _).mono ?_
      rintro e w3 ⟨rfl, hB⟩
      replace HB := HB.trans (hB.mono HB.size)
      clear hB IM
      go_wp2_with fail
      refine (SM _).mono ?_
      rintro e w4 ⟨rfl, hB⟩
      replace HB := HB.trans (hB.mono HB.size)
      clear hB SM
      go_wp2_with fail
      refine (IT _).mono ?_
      rintro e w5 ⟨rfl, hB⟩
      replace HB := HB.trans (hB.mono HB.size)
      clear hB IT
      go_wp2_with fail
      refine (IS _).mono ?_
      rintro e w6 ⟨rfl, hB⟩
      replace HB := HB.trans (hB.mono HB.size)
      clear hB IS
      go_wp2_with fail
      refine (IK _).mono ?_
      rintro e w7 ⟨rfl, hB⟩
      replace HB := HB.trans (hB.mono HB.size)
      clear hB IK
      go_wp2_with fail
      refine (IST _).mono ?_
      rintro e w8 ⟨rfl, hB⟩
      replace HB := HB.trans (hB.mono HB.size)
      clear hB IST
      go_wp2_with fail
      refine (ITT _).mono ?_
      rintro e w9 ⟨rfl, hB⟩
      replace HB := HB.trans (hB.mono HB.size)
      clear hB ITT
      go_wp2_with fail
      refine (IMK _).mono ?_
      rintro e w10 ⟨rfl, hB⟩
      replace HB := HB.trans (hB.mono HB.size)
      clear hB IMK
      cases hk : nine maskL k
      · have hb := HNK.out hk
        subst hb
        clear IE hk HNK
        go_wp2
        go_ret
        exact ⟨rfl, HB⟩
      · replace IE := IE hk
        have k9 := nine_size hk
        clear HNK hk
        go_wp2_with fail
        go_loopw [7, 8] (fun o i wr => ∃ c : Nat, c ≤ 9 ∧ i = .int .i64 c ∧ o = .string (strOfNums (trL k c)) ∧ Below w.heap.size w wr) (fun _ i _ => 9 - (intOf i).toNat)
        case atStart => exact ⟨0, by omega, rfl, rfl, HB⟩
        case round =>
          clear HB
          obtain ⟨c, hc, rfl, rfl, HB⟩ := hrel
          by_cases hcn : c < 9
          · have hcI : (c : Int) < 9 := by omega
            have hks : 3 * (c % 3) + c / 3 < k.size := by omega
            have TS := turned_step k c hks
            have hz : (strOfNums (trL k c)).size = c := by rw [strOfNums_size, trL_len]
            have HTS : Hid (strOfNums (trL k c) ++ k.extract (3 * (c % 3) + c / 3) (3 * (c % 3) + c / 3 + 1) = strOfNums (trL k (c + 1))) := TS
            clear TS
            revert hz HTS
            generalize strOfNums (trL k c) = o
            intro hz HTS
            clear IE
            go_wp2
            go_roundw
            case rel => exact ⟨c + 1, by omega, by go_num, by rw [HTS.out], HB⟩
            case measure => simp [intOf]; omega
          · obtain rfl : c = 9 := by omega
            go_wp2_with fail
            refine (IE _).mono ?_
            rintro e w11 ⟨rfl, hB⟩
            replace HB := HB.trans (hB.mono HB.size)
            clear hB IE
            have hb2 : (b == b) = true := by simp
            go_wp2
            go_ret
            exact ⟨rfl, HB⟩
end Go.Proofs.Ytlfogfjehdgjmaa
