/- Texts of nine bytes: matrices and masks, on both sides. -/
import Derived.Test.YtlfogfjehdgjmaaWw
import Derived.Lib.Bytealg
import Derived.WalkLawsBesides
namespace Go.Proofs.Ytlfogfjehdgjmaa
open Go.RowKit
/-- The byte of a text at a place. -/
def bt (s : ByteArray) (i : Nat) : Nat := (s.data.toList.getD i 0).toNat
theorem bt_at {s : ByteArray} {i : Nat} (h : i < s.size) : s[i].toNat = bt s i := by
  have h2 : i < s.data.size := h
  show (s.data[i]).toNat = _
  unfold bt
  rw [List.getD_eq_getElem?_getD, Array.getElem?_toList, Array.getElem?_eq_getElem h2]; rfl
theorem bt_lt (s : ByteArray) (i : Nat) : bt s i < 256 := UInt8.toNat_lt _
def matL : List Nat := [70, 48, 49, 50]
def maskL : List Nat := [84, 70, 42, 48, 49, 50]
/-- Nine bytes, each of them of a list. -/
def nine (t : List Nat) (s : ByteArray) : Bool := decide (s.size = 9) && (List.range 9).all fun i => decide (bt s i ∈ t)
theorem nine_iff {t : List Nat} {s : ByteArray} : nine t s = true ↔ s.size = 9 ∧ ∀ i, i < 9 → bt s i ∈ t := by
  unfold nine
  rw [Bool.and_eq_true, decide_eq_true_iff, List.all_eq_true]
  refine and_congr_right fun _ => ⟨fun h i hi => of_decide_eq_true (h i (List.mem_range.2 hi)), fun h i hi => decide_eq_true (h i (List.mem_range.1 hi))⟩
theorem nine_size {t : List Nat} {s : ByteArray} (h : nine t s = true) : s.size = 9 := (nine_iff.1 h).1
theorem nine_mem {t : List Nat} {s : ByteArray} (h : nine t s = true) {i : Nat} (hi : i < 9) : bt s i ∈ t := (nine_iff.1 h).2 i hi
theorem nine_no {t : List Nat} {s : ByteArray} (h : ¬ s.size = 9) : nine t s = false := Bool.eq_false_iff.2 fun g => h (nine_size g)
theorem nine_not {t : List Nat} {s : ByteArray} {i : Nat} (hi : i < 9) (h : ¬ bt s i ∈ t) : nine t s = false := Bool.eq_false_iff.2 fun g => h (nine_mem g hi)
theorem nine_yes {t : List Nat} {s : ByteArray} (h : s.size = 9) (g : ∀ i, i < 9 → bt s i ∈ t) : nine t s = true := nine_iff.2 ⟨h, g⟩
/-- That a text has just the bytes of a list. -/
def Bytes (ts : ByteArray) (t : List Nat) : Prop := ∀ n : Nat, n < 256 → (0 ≤ Lib.indexByte ts.data.toList (Int.toNat (n : Int)).toUInt8 ↔ n ∈ t)
set_option maxRecDepth 100000 in
set_option maxHeartbeats 1000000 in
theorem idxB_any (s : ByteArray) (c : Int) (w : World) : Calls Try.prog 116 #[.string s, .int .u8 c] w (VP (.int .i64 (Lib.indexByte s.data.toList c.toNat.toUInt8)) w) := by
  go_enter Try.func116, Try.ntmps116
  go_wp2
  rw [run_callFunc_extern Try.func152 (by kernel_rfl) (by kernel_rfl) (by kernel_rfl) (e := Extern.BytealgIndexByte.indexByte) (by kernel_rfl), Lib.run_indexByteString]
  simp only [Result.andThen]
  rw [Oper.upon_value]
  go_wp2
  go_ret
  exact ⟨rfl, Below.refl _ _⟩
set_option maxRecDepth 100000 in
set_option maxHeartbeats 1000000 in
theorem index_any (s : ByteArray) (c : Int) (w : World) : Calls Try.prog 83 #[.string s, .int .u8 c] w (VP (.int .i64 (Lib.indexByte s.data.toList c.toNat.toUInt8)) w) := by
  have C := idxB_any s c
  go_enter Try.func83, Try.ntmps83
  go_wp2_with fail
  refine (C _).mono ?_
  rintro e w1 ⟨rfl, hB⟩
  go_wp2
  go_ret
  exact ⟨rfl, hB⟩
set_option maxRecDepth 100000 in
set_option maxHeartbeats 1000000 in
theorem nineOf_any (s ts : ByteArray) (t : List Nat) (hT : Bytes ts t) (w : World) : Calls Try.prog 49 #[.string s, .string ts] w (VP (.bool (nine t s)) w) := by
  have HT : Hid (Bytes ts t) := hT
  clear hT
  by_cases h9 : s.size = 9
  · go_enter Try.func49, Try.ntmps49
    go_wp2_with fail
    go_loopw [11] (fun i wr => ∃ c : Nat, c ≤ 9 ∧ i = .int .i64 c ∧ (∀ j, j < c → bt s j ∈ t) ∧ Below w.heap.size w wr) (fun i _ => 9 - (intOf i).toNat)
    case atStart => exact ⟨0, by omega, rfl, fun j hj => by omega, Below.refl _ _⟩
    case round =>
      obtain ⟨c, hc, rfl, hall, HB⟩ := hrel
      have HA : Hid (∀ j, j < c → bt s j ∈ t) := hall
      clear hall
      by_cases hcn : c < 9
      · have hcI : (c : Int) < 9 := by omega
        have hcs : c < s.size := by omega
        have hbt := bt_at hcs
        have HL := bt_lt s c
        have IX := index_any ts (bt s c)
        have HM := HT.out (bt s c) HL
        revert HM IX
        generalize Lib.indexByte ts.data.toList (Int.toNat (bt s c : Int)).toUInt8 = z
        intro IX HM
        by_cases hm : bt s c ∈ t
        · have hz : ¬ z < 0 := by have := HM.2 hm; omega
          have HK : Hid (bt s c ∈ t) := hm
          clear hm HM HL
          go_wp2_with fail
          refine (IX _).mono ?_
          rintro e w1 ⟨rfl, hB⟩
          clear IX
          replace HB := HB.trans (hB.mono HB.size)
          clear hB
          go_wp2
          go_roundw
          case rel => exact ⟨c + 1, by omega, by go_num, fun j hj => by
            rcases Nat.lt_or_ge j c with h | h
            · exact HA.out j h
            · obtain rfl : j = c := by omega
              exact HK.out, HB⟩
          case measure => simp [intOf]; omega
        · have hz : z < 0 := Int.not_le.1 fun h => hm (HM.1 h)
          have HO : Hid (nine t s = false) := nine_not hcn hm
          clear hm HM HL
          go_wp2_with fail
          refine (IX _).mono ?_
          rintro e w1 ⟨rfl, hB⟩
          clear IX
          replace HB := HB.trans (hB.mono HB.size)
          clear hB
          go_wp2
          go_ret
          exact ⟨by rw [HO.out]; rfl, HB⟩
      · obtain rfl : c = 9 := by omega
        have HO : Hid (nine t s = true) := nine_yes h9 HA.out
        clear HA
        go_wp2
        go_ret
        exact ⟨by rw [HO.out]; rfl, HB⟩
  · have HO : Hid (nine t s = false) := nine_no h9
    have hs : ((s.size : Int) == 9) = false := by simp; omega
    go_enter Try.func49, Try.ntmps49
    go_wp2
    go_ret
    exact ⟨by rw [HO.out]; rfl, Below.refl _ _⟩
set_option maxRecDepth 100000 in
set_option maxHeartbeats 1000000 in
theorem specMatrix_any (s : ByteArray) (w : World) : Calls Try.prog 48 #[.string s] w (VP (.bool (nine matL s)) w) := by
  by_cases h9 : s.size = 9
  · go_enter Try.func48, Try.ntmps48
    go_wp2_with fail
    go_loopw [3] (fun i wr => ∃ c : Nat, c ≤ 9 ∧ i = .int .i64 c ∧ (∀ j, j < c → bt s j ∈ matL) ∧ Below w.heap.size w wr) (fun i _ => 9 - (intOf i).toNat)
    case atStart => exact ⟨0, by omega, rfl, fun j hj => by omega, Below.refl _ _⟩
    case round =>
      obtain ⟨c, hc, rfl, hall, HB⟩ := hrel
      have HA : Hid (∀ j, j < c → bt s j ∈ matL) := hall
      clear hall
      by_cases hcn : c < 9
      · have hcI : (c : Int) < 9 := by omega
        have hcs : c < s.size := by omega
        have hbt := bt_at hcs
        by_cases hm : bt s c ∈ matL
        · have HK : Hid (bt s c ∈ matL) := hm
          simp only [matL, List.mem_cons, List.not_mem_nil, or_false] at hm
          rcases hm with h | h | h | h <;>
          · rw [h] at hbt
            clear h
            go_wp2
            go_roundw
            case rel => exact ⟨c + 1, by omega, by go_num, fun j hj => by
              rcases Nat.lt_or_ge j c with h | h
              · exact HA.out j h
              · obtain rfl : j = c := by omega
                exact HK.out, HB⟩
            case measure => simp [intOf]; omega
        · have HO : Hid (nine matL s = false) := nine_not hcn hm
          simp only [matL, List.mem_cons, List.not_mem_nil, or_false] at hm
          revert hbt hm
          generalize bt s c = n
          intro hbt hm
          have q70 : ((n : Int) != 70) = true := by simp; omega
          rcases (show (n : Int) < 48 ∨ ¬ (n : Int) < 48 ∧ (50 : Int) < n by omega) with g | ⟨g, g'⟩
          · clear hm
            go_wp2
            go_ret
            exact ⟨by rw [HO.out]; rfl, HB⟩
          · clear hm
            go_wp2
            go_ret
            exact ⟨by rw [HO.out]; rfl, HB⟩
      · obtain rfl : c = 9 := by omega
        have HO : Hid (nine matL s = true) := nine_yes h9 HA.out
        clear HA
        go_wp2
        go_ret
        exact ⟨by rw [HO.out]; rfl, HB⟩
  · have HO : Hid (nine matL s = false) := nine_no h9
    have hs : ((s.size : Int) == 9) = false := by simp; omega
    go_enter Try.func48, Try.ntmps48
    go_wp2
    go_ret
    exact ⟨by rw [HO.out]; rfl, Below.refl _ _⟩
set_option maxRecDepth 100000 in
set_option maxHeartbeats 1000000 in
theorem specMaskOk_any (s : ByteArray) (w : World) : Calls Try.prog 22 #[.string s] w (VP (.bool (nine maskL s)) w) := by
  by_cases h9 : s.size = 9
  · go_enter Try.func22, Try.ntmps22
    go_wp2_with fail
    go_loopw [3] (fun i wr => ∃ c : Nat, c ≤ 9 ∧ i = .int .i64 c ∧ (∀ j, j < c → bt s j ∈ maskL) ∧ Below w.heap.size w wr) (fun i _ => 9 - (intOf i).toNat)
    case atStart => exact ⟨0, by omega, rfl, fun j hj => by omega, Below.refl _ _⟩
    case round =>
      obtain ⟨c, hc, rfl, hall, HB⟩ := hrel
      have HA : Hid (∀ j, j < c → bt s j ∈ maskL) := hall
      clear hall
      by_cases hcn : c < 9
      · have hcI : (c : Int) < 9 := by omega
        have hcs : c < s.size := by omega
        have hbt := bt_at hcs
        by_cases hm : bt s c ∈ maskL
        · have HK : Hid (bt s c ∈ maskL) := hm
          simp only [maskL, List.mem_cons, List.not_mem_nil, or_false] at hm
          rcases hm with h | h | h | h | h | h <;>
          · rw [h] at hbt
            clear h
            go_wp2
            go_roundw
            case rel => exact ⟨c + 1, by omega, by go_num, fun j hj => by
              rcases Nat.lt_or_ge j c with h | h
              · exact HA.out j h
              · obtain rfl : j = c := by omega
                exact HK.out, HB⟩
            case measure => simp [intOf]; omega
        · have HO : Hid (nine maskL s = false) := nine_not hcn hm
          simp only [maskL, List.mem_cons, List.not_mem_nil, or_false] at hm
          revert hbt hm
          generalize bt s c = n
          intro hbt hm
          have q84 : ((n : Int) != 84) = true := by simp; omega
          have q70 : ((n : Int) != 70) = true := by simp; omega
          have q42 : ((n : Int) != 42) = true := by simp; omega
          rcases (show (n : Int) < 48 ∨ ¬ (n : Int) < 48 ∧ (50 : Int) < n by omega) with g | ⟨g, g'⟩
          · clear hm
            go_wp2
            go_ret
            exact ⟨by rw [HO.out]; rfl, HB⟩
          · clear hm
            go_wp2
            go_ret
            exact ⟨by rw [HO.out]; rfl, HB⟩
      · obtain rfl : c = 9 := by omega
        have HO : Hid (nine maskL s = true) := nine_yes h9 HA.out
        clear HA
        go_wp2
        go_ret
        exact ⟨by rw [HO.out]; rfl, HB⟩
  · have HO : Hid (nine maskL s = false) := nine_no h9
    have hs : ((s.size : Int) == 9) = false := by simp; omega
    go_enter Try.func22, Try.ntmps22
    go_wp2
    go_ret
    exact ⟨by rw [HO.out]; rfl, Below.refl _ _⟩
theorem bytes_mat : Bytes ⟨#[70, 48, 49, 50]⟩ matL := by
  have h : ∀ n : Fin 256, (0 ≤ Lib.indexByte [70, 48, 49, 50] (Int.toNat ((n.val : Nat) : Int)).toUInt8 ↔ n.val ∈ matL) := by decide +kernel
  exact fun n hn => h ⟨n, hn⟩
theorem bytes_mask : Bytes ⟨#[84, 70, 42, 48, 49, 50]⟩ maskL := by
  have h : ∀ n : Fin 256, (0 ≤ Lib.indexByte [84, 70, 42, 48, 49, 50] (Int.toNat ((n.val : Nat) : Int)).toUInt8 ↔ n.val ∈ maskL) := by decide +kernel
  exact fun n hn => h ⟨n, hn⟩
set_option maxRecDepth 100000 in
set_option maxHeartbeats 1000000 in
theorem isMatrix_any (s : ByteArray) (w : World) : Calls Try.prog 46 #[.string s] w (VP (.bool (nine matL s)) w) := by
  have C := nineOf_any s _ _ bytes_mat
  go_enter Try.func46, Try.ntmps46
  go_wp2_with fail
  refine (C _).mono ?_
  rintro e w1 ⟨rfl, hB⟩
  go_wp2
  go_ret
  exact ⟨rfl, hB⟩
set_option maxRecDepth 100000 in
set_option maxHeartbeats 1000000 in
theorem implMaskOk_any (s : ByteArray) (w : World) : Calls Try.prog 18 #[.string s] w (VP (.bool (nine maskL s)) w) := by
  have C := nineOf_any s _ _ bytes_mask
  go_enter Try.func18, Try.ntmps18
  go_wp2_with fail
  refine (C _).mono ?_
  rintro e w1 ⟨rfl, hB⟩
  go_wp2
  go_ret
  exact ⟨rfl, hB⟩
end Go.Proofs.Ytlfogfjehdgjmaa
