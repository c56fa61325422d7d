/- Part 1 of the walks that the proof leans on. -/
import Derived.Test.YtlfogfjehdgjmaaRows
import Derived.WalkKit
import Derived.WalkSpells
import Derived.WalkLawsBesides
import Derived.Lib.Bytealg
import Derived.Deep.QuietTactic
import Derived.ProofKit
import Derived.Lib.SmallJoins
/- Plain arithmetic of numbers by their digits in base 2 to the 32: no program in sight. -/
namespace Go.Proofs.Ytlfogfjehdgjmaa

/-- The number that digits stand for, the lowest first. -/
def val : List Int → Int
  | [] => 0
  | d :: t => d + 4294967296 * val t
end Go.Proofs.Ytlfogfjehdgjmaa

/- Plain arithmetic of numbers of four words: no program in sight. -/
namespace Go.Proofs.Ytlfogfjehdgjmaa
end Go.Proofs.Ytlfogfjehdgjmaa

/- Plain arithmetic: four words out of digits. No program in sight. -/
namespace Go.Proofs.Ytlfogfjehdgjmaa
end Go.Proofs.Ytlfogfjehdgjmaa

/- How a number's digits lie in memory: the words that the walks share. -/
namespace Go.Proofs.Ytlfogfjehdgjmaa
open Go.RowKit

/-- The digits lie behind the address (nothing is asked of an empty list). -/
def Rd (w : World) (ao : Option Addr) (ds : List Int) : Prop :=
  ∀ i, (h : i < ds.length) → ∃ b off, ao = some ⟨b, off, none⟩ ∧ b < w.heap.size ∧ w.cell? ⟨b, off + i, none⟩ = some (.int .u32 ds[i])
/-- What is read at a place. -/
theorem Rd.at {w : World} {b off : Nat} {ds : List Int} (h : Rd w (some ⟨b, off, none⟩) ds) (k : Nat) (hk : k < ds.length) : w.cell? ⟨b, off + k, none⟩ = some (.int .u32 ds[k]) := by
  obtain ⟨b', off', e, hl, hc⟩ := h k hk
  cases e
  exact hc
/-- Digits in a row of the call's own. -/
theorem Rd.own {w : World} {base g n cap : Nat} {e : TypeId} {zs : List Int} (h : w.ownsRow base e 1 (.slice (some ⟨g, 0, none⟩) n cap) n (zs.map (Value.int .u32))) (hl : zs.length = n) : Rd w (some ⟨g, 0, none⟩) zs := by
  intro i hi
  refine ⟨g, 0, rfl, (h.lt g rfl).2, ?_⟩
  rw [Nat.zero_add, h.cellAt i (by omega)]
  simp [hi]
end Go.Proofs.Ytlfogfjehdgjmaa

/- The words of a number, as its bits lie. -/
namespace Go.Proofs.Ytlfogfjehdgjmaa
open Go.RowKit
def VP (v : Value) (w : World) (e : Ending) (w' : World) : Prop := e = .returned v ∧ Below w.heap.size w w'
end Go.Proofs.Ytlfogfjehdgjmaa

/- Texts of nine bytes: matrices and masks, on both sides. -/
namespace Go.Proofs.Ytlfogfjehdgjmaa
open Go.RowKit
/-- The byte of a text at a place. -/
def bt (s : ByteArray) (i : Nat) : Nat := (s.data.toList.getD i 0).toNat
theorem bt_at {s : ByteArray} {i : Nat} (h : i < s.size) : s[i].toNat = bt s i := by
  have h2 : i < s.data.size := h
  show (s.data[i]).toNat = _
  unfold bt
  rw [List.getD_eq_getElem?_getD, Array.getElem?_toList, Array.getElem?_eq_getElem h2]; rfl
theorem bt_lt (s : ByteArray) (i : Nat) : bt s i < 256 := UInt8.toNat_lt _
def matL : List Nat := [70, 48, 49, 50]
def maskL : List Nat := [84, 70, 42, 48, 49, 50]
/-- Nine bytes, each of them of a list. -/
def nine (t : List Nat) (s : ByteArray) : Bool := decide (s.size = 9) && (List.range 9).all fun i => decide (bt s i ∈ t)
theorem nine_iff {t : List Nat} {s : ByteArray} : nine t s = true ↔ s.size = 9 ∧ ∀ i, i < 9 → bt s i ∈ t := by
  unfold nine
  rw [Bool.and_eq_true, decide_eq_true_iff, List.all_eq_true]
  refine and_congr_right fun _ => ⟨fun h i hi => of_decide_eq_true (h i (List.mem_range.2 hi)), fun h i hi => decide_eq_true (h i (List.mem_range.1 hi))⟩
theorem nine_size {t : List Nat} {s : ByteArray} (h : nine t s = true) : s.size = 9 := (nine_iff.1 h).1
theorem nine_mem {t : List Nat} {s : ByteArray} (h : nine t s = true) {i : Nat} (hi : i < 9) : bt s i ∈ t := (nine_iff.1 h).2 i hi
theorem nine_no {t : List Nat} {s : ByteArray} (h : ¬ s.size = 9) : nine t s = false := Bool.eq_false_iff.2 fun g => h (nine_size g)
theorem nine_not {t : List Nat} {s : ByteArray} {i : Nat} (hi : i < 9) (h : ¬ bt s i ∈ t) : nine t s = false := Bool.eq_false_iff.2 fun g => h (nine_mem g hi)
theorem nine_yes {t : List Nat} {s : ByteArray} (h : s.size = 9) (g : ∀ i, i < 9 → bt s i ∈ t) : nine t s = true := nine_iff.2 ⟨h, g⟩
/-- That a text has just the bytes of a list. -/
def Bytes (ts : ByteArray) (t : List Nat) : Prop := ∀ n : Nat, n < 256 → (0 ≤ Lib.indexByte ts.data.toList (Int.toNat (n : Int)).toUInt8 ↔ n ∈ t)
set_option maxRecDepth 100000 in
set_option maxHeartbeats 1000000 in
theorem idxB_any (s : ByteArray) (c : Int) (w : World) : Calls Try.prog 116 #[.string s, .int .u8 c] w (VP (.int .i64 (Lib.indexByte s.data.toList c.toNat.toUInt8)) w) := by
  go_enter Try.func116, Try.ntmps116
  go_wp2
  rw [run_callFunc_extern Try.func152 (by kernel_rfl) (by kernel_rfl) (by kernel_rfl) (e := Extern.BytealgIndexByte.indexByte) (by kernel_rfl), Lib.run_indexByteString]
  simp only [Result.andThen]
  rw [Oper.upon_value]
  go_wp2
  go_ret
  exact ⟨rfl, Below.refl _ _⟩
set_option maxRecDepth 100000 in
set_option maxHeartbeats 1000000 in
theorem index_any (s : ByteArray) (c : Int) (w : World) : Calls Try.prog 83 #[.string s, .int .u8 c] w (VP (.int .i64 (Lib.indexByte s.data.toList c.toNat.toUInt8)) w) := by
  have C := idxB_any s c
  go_enter Try.func83, Try.ntmps83
  go_wp2_with fail
  refine (C _).mono ?_
  rintro e w1 ⟨rfl, hB⟩
  go_wp2
  go_ret
  exact ⟨rfl, hB⟩
set_option maxRecDepth 100000 in
set_option maxHeartbeats 1000000 in
theorem nineOf_any (s ts : ByteArray) (t : List Nat) (hT : Bytes ts t) (w : World) : Calls Try.prog 49 #[.string s, .string ts] w (VP (.bool (nine t s)) w) := by
  have HT : Hid (Bytes ts t) := hT
  clear hT
  by_cases h9 : s.size = 9
  · go_enter Try.func49, Try.ntmps49
    go_wp2_with fail
    go_loopw [11] (fun i wr => ∃ c : Nat, c ≤ 9 ∧ i = .int .i64 c ∧ (∀ j, j < c → bt s j ∈ t) ∧ Below w.heap.size w wr) (fun i _ => 9 - (intOf i).toNat)
    case atStart => exact ⟨0, by omega, rfl, fun j hj => by omega, Below.refl _ _⟩
    case round =>
      obtain ⟨c, hc, rfl, hall, HB⟩ := hrel
      have HA : Hid (∀ j, j < c → bt s j ∈ t) := hall
      clear hall
      by_cases hcn : c < 9
      · have hcI : (c : Int) < 9 := by omega
        have hcs : c < s.size := by omega
        have hbt := bt_at hcs
        have HL := bt_lt s c
        have IX := index_any ts (bt s c)
        have HM := HT.out (bt s c) HL
        revert HM IX
        generalize Lib.indexByte ts.data.toList (Int.toNat (bt s c : Int)).toUInt8 = z
        intro IX HM
        by_cases hm : bt s c ∈ t
        · have hz : ¬ z < 0 := by have := HM.2 hm; omega
          have HK : Hid (bt s c ∈ t) := hm
          clear hm HM HL
          go_wp2_with fail
          refine (IX _).mono ?_
          rintro e w1 ⟨rfl, hB⟩
          clear IX
          replace HB := HB.trans (hB.mono HB.size)
          clear hB
          go_wp2
          go_roundw
          case rel => exact ⟨c + 1, by omega, by go_num, fun j hj => by
            rcases Nat.lt_or_ge j c with h | h
            · exact HA.out j h
            · obtain rfl : j = c := by omega
              exact HK.out, HB⟩
          case measure => simp [intOf]; omega
        · have hz : z < 0 := Int.not_le.1 fun h => hm (HM.1 h)
          have HO : Hid (nine t s = false) := nine_not hcn hm
          clear hm HM HL
          go_wp2_with fail
          refine (IX _).mono ?_
          rintro e w1 ⟨rfl, hB⟩
          clear IX
          replace HB := HB.trans (hB.mono HB.size)
          clear hB
          go_wp2
          go_ret
          exact ⟨by rw [HO.out]; rfl, HB⟩
      · obtain rfl : c = 9 := by omega
        have HO : Hid (nine t s = true) := nine_yes h9 HA.out
        clear HA
        go_wp2
        go_ret
        exact ⟨by rw [HO.out]; rfl, HB⟩
  · have HO : Hid (nine t s = false) := nine_no h9
    have hs : ((s.size : Int) == 9) = false := by simp; omega
    go_enter Try.func49, Try.ntmps49
    go_wp2
    go_ret
    exact ⟨by rw [HO.out]; rfl, Below.refl _ _⟩
set_option maxRecDepth 100000 in
set_option maxHeartbeats 1000000 in
theorem specMatrix_any (s : ByteArray) (w : World) : Calls Try.prog 48 #[.string s] w (VP (.bool (nine matL s)) w) := by
  by_cases h9 : s.size = 9
  · go_enter Try.func48, Try.ntmps48
    go_wp2_with fail
    go_loopw [3] (fun i wr => ∃ c : Nat, c ≤ 9 ∧ i = .int .i64 c ∧ (∀ j, j < c → bt s j ∈ matL) ∧ Below w.heap.size w wr) (fun i _ => 9 - (intOf i).toNat)
    case atStart => exact ⟨0, by omega, rfl, fun j hj => by omega, Below.refl _ _⟩
    case round =>
      obtain ⟨c, hc, rfl, hall, HB⟩ := hrel
      have HA : Hid (∀ j, j < c → bt s j ∈ matL) := hall
      clear hall
      by_cases hcn : c < 9
      · have hcI : (c : Int) < 9 := by omega
        have hcs : c < s.size := by omega
        have hbt := bt_at hcs
        by_cases hm : bt s c ∈ matL
        · have HK : Hid (bt s c ∈ matL) := hm
          simp only [matL, List.mem_cons, List.not_mem_nil, or_false] at hm
          rcases hm with h | h | h | h <;>
          · rw [h] at hbt
            clear h
            go_wp2
            go_roundw
            case rel => exact ⟨c + 1, by omega, by go_num, fun j hj => by
              rcases Nat.lt_or_ge j c with h | h
              · exact HA.out j h
              · obtain rfl : j = c := by omega
                exact HK.out, HB⟩
            case measure => simp [intOf]; omega
        · have HO : Hid (nine matL s = false) := nine_not hcn hm
          simp only [matL, List.mem_cons, List.not_mem_nil, or_false] at hm
          revert hbt hm
          generalize bt s c = n
          intro hbt hm
          have q70 : ((n : Int) != 70) = true := by simp; omega
          rcases (show (n : Int) < 48 ∨ ¬ (n : Int) < 48 ∧ (50 : Int) < n by omega) with g | ⟨g, g'⟩
          · clear hm
            go_wp2
            go_ret
            exact ⟨by rw [HO.out]; rfl, HB⟩
          · clear hm
            go_wp2
            go_ret
            exact ⟨by rw [HO.out]; rfl, HB⟩
      · obtain rfl : c = 9 := by omega
        have HO : Hid (nine matL s = true) := nine_yes h9 HA.out
        clear HA
        go_wp2
        go_ret
        exact ⟨by rw [HO.out]; rfl, HB⟩
  · have HO : Hid (nine matL s = false) := nine_no h9
    have hs : ((s.size : Int) == 9) = false := by simp; omega
    go_enter Try.func48, Try.ntmps48
    go_wp2
    go_ret
    exact ⟨by rw [HO.out]; rfl, Below.refl _ _⟩
set_option maxRecDepth 100000 in
set_option maxHeartbeats 1000000 in
theorem specMaskOk_any (s : ByteArray) (w : World) : Calls Try.prog 22 #[.string s] w (VP (.bool (nine maskL s)) w) := by
  by_cases h9 : s.size = 9
  · go_enter Try.func22, Try.ntmps22
    go_wp2_with fail
    go_loopw [3] (fun i wr => ∃ c : Nat, c ≤ 9 ∧ i = .int .i64 c ∧ (∀ j, j < c → bt s j ∈ maskL) ∧ Below w.heap.size w wr) (fun i _ => 9 - (intOf i).toNat)
    case atStart => exact ⟨0, by omega, rfl, fun j hj => by omega, Below.refl _ _⟩
    case round =>
      obtain ⟨c, hc, rfl, hall, HB⟩ := hrel
      have HA : Hid (∀ j, j < c → bt s j ∈ maskL) := hall
      clear hall
      by_cases hcn : c < 9
      · have hcI : (c : Int) < 9 := by omega
        have hcs : c < s.size := by omega
        have hbt := bt_at hcs
        by_cases hm : bt s c ∈ maskL
        · have HK : Hid (bt s c ∈ maskL) := hm
          simp only [maskL, List.mem_cons, List.not_mem_nil, or_false] at hm
          rcases hm with h | h | h | h | h | h <;>
          · rw [h] at hbt
            clear h
            go_wp2
            go_roundw
            case rel => exact ⟨c + 1, by omega, by go_num, fun j hj => by
              rcases Nat.lt_or_ge j c with h | h
              · exact HA.out j h
              · obtain rfl : j = c := by omega
                exact HK.out, HB⟩
            case measure => simp [intOf]; omega
        · have HO : Hid (nine maskL s = false) := nine_not hcn hm
          simp only [maskL, List.mem_cons, List.not_mem_nil, or_false] at hm
          revert hbt hm
          generalize bt s c = n
          intro hbt hm
          have q84 : ((n : Int) != 84) = true := by simp; omega
          have q70 : ((n : Int) != 70) = true := by simp; omega
          have q42 : ((n : Int) != 42) = true := by simp; omega
          rcases (show (n : Int) < 48 ∨ ¬ (n : Int) < 48 ∧ (50 : Int) < n by omega) with g | ⟨g, g'⟩
          · clear hm
            go_wp2
            go_ret
            exact ⟨by rw [HO.out]; rfl, HB⟩
          · clear hm
            go_wp2
            go_ret
            exact ⟨by rw [HO.out]; rfl, HB⟩
      · obtain rfl : c = 9 := by omega
        have HO : Hid (nine maskL s = true) := nine_yes h9 HA.out
        clear HA
        go_wp2
        go_ret
        exact ⟨by rw [HO.out]; rfl, HB⟩
  · have HO : Hid (nine maskL s = false) := nine_no h9
    have hs : ((s.size : Int) == 9) = false := by simp; omega
    go_enter Try.func22, Try.ntmps22
    go_wp2
    go_ret
    exact ⟨by rw [HO.out]; rfl, Below.refl _ _⟩
theorem bytes_mat : Bytes ⟨#[70, 48, 49, 50]⟩ matL := by
  have h : ∀ n : Fin 256, (0 ≤ Lib.indexByte [70, 48, 49, 50] (Int.toNat ((n.val : Nat) : Int)).toUInt8 ↔ n.val ∈ matL) := by decide +kernel
  exact fun n hn => h ⟨n, hn⟩
theorem bytes_mask : Bytes ⟨#[84, 70, 42, 48, 49, 50]⟩ maskL := by
  have h : ∀ n : Fin 256, (0 ≤ Lib.indexByte [84, 70, 42, 48, 49, 50] (Int.toNat ((n.val : Nat) : Int)).toUInt8 ↔ n.val ∈ maskL) := by decide +kernel
  exact fun n hn => h ⟨n, hn⟩
set_option maxRecDepth 100000 in
set_option maxHeartbeats 1000000 in
theorem isMatrix_any (s : ByteArray) (w : World) : Calls Try.prog 46 #[.string s] w (VP (.bool (nine matL s)) w) := by
  have C := nineOf_any s _ _ bytes_mat
  go_enter Try.func46, Try.ntmps46
  go_wp2_with fail
  refine (C _).mono ?_
  rintro e w1 ⟨rfl, hB⟩
  go_wp2
  go_ret
  exact ⟨rfl, hB⟩
set_option maxRecDepth 100000 in
set_option maxHeartbeats 1000000 in
theorem implMaskOk_any (s : ByteArray) (w : World) : Calls Try.prog 18 #[.string s] w (VP (.bool (nine maskL s)) w) := by
  have C := nineOf_any s _ _ bytes_mask
  go_enter Try.func18, Try.ntmps18
  go_wp2_with fail
  refine (C _).mono ?_
  rintro e w1 ⟨rfl, hB⟩
  go_wp2
  go_ret
  exact ⟨rfl, hB⟩
end Go.Proofs.Ytlfogfjehdgjmaa

/- A region that draws its order and only reads, walked once, with what is left behind a letter: nothing can be laid open ahead of its time. -/
namespace Go.Proofs.Ytlfogfjehdgjmaa
open Go.RowKit
def QwNil (W : List Oper → Act → Prop) (Q : Exit → Act → World → Prop) (w : World) : Prop := ∀ a, (∀ n, Q .normal a (w.drewN n)) → W [] a
def QwStep (W : List Oper → Act → Prop) (P : Program) (l : List Oper) (w : World) : Prop :=
  ∀ o rest a, (∀ K : Act → Prop, (∀ a, W rest a → K a) → if Region.wanted o (yielded l.toArray a.tmps) then o.quiet P a (fun w' => ∃ n, w' = w.drewN n) K else K (a.put o.dst undef)) → W (o :: rest) a
theorem wp_region_qw {P : Program} {id : Nat} {Q : Exit → Act → World → Prop} {a : Act} {w : World} {l : List Oper} (hm : P.follows .mixedOrders = true) (hB : Region.lexB .any l.toArray = true)
    (h : ∀ W : List Oper → Act → Prop, QwNil W Q w → QwStep W P l w → W l a) : (Code.region id l.toArray true).wp P Q a w :=
  wp_region_quiet_lit hm hB (h (wpQuiet P l.toArray (fun w' => ∃ n, w' = w.drewN n) (fun a' => ∀ w', (∃ n, w' = w.drewN n) → Q .normal a' w'))
    (fun _ h => wpQuiet_nil (fun _ ⟨n, hn⟩ => hn ▸ h n)) (fun _ _ _ h => wpQuiet_step h))
end Go.Proofs.Ytlfogfjehdgjmaa

/- A matrix and a mask: whether they meet, on both sides. -/
namespace Go.Proofs.Ytlfogfjehdgjmaa
open Go.RowKit
/-- What stands at a place of a matrix meets what stands there in a mask. -/
def meetsB (f g : Nat) : Bool := g == 42 || (if g == 84 then f != 70 else f == g)
/-- A matrix meets a mask. -/
def mtc (m k : ByteArray) : Bool := nine matL m && nine maskL k && (List.range 9).all fun i => meetsB (bt m i) (bt k i)
theorem mtc_no1 {m k : ByteArray} (h : nine matL m = false) : mtc m k = false := by unfold mtc; rw [h]; rfl
theorem mtc_no2 {m k : ByteArray} (h : nine maskL k = false) : mtc m k = false := by unfold mtc; rw [h, Bool.and_false]; rfl
theorem mtc_not {m k : ByteArray} {i : Nat} (hi : i < 9) (h : meetsB (bt m i) (bt k i) = false) : mtc m k = false := by
  refine Bool.eq_false_iff.2 fun g => ?_
  unfold mtc at g
  rw [Bool.and_eq_true, List.all_eq_true] at g
  rw [g.2 i (List.mem_range.2 hi)] at h
  cases h
theorem mtc_yes {m k : ByteArray} (hm : nine matL m = true) (hk : nine maskL k = true) (h : ∀ i, i < 9 → meetsB (bt m i) (bt k i) = true) : mtc m k = true := by
  unfold mtc
  rw [hm, hk, Bool.and_eq_true, List.all_eq_true]
  exact ⟨rfl, fun i hi => h i (List.mem_range.1 hi)⟩
set_option maxRecDepth 100000 in
set_option maxHeartbeats 1000000 in
theorem meetsAt_same (f g : Nat) (w : World) : Calls Try.prog 47 #[.int .u8 f, .int .u8 g] w (fun e w' => e = .returned (.bool (meetsB f g)) ∧ w' = w) := by
  by_cases h1 : g = 42
  · subst h1
    have HO : Hid (meetsB f 42 = true) := rfl
    go_enter Try.func47, Try.ntmps47
    go_wp2
    go_ret
    exact ⟨by rw [HO.out]; rfl, rfl⟩
  · have e1 : ((g : Int) == 42) = false := by simp; omega
    by_cases h2 : g = 84
    · subst h2
      have HO : Hid (meetsB f 84 = (f != 70)) := rfl
      by_cases h3 : f = 70
      · subst h3
        go_enter Try.func47, Try.ntmps47
        go_wp2
        go_ret
        exact ⟨by rw [HO.out]; rfl, rfl⟩
      · have e3 : ((f : Int) != 70) = true := by simp; omega
        have HN : Hid ((f != 70) = true) := by show _ = _; simp; omega
        go_enter Try.func47, Try.ntmps47
        go_wp2
        go_ret
        exact ⟨by rw [HO.out, HN.out]; rfl, rfl⟩
    · have e2 : ((g : Int) == 84) = false := by simp; omega
      have HO : Hid (meetsB f g = (f == g)) := by
        show _ = _
        unfold meetsB
        rw [if_neg (by simp; omega), show (g == 42) = false by simp; omega, Bool.false_or]
      by_cases h3 : f = g
      · subst h3
        have HN : Hid ((f == f) = true) := by show _ = _; simp
        go_enter Try.func47, Try.ntmps47
        go_wp2
        go_ret
        exact ⟨by rw [HO.out, HN.out]; rfl, rfl⟩
      · have e3 : ((f : Int) == g) = false := by simp; omega
        have HN : Hid ((f == g) = false) := by show _ = _; simp; omega
        go_enter Try.func47, Try.ntmps47
        go_wp2
        go_ret
        exact ⟨by rw [HO.out, HN.out]; rfl, rfl⟩
set_option maxRecDepth 100000 in
set_option maxHeartbeats 2000000 in
theorem implMatches_any (m k : ByteArray) (w : World) : Calls Try.prog 14 #[.string m, .string k] w (VP (.bool (mtc m k)) w) := by
  have C1 := isMatrix_any m
  have C2 := implMaskOk_any k
  cases h1 : nine matL m
  · have HO : Hid (mtc m k = false) := mtc_no1 h1
    rw [h1] at C1
    clear h1 C2
    go_enter Try.func14, Try.ntmps14
    go_wp2_with fail
    refine (C1 _).mono ?_
    rintro e w1 ⟨rfl, hB⟩
    go_wp2
    go_ret
    exact ⟨by rw [HO.out]; rfl, hB⟩
  · rw [h1] at C1
    cases h2 : nine maskL k
    · have HO : Hid (mtc m k = false) := mtc_no2 h2
      rw [h2] at C2
      clear h1 h2
      go_enter Try.func14, Try.ntmps14
      go_wp2_with fail
      refine (C1 _).mono ?_
      rintro e w1 ⟨rfl, hB⟩
      go_wp2_with fail
      refine (C2 _).mono ?_
      rintro e w2 ⟨rfl, hB2⟩
      go_wp2
      go_ret
      exact ⟨by rw [HO.out]; rfl, hB.trans (hB2.mono hB.size)⟩
    · rw [h2] at C2
      have H1 : Hid (nine matL m = true) := h1
      have H2 : Hid (nine maskL k = true) := h2
      have m9 := nine_size h1
      have k9 := nine_size h2
      clear h1 h2
      go_enter Try.func14, Try.ntmps14
      go_wp2_with fail
      refine (C1 _).mono ?_
      rintro e w1 ⟨rfl, hB⟩
      clear C1
      go_wp2_with fail
      refine (C2 _).mono ?_
      rintro e w2 ⟨rfl, hB2⟩
      clear C2
      replace hB := hB.trans (hB2.mono hB.size)
      clear hB2
      go_wp2_with fail
      go_loopw [14] (fun i wr => ∃ c : Nat, c ≤ 9 ∧ i = .int .i64 c ∧ (∀ j, j < c → meetsB (bt m j) (bt k j) = true) ∧ Below w.heap.size w wr) (fun i _ => 9 - (intOf i).toNat)
      case atStart => exact ⟨0, by omega, rfl, fun j hj => by omega, hB⟩
      case round =>
        clear hB
        obtain ⟨c, hc, rfl, hall, HB⟩ := hrel
        have HA : Hid (∀ j, j < c → meetsB (bt m j) (bt k j) = true) := hall
        clear hall
        by_cases hcn : c < 9
        · have hcI : (c : Int) < 9 := by omega
          have hcs : c < m.size := by omega
          have hck : c < k.size := by omega
          have hb1 := bt_at hcs
          have hb2 := bt_at hck
          have MA := meetsAt_same (bt m c) (bt k c)
          cases hk : meetsB (bt m c) (bt k c)
          · have HO : Hid (mtc m k = false) := mtc_not hcn hk
            rw [hk] at MA
            clear hk
            go_wp2_with fail
            go_quiet ((go_at_call 47; exact Calls.quiet_of_same (MA _)))
            go_wp2
            go_ret
            exact ⟨by rw [HO.out]; rfl, below_drewN HB nq⟩
          · have HK : Hid (meetsB (bt m c) (bt k c) = true) := hk
            rw [hk] at MA
            clear hk
            go_wp2_with fail
            go_quiet ((go_at_call 47; exact Calls.quiet_of_same (MA _)))
            go_wp2
            go_roundw
            case rel => exact ⟨c + 1, by omega, by go_num, fun j hj => by
              rcases Nat.lt_or_ge j c with h | h
              · exact HA.out j h
              · obtain rfl : j = c := by omega
                exact HK.out, below_drewN HB nq⟩
            case measure => simp [intOf]; omega
        · obtain rfl : c = 9 := by omega
          have HO : Hid (mtc m k = true) := mtc_yes H1.out H2.out HA.out
          clear HA
          go_wp2
          go_ret
          exact ⟨by rw [HO.out]; rfl, HB⟩
set_option maxRecDepth 100000 in
set_option maxHeartbeats 4000000 in
theorem specMatches_any (m k : ByteArray) (w : World) : Calls Try.prog 15 #[.string m, .string k] w (VP (.bool (mtc m k)) w) := by
  have C1 := specMatrix_any m
  have C2 := specMaskOk_any k
  cases h1 : nine matL m
  · have HO : Hid (mtc m k = false) := mtc_no1 h1
    rw [h1] at C1
    clear h1 C2
    go_enter Try.func15, Try.ntmps15
    go_wp2_with fail
    refine (C1 _).mono ?_
    rintro e w1 ⟨rfl, hB⟩
    go_wp2
    go_ret
    exact ⟨by rw [HO.out]; rfl, hB⟩
  · rw [h1] at C1
    cases h2 : nine maskL k
    · have HO : Hid (mtc m k = false) := mtc_no2 h2
      rw [h2] at C2
      clear h1 h2
      go_enter Try.func15, Try.ntmps15
      go_wp2_with fail
      refine (C1 _).mono ?_
      rintro e w1 ⟨rfl, hB⟩
      go_wp2_with fail
      refine (C2 _).mono ?_
      rintro e w2 ⟨rfl, hB2⟩
      go_wp2
      go_ret
      exact ⟨by rw [HO.out]; rfl, hB.trans (hB2.mono hB.size)⟩
    · rw [h2] at C2
      have H1 : Hid (nine matL m = true) := h1
      have H2 : Hid (nine maskL k = true) := h2
      have m9 := nine_size h1
      have k9 := nine_size h2
      clear h1 h2
      go_enter Try.func15, Try.ntmps15
      go_wp2_with fail
      refine (C1 _).mono ?_
      rintro e w1 ⟨rfl, hB⟩
      clear C1
      go_wp2_with fail
      refine (C2 _).mono ?_
      rintro e w2 ⟨rfl, hB2⟩
      clear C2
      replace hB := hB.trans (hB2.mono hB.size)
      clear hB2
      go_wp2_with fail
      go_loopw [5] (fun i wr => ∃ c : Nat, c ≤ 9 ∧ i = .int .i64 c ∧ (∀ j, j < c → meetsB (bt m j) (bt k j) = true) ∧ Below w.heap.size w wr) (fun i _ => 9 - (intOf i).toNat)
      case atStart => exact ⟨0, by omega, rfl, fun j hj => by omega, hB⟩
      case round =>
        clear hB
        obtain ⟨c, hc, rfl, hall, HB⟩ := hrel
        have HA : Hid (∀ j, j < c → meetsB (bt m j) (bt k j) = true) := hall
        clear hall
        by_cases hcn : c < 9
        · have hcI : (c : Int) < 9 := by omega
          have hcs : c < m.size := by omega
          have hck : c < k.size := by omega
          have hb1 := bt_at hcs
          have hb2 := bt_at hck
          have HM1 := nine_mem H1.out hcn
          have HM2 := nine_mem H2.out hcn
          have HN : Hid (meetsB (bt m c) (bt k c) = false → mtc m k = false) := fun h => mtc_not hcn h
          have HY : Hid (meetsB (bt m c) (bt k c) = true → ∀ j, j < c + 1 → meetsB (bt m j) (bt k j) = true) := fun g j hj => by
            rcases Nat.lt_or_ge j c with h | h
            · exact HA.out j h
            · obtain rfl : j = c := by omega
              exact g
          clear HA
          revert hb1 hb2 HM1 HM2 HN HY
          generalize bt m c = x
          generalize bt k c = y
          intro hb1 hb2 HM1 HM2 HN HY
          clear HM1 HM2 H1 H2
          by_cases g1 : y = 84
          · subst g1
            by_cases g2 : x = 70
            · subst g2
              replace HN : Hid (mtc m k = false) := HN.out rfl
              clear HY
              go_wp2_with fail
              refine wp_region_qw (by kernel_rfl) (by kernel_rfl) ?_
              intro W qN qS
              repeat (refine qS _ _ _ (fun K hK => ?_); go_simp; refine hK _ ?_; clear hK K)
              refine qN _ (fun nq => ?_)
              clear qN qS
              go_wp2
              go_ret
              exact ⟨by rw [HN.out]; rfl, below_drewN HB nq⟩
            · replace HY : Hid (∀ j, j < c + 1 → meetsB (bt m j) (bt k j) = true) := HY.out (by unfold meetsB; simp; omega)
              have q1 : ((x : Int) == 70) = false := by simp; omega
              clear HN g2
              go_wp2_with fail
              refine wp_region_qw (by kernel_rfl) (by kernel_rfl) ?_
              intro W qN qS
              repeat (refine qS _ _ _ (fun K hK => ?_); go_simp; refine hK _ ?_; clear hK K)
              refine qN _ (fun nq => ?_)
              clear qN qS
              go_wp2
              go_roundw
              case rel => exact ⟨c + 1, by omega, by go_num, HY.out, below_drewN HB nq⟩
              case measure => simp [intOf]; omega
          · have q1 : ((y : Int) == 84) = false := by simp; omega
            have q2 : ((y : Int) != 84) = true := by simp; omega
            by_cases g2 : y = 42
            · subst g2
              replace HY : Hid (∀ j, j < c + 1 → meetsB (bt m j) (bt k j) = true) := HY.out rfl
              clear HN g1 q1 q2
              go_wp2_with fail
              refine wp_region_qw (by kernel_rfl) (by kernel_rfl) ?_
              intro W qN qS
              repeat (refine qS _ _ _ (fun K hK => ?_); go_simp; refine hK _ ?_; clear hK K)
              refine qN _ (fun nq => ?_)
              clear qN qS
              go_wp2
              go_roundw
              case rel => exact ⟨c + 1, by omega, by go_num, HY.out, below_drewN HB nq⟩
              case measure => simp [intOf]; omega
            · have q3 : ((y : Int) != 42) = true := by simp; omega
              have hd : meetsB x y = (x == y) := by
                unfold meetsB
                rw [if_neg (by simp; omega), show (y == 42) = false by simp; omega, Bool.false_or]
              by_cases g3 : x = y
              · subst g3
                have q4 : ((x : Int) != x) = false := by simp
                replace HY : Hid (∀ j, j < c + 1 → meetsB (bt m j) (bt k j) = true) := HY.out (by rw [hd]; simp)
                clear HN g1 g2 hd
                go_wp2_with fail
                refine wp_region_qw (by kernel_rfl) (by kernel_rfl) ?_
                intro W qN qS
                repeat (refine qS _ _ _ (fun K hK => ?_); go_simp; refine hK _ ?_; clear hK K)
                refine qN _ (fun nq => ?_)
                clear qN qS
                go_wp2
                go_roundw
                case rel => exact ⟨c + 1, by omega, by go_num, HY.out, below_drewN HB nq⟩
                case measure => simp [intOf]; omega
              · have q4 : ((y : Int) != x) = true := by simp; omega
                replace HN : Hid (mtc m k = false) := HN.out (by rw [hd]; simp; omega)
                clear HY g1 g2 g3 hd
                go_wp2_with fail
                refine wp_region_qw (by kernel_rfl) (by kernel_rfl) ?_
                intro W qN qS
                repeat (refine qS _ _ _ (fun K hK => ?_); go_simp; refine hK _ ?_; clear hK K)
                refine qN _ (fun nq => ?_)
                clear qN qS
                go_wp2
                go_ret
                exact ⟨by rw [HN.out]; rfl, below_drewN HB nq⟩
        · obtain rfl : c = 9 := by omega
          have HO : Hid (mtc m k = true) := mtc_yes H1.out H2.out HA.out
          clear HA
          go_wp2
          go_ret
          exact ⟨by rw [HO.out]; rfl, HB⟩
end Go.Proofs.Ytlfogfjehdgjmaa

/- The laws of MaskOk and Matches. -/
namespace Go.Proofs.Ytlfogfjehdgjmaa
open Go.RowKit
set_option maxRecDepth 100000 in
set_option maxHeartbeats 1000000 in
theorem lawMaskOk_any (s : ByteArray) (w : World) : Calls Try.prog 5 #[.string s] w (VP (.bool true) w) := by
  have C1 := specMaskOk_any s
  have C2 := implMaskOk_any s
  revert C1 C2
  generalize nine maskL s = b
  intro C1 C2
  go_enter Try.func5, Try.ntmps5
  by_cases hs : (1048576 : Int) < s.size
  · clear C1 C2
    go_wp2
    go_ret
    exact ⟨rfl, Below.refl _ _⟩
  · go_wp2_with fail
    refine (C1 _).mono ?_
    rintro e w1 ⟨rfl, hB⟩
    clear C1
    go_wp2_with fail
    refine (C2 _).mono ?_
    rintro e w2 ⟨rfl, hB2⟩
    clear C2
    replace hB := hB.trans (hB2.mono hB.size)
    clear hB2
    cases b
    · go_wp2
      go_ret
      exact ⟨rfl, hB⟩
    · go_wp2
      go_ret
      exact ⟨rfl, hB⟩
set_option maxRecDepth 100000 in
set_option maxHeartbeats 1000000 in
theorem lawMatches_any (s t : ByteArray) (w : World) : Calls Try.prog 6 #[.string s, .string t] w (VP (.bool true) w) := by
  have C1 := specMatches_any s t
  have C2 := implMatches_any s t
  revert C1 C2
  generalize mtc s t = b
  intro C1 C2
  go_enter Try.func6, Try.ntmps6
  by_cases hs : (1048576 : Int) < s.size
  · clear C1 C2
    go_wp2
    go_ret
    exact ⟨rfl, Below.refl _ _⟩
  · by_cases ht : (1048576 : Int) < t.size
    · clear C1 C2
      go_wp2
      go_ret
      exact ⟨rfl, Below.refl _ _⟩
    · go_wp2_with fail
      refine (C1 _).mono ?_
      rintro e w1 ⟨rfl, hB⟩
      clear C1
      go_wp2_with fail
      refine (C2 _).mono ?_
      rintro e w2 ⟨rfl, hB2⟩
      clear C2
      replace hB := hB.trans (hB2.mono hB.size)
      clear hB2
      cases b
      · go_wp2
        go_ret
        exact ⟨rfl, hB⟩
      · go_wp2
        go_ret
        exact ⟨rfl, hB⟩
end Go.Proofs.Ytlfogfjehdgjmaa

/- How a value of four words reads as data: opened and shut. -/
namespace Go.Proofs.Ytlfogfjehdgjmaa
open Go.ChangeShapes Go.WideShapes Go.ChangeAt Go.RowKit Go.Joins
theorem Try.own : ownKnob Try.prog.godebug = none := by kernel_rfl
end Go.Proofs.Ytlfogfjehdgjmaa

/- What the row of a law asks of the program as a whole, each by itself. -/
namespace Go.Proofs.Ytlfogfjehdgjmaa
open Go.ChangeShapes Go.WideShapes Go.ChangeAt Go.RowKit Go.Joins
theorem jn_laid : laidOutB Try.pinned.checked.prog = true := by kernel_rfl
theorem jn_maps : mapsRowed Try.pinned.checked.prog = true := by kernel_rfl
theorem jn_enter : Try.pinned.checked.prog.mayEnter = true := by kernel_rfl
theorem jn_heard : Try.pinned.checked.prog.stopsHeard = true := by kernel_rfl
end Go.Proofs.Ytlfogfjehdgjmaa
