/- Matrices that are turned, and masks: the reckoning. -/
import Derived.Test.YtlfogfjehdgjmaaStrC
import Derived.Lib.Strings
namespace Go.Proofs.Ytlfogfjehdgjmaa
open Go.RowKit
theorem mtc_iff {m k : ByteArray} : mtc m k = true ↔ nine matL m = true ∧ nine maskL k = true ∧ ∀ i, i < 9 → meetsB (bt m i) (bt k i) = true := by
  unfold mtc
  rw [Bool.and_eq_true, Bool.and_eq_true, List.all_eq_true]
  exact ⟨fun h => ⟨h.1.1, h.1.2, fun i hi => h.2 i (List.mem_range.2 hi)⟩, fun h => ⟨⟨h.1, h.2.1⟩, fun i hi => h.2.2 i (List.mem_range.1 hi)⟩⟩
theorem bt_turned (s : ByteArray) {i : Nat} (hi : i < 9) : bt (strOfNums (trL s 9)) i = bt s (3 * (i % 3) + i / 3) := by
  have hl := bt_lt s (3 * (i % 3) + i / 3)
  have e : bt (strOfNums (trL s 9)) i = (UInt8.ofNat (bt s (3 * (i % 3) + i / 3))).toNat := by
    show ((strOfNums (trL s 9)).data.toList.getD i 0).toNat = _
    rw [strOfNums_data]
    simp [trL, List.getD_eq_getElem?_getD, hi]
  rw [e]
  simp only [UInt8.toNat_ofNat']
  omega
theorem size_turned (s : ByteArray) : (strOfNums (trL s 9)).size = 9 := by rw [strOfNums_size, trL_len]
theorem bytes_ext {s t : ByteArray} (h : s.size = t.size) (g : ∀ i, i < s.size → bt s i = bt t i) : s = t := by
  have hd : s.data = t.data := by
    refine Array.ext h fun i h1 h2 => ?_
    have e := g i h1
    rw [← bt_at (s := s) h1, ← bt_at (s := t) h2] at e
    exact UInt8.toNat_inj.1 e
  cases s; cases t; cases hd; rfl
theorem perm_lt {i : Nat} (hi : i < 9) : 3 * (i % 3) + i / 3 < 9 := by omega
theorem perm_perm {i : Nat} (hi : i < 9) : 3 * ((3 * (i % 3) + i / 3) % 3) + (3 * (i % 3) + i / 3) / 3 = i := by omega
theorem nine_turned {t : List Nat} {s : ByteArray} (h : nine t s = true) : nine t (strOfNums (trL s 9)) = true :=
  nine_yes (size_turned s) fun i hi => by rw [bt_turned s hi]; exact nine_mem h (perm_lt hi)
theorem trS_trS {m : ByteArray} (h : nine matL m = true) : trS (trS m) = m := by
  rw [trS_yes h, trS_yes (nine_turned h)]
  refine bytes_ext ((size_turned _).trans (nine_size h).symm) fun i hi => ?_
  rw [size_turned] at hi
  rw [bt_turned _ hi, bt_turned _ (perm_lt hi), perm_perm hi]
theorem mask_of_mat {m : ByteArray} (h : nine matL m = true) : nine maskL m = true := nine_yes (nine_size h) fun i hi => by
  have := nine_mem h hi
  simp only [matL, maskL, List.mem_cons, List.not_mem_nil, or_false] at this ⊢
  omega
theorem meets_self {x : Nat} (h : x ∈ matL) : meetsB x x = true := by
  simp only [matL, List.mem_cons, List.not_mem_nil, or_false] at h
  rcases h with rfl | rfl | rfl | rfl <;> rfl
theorem mtc_self {m : ByteArray} (h : nine matL m = true) : mtc m m = true := mtc_iff.2 ⟨h, mask_of_mat h, fun _ hi => meets_self (nine_mem h hi)⟩
def stars : ByteArray := ⟨#[42, 42, 42, 42, 42, 42, 42, 42, 42]⟩
theorem bt_stars {i : Nat} (hi : i < 9) : bt stars i = 42 := by
  have h : ∀ j : Fin 9, bt stars j.val = 42 := by decide +kernel
  exact h ⟨i, hi⟩
theorem mtc_stars {m : ByteArray} (h : nine matL m = true) : mtc m stars = true := mtc_iff.2 ⟨h, nine_yes rfl fun i hi => by rw [bt_stars hi]; decide, fun i hi => by rw [bt_stars hi]; rfl⟩
theorem mtc_turned {m k : ByteArray} (h : nine matL m = true) (hk : nine maskL k = true) : mtc (trS m) (strOfNums (trL k 9)) = mtc m k := by
  rw [trS_yes h, Bool.eq_iff_iff, mtc_iff, mtc_iff]
  constructor
  · rintro ⟨_, _, g⟩
    refine ⟨h, hk, fun i hi => ?_⟩
    have := g _ (perm_lt hi)
    rwa [bt_turned _ (perm_lt hi), bt_turned _ (perm_lt hi), perm_perm hi] at this
  · rintro ⟨_, _, g⟩
    refine ⟨nine_turned h, nine_turned hk, fun i hi => ?_⟩
    rw [bt_turned _ hi, bt_turned _ hi]
    exact g _ (perm_lt hi)
theorem turned_step (s : ByteArray) (c : Nat) (hc : 3 * (c % 3) + c / 3 < s.size) : strOfNums (trL s c) ++ s.extract (3 * (c % 3) + c / 3) (3 * (c % 3) + c / 3 + 1) = strOfNums (trL s (c + 1)) := by
  generalize hk : 3 * (c % 3) + c / 3 = k at *
  have e1 : (s.extract k (k + 1)).data.toList = [UInt8.ofNat (bt s k)] := by
    have hb := bt_at hc
    have hd : k < s.data.size := hc
    have h0 : (s.extract k (k + 1)).data = s.data.extract k (k + 1) := by simp
    rw [h0]
    have h1 : UInt8.ofNat (bt s k) = s.data[k] := by
      rw [← hb]
      exact UInt8.ofNat_toNat
    rw [h1]
    simp [Array.toList_extract, List.extract_eq_take_drop, List.drop_eq_getElem_cons (l := s.data.toList) (by simpa using hd)]
  have e2 : ∀ a b : ByteArray, a.data.toList = b.data.toList → a = b := fun a b h => by
    cases a; cases b; congr; exact Array.ext' h
  apply e2
  have e3 : (strOfNums (trL s c) ++ s.extract k (k + 1)).data.toList = (strOfNums (trL s c)).data.toList ++ (s.extract k (k + 1)).data.toList := by simp
  rw [e3, e1, strOfNums_data, strOfNums_data, trL_succ, hk]
  simp
end Go.Proofs.Ytlfogfjehdgjmaa
