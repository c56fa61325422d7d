/- Matrices and masks drawn from a code: the walks. -/
import Derived.Test.YtlfogfjehdgjmaaDrwD
import Derived.Test.YtlfogfjehdgjmaaStrC
namespace Go.Proofs.Ytlfogfjehdgjmaa
open Go.RowKit
/-- Some text of at most nine bytes. -/
def IsStr (v : Value) : Prop := ∃ s : ByteArray, v = .string s ∧ s.size ≤ 9
set_option maxRecDepth 100000 in
set_option maxHeartbeats 2000000 in
theorem letters_any (s : ByteArray) (m : Nat) (hm : s.size = m) (h2 : 2 ≤ m) (h9 : m ≤ 9) (g : Nat) (ao : Option Addr) (n cap : Nat) (cs : List Int) (w : World) (h : Rdr w g ao n cap cs) :
    Calls Try.prog 44 #[.pointer (some ⟨g, 0, none⟩), .string s] w (RdP g ao n cap cs IsStr w) := by
  go_enter Try.func44, Try.ntmps44
  go_wp2_with fail
  go_loopw [5, 6] (fun o i wr => ∃ (c : Nat) (t : ByteArray), c ≤ 9 ∧ i = .int .i64 c ∧ o = .string t ∧ t.size = c ∧ Rdr wr g ao n cap cs ∧ Kept g w wr) (fun _ i _ => 9 - (intOf i).toNat)
  case atStart => exact ⟨0, _, by omega, rfl, rfl, rfl, h, Kept.refl _ _⟩
  case round =>
    clear h
    obtain ⟨c, t, hc, rfl, rfl, ht, R, K⟩ := hrel
    by_cases hcn : c < 9
    · have hcI : (c : Int) < 9 := by omega
      go_wp2_with fail
      refine (below_any (m : Int) (by omega) (by omega) g ao n cap cs _ R).mono ?_
      rintro e w1 ⟨_, rfl, ⟨x, rfl, x0, x1⟩, R1, K1⟩
      replace K := K.trans K1
      obtain ⟨k, rfl⟩ : ∃ k : Nat, x = k := ⟨x.toNat, by omega⟩
      have hk : k < s.size := by omega
      have hkI : (k : Int) + 1 ≤ s.size := by omega
      have hbig : ¬ (9223372036854775807 < c + (min (k + 1) m - k)) := by omega
      have hsz : (t ++ s.extract k (k + 1)).size = c + 1 := by simp; omega
      have HZ : Hid ((t ++ s.extract k (k + 1)).size = c + 1) := hsz
      clear R K1 hsz
      go_wp2
      go_roundw
      case rel => exact ⟨c + 1, _, by omega, by go_num, rfl, HZ.out, R1, K⟩
      case measure => simp [intOf]; omega
    · obtain rfl : c = 9 := by omega
      go_wp2_with fail
      refine (once_any 16 (by decide) (by decide) g ao n cap cs _ R).mono ?_
      rintro e w1 ⟨_, rfl, ⟨b, rfl⟩, R1, K1⟩
      replace K := K.trans K1
      clear R K1
      cases b
      · go_wp2_with fail
        refine (once_any 20 (by decide) (by decide) g ao n cap cs _ R1).mono ?_
        rintro e w2 ⟨_, rfl, ⟨b, rfl⟩, R2, K2⟩
        replace K := K.trans K2
        clear R1 K2
        cases b
        · go_wp2
          go_ret
          exact ⟨_, rfl, ⟨_, rfl, by omega⟩, R2, K⟩
        · go_wp2
          go_ret
          refine ⟨_, rfl, ⟨_, rfl, ?_⟩, R2, K⟩
          have h1 : (⟨#[120]⟩ : ByteArray).size = 1 := rfl
          simp
          omega
      · go_wp2_with fail
        refine (below_any 9 (by decide) (by decide) g ao n cap cs _ R1).mono ?_
        rintro e w2 ⟨_, rfl, ⟨x, rfl, x0, x1⟩, R2, K2⟩
        replace K := K.trans K2
        obtain ⟨k, rfl⟩ : ∃ k : Nat, x = k := ⟨x.toNat, by omega⟩
        have hk : k ≤ t.size := by omega
        clear R1 K2
        go_wp2
        go_ret
        refine ⟨_, rfl, ⟨_, rfl, ?_⟩, R2, K⟩
        simp
        omega
/-- Two texts. -/
def TwoS (w : World) (e : Ending) (w' : World) : Prop := ∃ s t : ByteArray, e = .returned (.tuple #[.string s, .string t]) ∧ s.size ≤ 9 ∧ t.size ≤ 9 ∧ Below w.heap.size w w'
set_option maxRecDepth 100000 in
set_option maxHeartbeats 2000000 in
theorem drawMatches_any (ao : Option Addr) (n cap : Nat) (cs : List Int) (w : World) (h : Code w ao n cs) :
    Calls Try.prog 13 #[.slice ao n cap] w (TwoS w) := by
  go_enter Try.func13, Try.ntmps13
  go_wp2_with fail
  refine (open_any ao n cap cs _ h).mono ?_
  rintro e w1 ⟨G, rfl, hG, R, hB⟩
  clear h
  go_wp2_with fail
  refine (letters_any _ 4 rfl (by decide) (by decide) G ao n cap cs _ R).mono ?_
  rintro e w2 ⟨_, rfl, ⟨s, rfl, hs⟩, R1, K⟩
  clear R
  go_wp2_with fail
  refine (once_any 3 (by decide) (by decide) G ao n cap cs _ R1).mono ?_
  rintro e w3 ⟨_, rfl, ⟨b, rfl⟩, R2, K1⟩
  replace K := K.trans K1
  clear R1 K1
  cases b
  · go_wp2_with fail
    refine (letters_any _ 6 rfl (by decide) (by decide) G ao n cap cs _ R2).mono ?_
    rintro e w4 ⟨_, rfl, ⟨t, rfl, ht⟩, R3, K1⟩
    replace K := K.trans K1
    have HB : Below w.heap.size w w4 := hB.trans (K.below hG hB.size)
    clear R2 K1 R3 K hB
    go_wp2
    go_ret2
    exact ⟨_, _, rfl, hs, ht, HB⟩
  · go_wp2_with fail
    refine (letters_any _ 2 rfl (by decide) (by decide) G ao n cap cs _ R2).mono ?_
    rintro e w4 ⟨_, rfl, ⟨t, rfl, ht⟩, R3, K1⟩
    replace K := K.trans K1
    have HB : Below w.heap.size w w4 := hB.trans (K.below hG hB.size)
    clear R2 K1 R3 K hB
    go_wp2
    go_ret2
    exact ⟨_, _, rfl, hs, ht, HB⟩
end Go.Proofs.Ytlfogfjehdgjmaa
