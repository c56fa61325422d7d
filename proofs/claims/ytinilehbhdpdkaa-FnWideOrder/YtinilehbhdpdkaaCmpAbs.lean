/- The walk of the comparison of digits. -/
import Derived.Test.YtinilehbhdpdkaaBase
import Derived.Deep.QuietTactic
import Derived.BigQuiet
namespace Go.Proofs.Ytinilehbhdpdkaa
open Go.RowKit
def IntP (z : Int) (w : World) (e : Ending) (w' : World) : Prop := e = .returned (.int .i64 z) ∧ Below w.heap.size w w'
set_option maxHeartbeats 400000 in
theorem cmpAbs_ne (ao bo : Option Addr) (n m ca cb : Nat) (w : World) (_hm : n ≤ 1000000) (_hm' : m ≤ 1000000) (z : Int) (hz : (n < m ∧ z = -1) ∨ (m < n ∧ z = 1)) :
    Calls Try.prog 40 #[.slice ao n ca, .slice bo m cb] w (IntP z w) := by
  have hne : ((n : Int) != (m : Int)) = true := by rw [bne_iff_ne]; omega
  rcases hz with ⟨h1, rfl⟩ | ⟨h1, rfl⟩
  · go_enter Try.func40, Try.ntmps40
    go_wp2
    go_ret
    exact ⟨rfl, Below.refl _ _⟩
  · have h2 : ¬ n < m := by omega
    go_enter Try.func40, Try.ntmps40
    go_wp2
    go_ret
    exact ⟨rfl, Below.refl _ _⟩
set_option maxHeartbeats 400000 in
theorem cmpAbs_eq (ao bo : Option Addr) (n ca cb : Nat) (xs ys : List Int) (w : World) (hx : xs.length = n) (hy : ys.length = n) (dx : Dig xs) (dy : Dig ys) (rx : Rd w ao xs) (ry : Rd w bo ys) (hm : n ≤ 1000000) :
    Calls Try.prog 40 #[.slice ao n ca, .slice bo n cb] w (IntP (cmpI (val xs) (val ys)) w) := by
  go_enter Try.func40, Try.ntmps40
  go_wp2
  go_loopw [5] (fun i wr => ∃ k : Nat, k ≤ n ∧ i = .int .i64 ((k : Int) - 1) ∧ xs.drop k = ys.drop k ∧ Below w.heap.size w wr) (fun i _ => (intOf i + 1).toNat)
  case atStart => exact ⟨n, Nat.le_refl _, rfl, by rw [List.drop_of_length_le (by omega), List.drop_of_length_le (by omega)], Below.refl _ _⟩
  case round =>
    obtain ⟨k, hk, rfl, hz, hb⟩ := hrel
    have HX : Hid (xs.length = n) := hx
    have HY : Hid (ys.length = n) := hy
    have HDX : Hid (Dig xs) := dx
    have HDY : Hid (Dig ys) := dy
    have HZ : Hid (xs.drop k = ys.drop k) := hz
    have HRX : Hid (Rd w ao xs) := rx
    have HRY : Hid (Rd w bo ys) := ry
    clear hz rx ry dx dy hx hy
    by_cases hk0 : 0 < k
    · obtain ⟨m, rfl⟩ : ∃ m, k = m + 1 := ⟨k - 1, by omega⟩
      have hmx : m < xs.length := by have := HX.out; omega
      have hmy : m < ys.length := by have := HY.out; omega
      obtain ⟨b, off, rfl, hbl, hcx0⟩ := HRX.out m hmx
      obtain ⟨b', off', rfl, hbl', hcy0⟩ := HRY.out m hmy
      have hcx := (hb.cell (p := ⟨b, off + m, none⟩) hbl).trans hcx0
      have hcy := (hb.cell (p := ⟨b', off' + m, none⟩) hbl').trans hcy0
      clear hcx0 hcy0
      rw [show (((m + 1 : Nat) : Int) - 1) = (m : Int) by omega]
      have hmn : (m : Int) < n := by omega
      rcases Int.lt_trichotomy xs[m] ys[m] with hlt | heq | hgt
      · go_wp2
        go_quiet (fail)
        go_wp2
        go_ret
        exact ⟨ret_int (cmpI_lt (val_above HDX.out HDY.out m hmx hmy HZ.out hlt)), bdrew hb _⟩
      · have h1 : ¬ xs[m] < ys[m] := by omega
        have h2 : ¬ ys[m] < xs[m] := by omega
        have HE : Hid (xs[m] = ys[m]) := heq
        clear heq
        go_wp2
        go_quiet (fail)
        go_wp2
        go_quiet (fail)
        go_wp2
        go_roundw
        case rel => exact ⟨m, by omega, rfl, by rw [List.drop_eq_getElem_cons hmx, List.drop_eq_getElem_cons hmy, HZ.out, HE.out], bdrew hb _⟩
        case measure => simp [intOf]
      · have h1 : ¬ xs[m] < ys[m] := by omega
        go_wp2
        go_quiet (fail)
        go_wp2
        go_quiet (fail)
        go_wp2
        go_ret
        exact ⟨ret_int (cmpI_gt (val_above HDY.out HDX.out m hmy hmx HZ.out.symm hgt)), bdrew (bdrew hb _) _⟩
    · go_wp2
      go_ret
      exact ⟨ret_int (cmpI_eq (by
        have : k = 0 := by omega
        subst this
        have := HZ.out
        simp only [List.drop_zero] at this
        rw [this])), hb⟩
/-- l1CmpAbs of two numbers without a digit 0 at the high end. -/
theorem cmpAbs_any (ao bo : Option Addr) (n m ca cb : Nat) (xs ys : List Int) (w : World) (hx : xs.length = n) (hy : ys.length = m) (dx : Nrm xs) (dy : Nrm ys) (rx : Rd w ao xs) (ry : Rd w bo ys) (hm : n ≤ 1000000) (hm' : m ≤ 1000000) :
    Calls Try.prog 40 #[.slice ao n ca, .slice bo m cb] w (IntP (cmpI (val xs) (val ys)) w) := by
  rcases Nat.lt_trichotomy n m with h | h | h
  · exact cmpAbs_ne ao bo n m ca cb w hm hm' _ (Or.inl ⟨h, cmpI_lt (nrm_more dx dy (by omega))⟩)
  · subst h
    exact cmpAbs_eq ao bo n ca cb xs ys w hx hy dx.1 dy.1 rx ry hm
  · exact cmpAbs_ne ao bo n m ca cb w hm hm' _ (Or.inr ⟨h, cmpI_gt (nrm_more dy dx (by omega))⟩)
end Go.Proofs.Ytinilehbhdpdkaa
