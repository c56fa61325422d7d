/- The walk of the number's trimming. -/
import Derived.Test.YtinilehbhdpdkaaBase
namespace Go.Proofs.Ytinilehbhdpdkaa
open Go.RowKit
def TrimP (neg : Bool) (n : Nat) (ds : List Int) (w : World) (e : Ending) (w' : World) : Prop :=
  ∃ (neg' : Bool) (ao' : Option Addr) (n' cap' : Nat) (ds' : List Int), e = .returned (.agg #[.bool neg', .slice ao' n' cap']) ∧
      ds'.length = n' ∧ n' ≤ cap' ∧ n' ≤ n ∧ Nrm ds' ∧ val ds' = val ds ∧ neg' = (neg && decide (val ds ≠ 0)) ∧ Rd w' ao' ds' ∧ Below w.heap.size w w'
theorem trim_some (neg : Bool) (n cap : Nat) (ds : List Int) (w w' : World) {b off : Nat} (hn : ds.length = n) (hc : n ≤ cap) (hd : Dig ds) (hr : Rd w (some ⟨b, off, none⟩) ds) (m : Nat) (hm : m < ds.length) (h0 : ds[m] ≠ 0)
    (hz : ∀ j, m + 1 ≤ j → (h : j < ds.length) → ds[j] = 0) (hb : Below w.heap.size w w') :
    TrimP neg n ds w (.returned (.agg #[.bool neg, .slice (some ⟨b, off, none⟩) (m + 1) cap])) w' := by
  have hv := val_cut ds (m + 1) hz
  have hnr := nrm_take hd m hm h0
  refine ⟨neg, _, m + 1, cap, ds.take (m + 1), rfl, by simp; omega, by omega, by omega, hnr, hv, ?_, (hr.take _).below hb (Nat.le_refl _), hb⟩
  have hne : ds.take (m + 1) ≠ [] := by intro h; have := congrArg List.length h; simp at this; subst this; simp at hm
  have := nrm_pos hnr hne
  simp; intro _; omega
theorem trim_none (neg : Bool) (n : Nat) (ds : List Int) (w w' : World) (hz : ∀ j, (h : j < ds.length) → ds[j] = 0) (hb : Below w.heap.size w w') :
    TrimP neg n ds w (.returned (.agg #[.bool false, .slice none 0 0])) w' := by
  have hv := val_cut ds 0 (fun j _ h => hz j h)
  simp [val] at hv
  exact ⟨false, none, 0, 0, [], rfl, rfl, Nat.le_refl _, Nat.zero_le _, nrm_nil, by simp [val, ← hv], by simp [← hv], Rd.nil _ _, hb⟩
set_option maxHeartbeats 400000 in
theorem trim_any (neg : Bool) (ao : Option Addr) (n cap : Nat) (ds : List Int) (w : World) (hn : ds.length = n) (hc : n ≤ cap) (hd : Dig ds) (hr : Rd w ao ds) (hm : n ≤ 1000000000) :
    Calls Try.prog 33 #[.bool neg, .slice ao n cap] w (TrimP neg n ds w) := by
  go_enter Try.func33, Try.ntmps33
  go_wp2
  go_loop [5] (fun i => ∃ k : Nat, k ≤ n ∧ i = .int .i64 k ∧ ∀ j, k ≤ j → (h : j < ds.length) → ds[j] = 0) (fun i => (intOf i).toNat)
  case atStart => exact ⟨n, Nat.le_refl _, rfl, fun j h1 h2 => by omega⟩
  case round =>
    obtain ⟨k, hk, rfl, hz⟩ := hrel
    have HN : Hid (ds.length = n) := hn
    have HD : Hid (Dig ds) := hd
    have HZ : Hid (∀ j, k ≤ j → (h : j < ds.length) → ds[j] = 0) := hz
    have HR : Hid (Rd w ao ds) := hr
    clear hz hr hd hn
    by_cases hk0 : 0 < k
    · obtain ⟨m, rfl⟩ : ∃ m, k = m + 1 := ⟨k - 1, by omega⟩
      have hml : m < ds.length := by have := HN.out; omega
      obtain ⟨b, off, rfl, hbl, hcell0⟩ := HR.out m hml
      have hcell := cell_alloc (o := Obj.cells #[Value.bool false, Value.slice none 0 0] 47) hbl hcell0
      clear hcell0
      go_wp2
      · go_round
        case rel =>
          have h0 : (ds[m] == 0) = true := by assumption
          exact ⟨m, by omega, by go_num, fun j h1 h2 => by
            by_cases e : j = m
            · subst e; simpa using h0
            · exact HZ.out j (by omega) h2⟩
        case measure => simp [intOf]
      · refine bodyPost_ret (v := .agg #[.bool neg, .slice (some ⟨b, off, none⟩) (m + 1) cap]) (by simp [results, Try.results33, go_sem]) rfl ?_
        have h0 : (ds[m] == 0) = false := by assumption
        exact trim_some neg n cap ds w _ HN.out hc HD.out HR.out m hml (by simpa using h0) HZ.out ((Below.refl _ _).alloc (Nat.le_refl _) _)
    · go_wp2
      refine bodyPost_ret (v := .agg #[.bool false, .slice none 0 0]) (by simp [results, Try.results33, go_sem]) rfl ?_
      exact trim_none neg n ds w _ (fun j h => HZ.out j (by omega) h) ((Below.refl _ _).alloc (Nat.le_refl _) _)
end Go.Proofs.Ytinilehbhdpdkaa
