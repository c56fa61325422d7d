/- The walk of the sum of two rows of words. -/
import Derived.Test.YtinilehbhdpdkaaWord
import Derived.BigRegion
namespace Go.Proofs.Ytinilehbhdpdkaa
open Go.RowKit
structure AwI (w wr : World) (A oa n : Nat) (xs ys : List Int) (k : Nat) (c : Int) (zs : List Int) : Prop where
  len : zs.length = k
  wds : Words zs
  eq : val64 zs + c * pw64 k = val64 (xs.take k) + val64 (ys.take k)
  row : Row wr A oa (zs ++ xs.drop k)
  wrote : Wrote A oa n w wr
def AddWP (A oa n : Nat) (xs ys : List Int) (w : World) (e : Ending) (w' : World) : Prop :=
  ∃ (zs : List Int) (c : Int), e = .returned (.tuple #[]) ∧ zs.length = n ∧ Words zs ∧ 0 ≤ c ∧ c ≤ 1 ∧ val64 zs + c * pw64 n = val64 xs + val64 ys ∧ Row w' A oa zs ∧ Wrote A oa n w w'
theorem aw_cell {w wr : World} {A oa n : Nat} {xs ys : List Int} {k : Nat} {c : Int} {zs : List Int} (h : AwI w wr A oa n xs ys k c zs) (hk : k < xs.length) : wr.cell? ⟨A, oa + k, none⟩ = some (.int .u64 xs[k]) ∧ wr.frozen? ⟨A, oa + k, none⟩ = false := by
  have hl : k < (zs ++ xs.drop k).length := by simp [h.len]; omega
  refine ⟨?_, h.row.frz k hl⟩
  rw [h.row.cell k hl]
  have : (zs ++ xs.drop k)[k] = xs[k] := by have := h.len; rw [List.getElem_append_right (by omega)]; simp [h.len]
  rw [this]
theorem row_set {w : World} {A off : Nat} {zs t : List Int} {x : Int} (h : Row w A off (zs ++ x :: t)) (u : Int) : Row (w.setCell ⟨A, off + zs.length, none⟩ (.int .u64 u)) A off ((zs ++ [u]) ++ t) := by
  have hc := h.cell zs.length (by simp)
  refine ⟨fun i hi => ?_, fun i hi => ?_, by simpa [World.setCell] using h.lt⟩
  · by_cases he : i = zs.length
    · subst he
      rw [World.cell?_setCell_same _ _ _ hc]
      simp
    · rw [World.cell?_setCell_other _ _ _ _ (by intro e; simp only [Addr.mk.injEq] at e; omega), h.cell i (by simp at hi ⊢; omega)]
      congr 2
      simp only [List.append_assoc, List.cons_append, List.nil_append]
      rcases Nat.lt_or_ge i zs.length with h1 | h1
      · rw [List.getElem_append_left h1, List.getElem_append_left h1]
      · rw [List.getElem_append_right h1, List.getElem_append_right h1]
        obtain ⟨j, hj⟩ : ∃ j, i - zs.length = j + 1 := ⟨i - zs.length - 1, by omega⟩
        simp [hj]
  · have := h.frz i (by simp at hi ⊢; omega)
    rw [← this]; simp [go_sem]
theorem row_drew {w : World} {A off : Nat} {xs : List Int} (h : Row w A off xs) : Row w.drew A off xs := ⟨h.cell, h.frz, h.lt⟩
theorem aw_step {w wr : World} {A oa n : Nat} {xs ys : List Int} {k : Nat} {c : Int} {zs : List Int} (h : AwI w wr A oa n xs ys k c zs) (hk : k < xs.length) (hk' : k < ys.length) (hn : k < n) (u c' : Int) (hu : u = (xs[k] + ys[k] + c) % 18446744073709551616) (hc : c' = (xs[k] + ys[k] + c) / 18446744073709551616) :
    AwI w (wr.setCell ⟨A, oa + k, none⟩ (.int .u64 u)) A oa n xs ys (k + 1) c' (zs ++ [u]) := by
  refine ⟨by simp [h.len], words_append.2 ⟨h.wds, ?_⟩, ?_, ?_, h.wrote.set _ ⟨by omega, by omega⟩ _⟩
  · intro d hd; simp only [List.mem_singleton] at hd; subst hd; rw [hu]; exact ⟨by omega, by omega⟩
  · rw [val64_snoc, h.len, val64_take xs k hk, val64_take ys k hk', pw64]
    have e := h.eq
    have e1 : u + 18446744073709551616 * c' = xs[k] + ys[k] + c := by omega
    have e2 : pw64 k * u + c' * (18446744073709551616 * pw64 k) = pw64 k * (xs[k] + ys[k] + c) := by rw [← e1]; grind
    have e3 : pw64 k * (xs[k] + ys[k] + c) = pw64 k * xs[k] + pw64 k * ys[k] + c * pw64 k := by grind
    omega
  · have hr := h.row
    rw [List.drop_eq_getElem_cons hk] at hr
    have := row_set hr u
    rw [h.len] at this
    exact this
theorem aw_drew {w wr : World} {A oa n : Nat} {xs ys : List Int} {k : Nat} {c : Int} {zs : List Int} (h : AwI w wr A oa n xs ys k c zs) : AwI w wr.drew A oa n xs ys k c zs := ⟨h.len, h.wds, h.eq, row_drew h.row, h.wrote.drew⟩
theorem aw_done {w wr : World} {A oa n : Nat} {xs ys : List Int} {c : Int} {zs : List Int} (h : AwI w wr A oa n xs ys n c zs) (hx : xs.length = n) (hy : ys.length = n) (hc0 : 0 ≤ c) (hc1 : c ≤ 1) : AddWP A oa n xs ys w (.returned (.tuple #[])) wr := by
  refine ⟨zs, c, rfl, h.len, h.wds, hc0, hc1, ?_, ?_, h.wrote⟩
  · have := h.eq
    rwa [List.take_of_length_le (by omega), List.take_of_length_le (by omega)] at this
  · have := h.row
    rwa [List.drop_of_length_le (by omega), List.append_nil] at this
set_option maxRecDepth 100000 in
set_option maxHeartbeats 2000000 in
theorem addWords_any (A B oa ob n ca cc cb : Nat) (xs ys : List Int) (w : World) (hx : xs.length = n) (hy : ys.length = n) (wx : Words xs) (wy : Words ys) (rx : Row w A oa xs) (ry : Row w B ob ys) (hAB : B ≠ A) (hn : n ≤ 1000) :
    Calls Try.prog 39 #[.slice (some ⟨A, oa, none⟩) n ca, .slice (some ⟨A, oa, none⟩) n cc, .slice (some ⟨B, ob, none⟩) n cb] w (AddWP A oa n xs ys w) := by
  have HX : Hid (xs.length = n) := hx
  have HY : Hid (ys.length = n) := hy
  have HS : AwI w w A oa n xs ys 0 0 [] := ⟨rfl, by intro d hd; simp at hd, by simp [val64], by simpa using rx, Wrote.refl _ _ _ _⟩
  have HRY : Hid (Row w B ob ys) := ry
  have HWX : Hid (Words xs) := wx
  have HWY : Hid (Words ys) := wy
  clear hx hy wx wy rx ry
  go_enter Try.func39, Try.ntmps39
  go_wp2
  go_loopw [6, 10] (fun cr i wr => ∃ (k : Nat) (c : Int) (zs : List Int), k ≤ n ∧ i = .int .i64 k ∧ 0 ≤ c ∧ c ≤ 1 ∧ cr = .int .u64 c ∧ AwI w wr A oa n xs ys k c zs) (fun _ i _ => n - (intOf i).toNat)
  case atStart => exact ⟨0, 0, [], Nat.zero_le _, rfl, by decide, by decide, rfl, HS⟩
  case round =>
    obtain ⟨k, c, zs, hk, rfl, hc0, hc1, rfl, hI⟩ := hrel
    clear HS
    by_cases hkn : k < n
    · have hkx : k < xs.length := by have := HX.out; omega
      have hky : k < ys.length := by have := HY.out; omega
      obtain ⟨hcx, hfx⟩ := aw_cell hI hkx
      have hcy := (hI.wrote.cellOther hAB (ob + k)).trans (HRY.out.cell k hky)
      have vx := words_at HWX.out k hkx
      have vy := words_at HWY.out k hky
      obtain ⟨u, hu⟩ : ∃ u, u = (xs[k] + ys[k] + c) % 18446744073709551616 := ⟨_, rfl⟩
      obtain ⟨c', hc'⟩ : ∃ c', c' = (xs[k] + ys[k] + c) / 18446744073709551616 := ⟨_, rfl⟩
      have hadd := fun wx => add64 xs[k] ys[k] c vx vy hc0 hc1 wx
      rw [← hu, ← hc'] at hadd
      have R := aw_step hI hkx hky hkn u c' hu hc'
      have hb0 : 0 ≤ c' := by have := vx.1; have := vy.1; omega
      have hb1 : c' ≤ 1 := by have := vx.2; have := vy.2; omega
      clear hI vx vy hu hc'
      have hkn' : (k : Int) < n := by omega
      go_wp2
      go_region
      go_wp2
      go_roundw
      case rel => exact ⟨k + 1, c', _, by omega, by go_num, hb0, hb1, rfl, by first | exact R | exact aw_drew R⟩
      case measure => simp [intOf]; omega
    · obtain rfl : k = n := by omega
      have R := aw_done hI HX.out HY.out hc0 hc1
      clear hI
      go_wp2
      go_end0
      exact R
end Go.Proofs.Ytinilehbhdpdkaa
