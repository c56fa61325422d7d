/- Part 13 of the walks that the proof leans on. -/
import Derived.Test.YtbhhegmlfclhbaaPart4
import Derived.Test.YtbhhegmlfclhbaaPart12
import Derived.WalkSmall
import Derived.Test.YtbhhegmlfclhbaaPart9
import Derived.Test.YtbhhegmlfclhbaaPart8
import Derived.Test.YtbhhegmlfclhbaaPart3
import Derived.Test.YtbhhegmlfclhbaaPart2
import Derived.Lib.AppendZeros
/- Rows of segments: copied and held against one another; the law of what is at fault in them. -/
namespace Go.Proofs.Ytbhhegmlfclhbaa
open Go.RowKit
theorem row_step {w w' : World} {g n : Nat} {T : TypeId} {f : Nat → Value} (h : w.rowIs g T n f) (hB : Below w.heap.size w w') : w'.rowIs g T n f := h.of_block (hB.block g h.lt)
end Go.Proofs.Ytbhhegmlfclhbaa

/- Rows of segments: the law of what is at fault in them. -/
namespace Go.Proofs.Ytbhhegmlfclhbaa
open Go.RowKit
end Go.Proofs.Ytbhhegmlfclhbaa

/- Rows of numbers: how they lie; copied, held against one another. -/
namespace Go.Proofs.Ytbhhegmlfclhbaa
open Go.RowKit
/-- n numbers lie behind a slice's address. -/
def NoIn (w : World) (ao : Option Addr) (n : Nat) (x : Nat → Int) : Prop :=
  ∀ i, i < n → ∃ A off, ao = some ⟨A, off, none⟩ ∧ A < w.heap.size ∧ w.cell? ⟨A, off + i, none⟩ = some (.int .i64 (x i))
theorem NoIn.step {w w' : World} {ao : Option Addr} {n : Nat} {x : Nat → Int} (h : NoIn w ao n x) (hB : Below w.heap.size w w') : NoIn w' ao n x := fun i hi => by
  obtain ⟨A, off, e, hA, hc⟩ := h i hi
  exact ⟨A, off, e, Nat.lt_of_lt_of_le hA hB.size, (hB.cell (p := ⟨A, off + i, none⟩) hA).trans hc⟩
end Go.Proofs.Ytbhhegmlfclhbaa

/- Answers that own their rows of numbers: held against one another, marked, held again; a row of segments marked. -/
namespace Go.Proofs.Ytbhhegmlfclhbaa
open Go.RowKit
/-- A slice of the call's own, with these numbers. -/
def NoOwn (w : World) (base : Nat) (v : Value) (L : List Int) : Prop :=
  (v = .slice none 0 0 ∧ L = []) ∨ ∃ g cap f, v = .slice (some ⟨g, 0, none⟩) L.length cap ∧ base ≤ g ∧ L.length ≤ cap ∧ w.rowIs g 2 cap f ∧ ∀ i, i < L.length → f i = .int .i64 (L.getD i 0)
theorem NoOwn.step {w w' : World} {base : Nat} {v : Value} {L : List Int} (h : NoOwn w base v L) (hB : Below w.heap.size w w') : NoOwn w' base v L := by
  rcases h with h | ⟨g, cap, f, h1, h2, h3, h4, h5⟩
  · exact .inl h
  · exact .inr ⟨g, cap, f, h1, h2, h3, row_step h4 hB, h5⟩
theorem NoOwn.of {w : World} {base : Nat} {v : Value} {L : List Int} (h : w.ownsRow base 2 1 v L.length (L.map (Value.int .i64))) : NoOwn w base v L := by
  rcases h.2 with ⟨h1, h2⟩ | ⟨g, cap, cur, h1, h2, h3, h4, h5, h6, h7⟩
  · exact .inl ⟨h1, List.length_eq_zero_iff.1 h2⟩
  · refine .inr ⟨g, cap, fun i => cur.getD i undef, h1, h2, h4, ⟨cur, h3, by omega, fun i hi => ?_⟩, fun i hi => ?_⟩
    · simp [Array.getD_eq_getD_getElem?, show i < cur.size by omega]
    · have e : (cur.toList.take (L.length * 1))[i]? = (L.map (Value.int .i64))[i]? := by rw [h7]
      rw [List.getElem?_take_of_lt (by omega), List.getElem?_map, List.getElem?_eq_getElem hi] at e
      simp only [Array.getElem?_toList, Option.map_some] at e
      show cur.getD i undef = _
      rw [Array.getD_eq_getD_getElem?, e]
      simp [List.getD_eq_getElem?_getD, hi]
/-- The slice's own parts, and that its numbers lie there. -/
theorem NoOwn.in {w : World} {base : Nat} {v : Value} {L : List Int} (h : NoOwn w base v L) : ∃ ao cap, v = .slice ao L.length cap ∧ NoIn w ao L.length (fun i => L.getD i 0) := by
  rcases h with ⟨h1, h2⟩ | ⟨g, cap, f, h1, h2, h3, h4, h5⟩
  · subst h2
    exact ⟨none, 0, h1, fun i hi => by simp at hi⟩
  · exact ⟨some ⟨g, 0, none⟩, cap, h1, fun i hi => ⟨g, 0, rfl, h4.lt, by rw [Nat.zero_add, h4.cell (by omega), h5 i hi]⟩⟩
/-- No block has turned but one of those that a base leaves free. -/
def OtherB (h : Option Nat) (w w' : World) : Prop :=
  (∀ g, some g ≠ h → g < w.heap.size → w'.heap[g]? = w.heap[g]?) ∧ w.heap.size ≤ w'.heap.size ∧ ∀ w0 : World, (∀ g, h = some g → w0.heap.size ≤ g) → Below w0.heap.size w0 w → Below w0.heap.size w0 w'
theorem OtherB.row {h : Option Nat} {w w' : World} (k : OtherB h w w') {g n : Nat} {T : TypeId} {f : Nat → Value} (hne : some g ≠ h) (r : w.rowIs g T n f) : w'.rowIs g T n f := r.of_block (k.1 g hne r.lt)
theorem OtherB.own {h : Option Nat} {w w' : World} (k : OtherB h w w') {base : Nat} {v : Value} {L : List Int} (r : NoOwn w base v L) (hne : ∀ g, v.ownBlock = some g → some g ≠ h) : NoOwn w' base v L := by
  rcases r with r | ⟨g, cap, f, h1, h2, h3, h4, h5⟩
  · exact .inl r
  · exact .inr ⟨g, cap, f, h1, h2, h3, k.row (hne g (by subst h1; rfl)) h4, h5⟩
theorem OtherB.blk {h : Option Nat} {w w' : World} (k : OtherB h w w') {g : Nat} {vs : List Value} (hne : some g ≠ h) (r : Blk w g vs) : Blk w' g vs := by
  refine ⟨Nat.lt_of_lt_of_le r.lt k.2.1, fun i v hi => ⟨?_, ?_⟩⟩
  · have := r.c i hi
    unfold World.cell? at this ⊢
    simp only [k.1 g hne r.lt]
    exact this
  · have := r.f i hi
    unfold World.frozen? at this ⊢
    simp only [k.1 g hne r.lt]
    exact this
theorem OtherB.refl (h : Option Nat) (w : World) : OtherB h w w := ⟨fun _ _ _ => rfl, Nat.le_refl _, fun _ _ H => H⟩
theorem OtherB.set {h : Nat} {w w' : World} (k : OtherB (some h) w w') (i : Nat) (v : Value) : OtherB (some h) w (w'.setCell ⟨h, i, none⟩ v) := by
  refine ⟨fun g hne hg => ?_, by simpa [World.setCell] using k.2.1, fun w0 hb H => (k.2.2 w0 hb H).setCell (by exact hb h rfl) _⟩
  rw [Below.heap_setCell _ _ _ _ (fun e => hne (congrArg some e))]
  exact k.1 g hne hg
theorem OtherB.step {h : Option Nat} {w w' w'' : World} (k : OtherB h w w') (hB : Below w'.heap.size w' w'') : OtherB h w w'' :=
  ⟨fun g hne hg => (hB.block g (Nat.lt_of_lt_of_le hg k.2.1)).trans (k.1 g hne hg), Nat.le_trans k.2.1 hB.size, fun w0 hb H => (k.2.2 w0 hb H).trans (hB.mono (k.2.2 w0 hb H).size)⟩
end Go.Proofs.Ytbhhegmlfclhbaa

/- Rings that are turned: the program's reversal. -/
namespace Go.Proofs.Ytbhhegmlfclhbaa
open Go.RowKit
theorem OtherB.drew {h : Option Nat} {w w' : World} (k : OtherB h w w') : OtherB h w w'.drew := ⟨k.1, k.2.1, fun w0 hb H => (k.2.2 w0 hb H).drew⟩
set_option maxRecDepth 100000 in
set_option maxHeartbeats 4000000 in
theorem reverse_any (g n cap : Nat) (p : Ps) (f : Nat → Value) (hn3 : 3 ≤ n) (hn : n ≤ 1048576) (hcap : n ≤ cap) (w : World) (R : w.rowIs g 38 (cap * 2) f) (hf : ∀ k, k < n * 2 → f k = .int .i64 (spW p k)) :
    Calls Try.prog 47 #[.slice (some ⟨g, 2, none⟩) (n - 1) (cap - 1)] w (fun e w' => e = .returned (.tuple #[]) ∧ (∃ f', w'.rowIs g 38 (cap * 2) f' ∧ ∀ k, k < n * 2 → f' k = .int .i64 (spW (turnP n p) k)) ∧ OtherB (some g) w w') := by
  obtain ⟨m, rfl⟩ : ∃ m, n = m + 3 := ⟨n - 3, by omega⟩
  have HR : Hid (w.rowIs g 38 (cap * 2) f ∧ ∀ k, k < (m + 3) * 2 → f k = .int .i64 (spW p k)) := ⟨R, hf⟩
  clear R hf
  rw [show m + 3 - 1 = m + 2 by omega]
  have hmI : (m : Int) + 2 ≤ 1048576 := by omega
  go_enter Try.func47, Try.ntmps47
  go_wp2_with fail
  go_loopw [2, 3] (fun a b wr => ∃ i j : Nat, a = .int .i64 i ∧ b = .int .i64 j ∧ i + j = m + 1 ∧ i ≤ j + 1 ∧ (∃ f', wr.rowIs g 38 (cap * 2) f' ∧ ∀ k, k < (m + 3) * 2 → f' k = .int .i64 (spW (revP (m + 3) p i) k)) ∧ OtherB (some g) w wr) (fun a b _ => (intOf b + 2 - intOf a).toNat)
  case atStart => exact ⟨0, m + 1, rfl, by go_num, by omega, by omega, ⟨f, HR.out.1, fun k hk => by rw [HR.out.2 k hk, spW_congr (fun i hi => (revP_zero p hi).symm) hk]⟩, OtherB.refl _ _⟩
  case round =>
    obtain ⟨i, j, rfl, rfl, hij, hle, ⟨f', R, hf'⟩, K⟩ := hrel
    by_cases hlt : i < j
    · have hltI : (i : Int) < j := by omega
      have x0 := R.cell (i := 2 + i * 2) (by omega); have x1 := R.cell (i := 2 + i * 2 + 1) (by omega)
      have y0 := R.cell (i := 2 + j * 2) (by omega); have y1 := R.cell (i := 2 + j * 2 + 1) (by omega)
      rw [hf' _ (by omega)] at x0 x1 y0 y1
      have xf0 := R.frozen (2 + i * 2); have xf1 := R.frozen (2 + i * 2 + 1); have yf0 := R.frozen (2 + j * 2); have yf1 := R.frozen (2 + j * 2 + 1)
      have HF : Hid (∀ k, k < (m + 3) * 2 → f' k = .int .i64 (spW (revP (m + 3) p i) k)) := hf'
      have HRR : Hid (wr.rowIs g 38 (cap * 2) f') := R
      have HKK : Hid (OtherB (some g) w wr) := K
      clear R K hf' HR
      have hb : i < m + 2 := by omega
      have hb2 : j < m + 2 := by omega
      go_upto_region 3 with fail
      go_region
      have RN := (((HRR.out.set (2 + i * 2) (.int .i64 (spW (revP (m + 3) p i) (2 + j * 2)))).set (2 + i * 2 + 1) (.int .i64 (spW (revP (m + 3) p i) (2 + j * 2 + 1)))).set (2 + j * 2) (.int .i64 (spW (revP (m + 3) p i) (2 + i * 2)))).set (2 + j * 2 + 1) (.int .i64 (spW (revP (m + 3) p i) (2 + i * 2 + 1)))
      have KN := ((((HKK.out.set (2 + i * 2) (.int .i64 (spW (revP (m + 3) p i) (2 + j * 2)))).set (2 + i * 2 + 1) (.int .i64 (spW (revP (m + 3) p i) (2 + j * 2 + 1)))).set (2 + j * 2) (.int .i64 (spW (revP (m + 3) p i) (2 + i * 2)))).set (2 + j * 2 + 1) (.int .i64 (spW (revP (m + 3) p i) (2 + i * 2 + 1)))).drew
      have RD : ∃ f', (((((wr.setCell ⟨g, 2 + i * 2, none⟩ (.int .i64 (spW (revP (m + 3) p i) (2 + j * 2)))).setCell ⟨g, 2 + i * 2 + 1, none⟩ (.int .i64 (spW (revP (m + 3) p i) (2 + j * 2 + 1)))).setCell ⟨g, 2 + j * 2, none⟩ (.int .i64 (spW (revP (m + 3) p i) (2 + i * 2)))).setCell ⟨g, 2 + j * 2 + 1, none⟩ (.int .i64 (spW (revP (m + 3) p i) (2 + i * 2 + 1)))).drew).rowIs g 38 (cap * 2) f' ∧ ∀ k, k < (m + 3) * 2 → f' k = .int .i64 (spW (revP (m + 3) p (i + 1)) k) := ⟨_, RN.drew, fun k hk => revP_step p (by omega) hlt f' HF.out hk⟩
      clear RN HF HRR HKK x0 x1 y0 y1 xf0 xf1 yf0 yf1
      revert KN RD
      generalize ((((wr.setCell ⟨g, 2 + i * 2, none⟩ (.int .i64 (spW (revP (m + 3) p i) (2 + j * 2)))).setCell ⟨g, 2 + i * 2 + 1, none⟩ (.int .i64 (spW (revP (m + 3) p i) (2 + j * 2 + 1)))).setCell ⟨g, 2 + j * 2, none⟩ (.int .i64 (spW (revP (m + 3) p i) (2 + i * 2)))).setCell ⟨g, 2 + j * 2 + 1, none⟩ (.int .i64 (spW (revP (m + 3) p i) (2 + i * 2 + 1)))) = W1
      intro KN RD
      have HKN : Hid (OtherB (some g) w W1.drew) := KN
      have HRD : Hid (∃ f', (W1.drew).rowIs g 38 (cap * 2) f' ∧ ∀ k, k < (m + 3) * 2 → f' k = .int .i64 (spW (revP (m + 3) p (i + 1)) k)) := RD
      clear KN RD
      go_wp2
      go_roundw
      case rel => exact ⟨i + 1, j - 1, by go_num, by congr 1; omega, by omega, by omega, HRD.out, HKN.out⟩
      case measure => simp [intOf]; omega
    · have hltI : ¬ ((i : Int) < j) := by omega
      have HF : Hid (∀ k, k < (m + 3) * 2 → f' k = .int .i64 (spW (turnP (m + 3) p) k)) := fun k hk => by rw [hf' k hk, spW_congr (fun t ht => revP_end p (by omega) ht) hk]
      clear hf'
      go_wp2
      go_end0
      exact ⟨rfl, ⟨f', R, HF.out⟩, K⟩
end Go.Proofs.Ytbhhegmlfclhbaa

/- Rings that are turned: both sides' answers. -/
namespace Go.Proofs.Ytbhhegmlfclhbaa
open Go.RowKit
/-- A ring of its own memory. -/
def RingP (n : Nat) (p : Ps) (w : World) (e : Ending) (w' : World) : Prop := ∃ v, e = .returned (.agg #[v]) ∧ SpOwn w' w.heap.size v n p ∧ Below w.heap.size w w'
theorem SpOwn.mono {w : World} {b b' : Nat} {v : Value} {n : Nat} {p : Ps} (h : SpOwn w b' v n p) (hb : b ≤ b') : SpOwn w b v n p := by
  rcases h with h | ⟨g, cap, f, h1, h2, h3⟩
  · exact .inl h
  · exact .inr ⟨g, cap, f, h1, by omega, h3⟩
set_option maxRecDepth 100000 in
set_option maxHeartbeats 2000000 in
theorem turned_in (g n cap : Nat) (p : Ps) (hn3 : 3 ≤ n) (hn : n ≤ 1048576) (w : World) (R : SpIn w (some ⟨g, 0, none⟩) n p) :
    Calls Try.prog 24 #[.agg #[.slice (some ⟨g, 0, none⟩) n cap]] w (RingP n (turnP n p) w) := by
  have C1 := fun w h => clone_in g n cap p hn w h
  go_enter Try.func24, Try.ntmps24
  go_wp2_with fail
  have HB0 : Below w.heap.size w ((w.alloc (.cells #[.slice (some ⟨g, 0, none⟩) n cap] 26)).alloc (.cells #[.slice none 0 0] 26)) := ((Below.refl _ _).alloc (Nat.le_refl _) _).alloc (by simp) _
  have BR : Blk ((w.alloc (.cells #[.slice (some ⟨g, 0, none⟩) n cap] 26)).alloc (.cells #[.slice none 0 0] 26)) (w.heap.size + 1) [.slice none 0 0] := Blk.new (w.alloc (.cells #[.slice (some ⟨g, 0, none⟩) n cap] 26)) [.slice none 0 0] 26 (by simp)
  have hz : ((w.alloc (.cells #[.slice (some ⟨g, 0, none⟩) n cap] 26)).alloc (.cells #[.slice none 0 0] 26)).heap.size = w.heap.size + 1 + 1 := by simp
  have R0 := R.step HB0
  revert HB0 BR hz R0
  generalize ((w.alloc (.cells #[.slice (some ⟨g, 0, none⟩) n cap] 26)).alloc (.cells #[.slice none 0 0] 26)) = W2
  intro HB0 BR hz R0
  refine (C1 _ R0).mono ?_
  rintro e w1 ⟨v, rfl, hne, hown, hB⟩
  replace HB0 := HB0.trans (hB.mono HB0.size)
  replace BR := BR.step hB
  clear R R0 C1 hB
  rcases SpOwn.of hown with ⟨h1, _⟩ | ⟨g', cap', f, rfl, hg', hc', hm', R, hf⟩
  · exact absurd h1 hne
  clear hown hne
  rw [hz] at hg'
  have C2 := reverse_any g' n cap' p f hn3 hn hc' w1 R hf
  have h1c : 1 ≤ cap' := by omega
  have hn1 : 1 ≤ n := by omega
  have hmm := hm'
  unfold maxLen at hmm
  clear R hf
  go_wp2_with fail
  refine C2.mono ?_
  rintro e w2 ⟨rfl, ⟨f', R, hf⟩, K⟩
  clear C2
  replace HB0 := K.2.2 w (fun k hk => by cases hk; omega) HB0
  replace BR := K.blk (fun e => by have := Option.some.inj e; omega) BR
  have HO : Hid (SpOwn w2 w.heap.size (.slice (some ⟨g', 0, none⟩) n cap') n (turnP n p)) := .inr ⟨g', cap', f', rfl, by omega, hc', hm', R, hf⟩
  have r0 := BR.c 0 rfl; have rf := BR.f 0 rfl; have rl := BR.lt
  clear R hf K BR
  go_wp2
  refine bodyPost_ret (v := .agg #[.slice (some ⟨g', 0, none⟩) n cap']) (by simp [results, Try.results24, go_sem, r0]) rfl ?_
  refine ⟨_, rfl, ?_, HB0.setCell (by simp) _⟩
  rcases HO.out with ⟨h, _⟩ | ⟨g2, c2, f2, h1, h2, h3, h4, R, h6⟩
  · cases h
  · cases h1
    exact .inr ⟨g', cap', f2, rfl, h2, h3, h4, R.setOther (by simp; omega) _, h6⟩
def tuN (n : Nat) (p : Ps) : Nat := if rgF n p = 0 then n else 0
end Go.Proofs.Ytbhhegmlfclhbaa

/- Areas of rings: the walks of both sides. -/
namespace Go.Proofs.Ytbhhegmlfclhbaa
open Go.RowKit
set_option maxRecDepth 100000 in
set_option maxHeartbeats 4000000 in
theorem ringRight_any (ao : Option Addr) (n cap : Nat) (p : Ps) (hn : n ≤ 1048576) (hcap : n ≤ cap) (hcap2 : cap ≤ 9223372036854775807) (w : World) (hS : SpIn w ao n p) : Calls Try.prog 22 #[.agg #[.slice ao n cap]] w (VP (.bool (rgF n p == 0)) w) := by
  have HB : Below w.heap.size w (w.alloc (.cells #[.slice ao n cap] 26)) := (Below.refl _ w).alloc (Nat.le_refl _) _
  have b0 := (Blk.new w [.slice ao n cap] 26 rfl).c 0 rfl
  have RF := fun w h => implRingFault_any ao n cap p hn hcap hcap2 w h
  have HS := hS.step HB
  go_enter Try.func22, Try.ntmps22
  go_upto_region 1 with fail
  generalize (w.alloc (.cells #[.slice ao n cap] 26)) = W at *
  generalize rgF n p = f at *
  go_wp2_with fail
  refine (RF _ HS).mono ?_
  rintro e w1 ⟨rfl, hB⟩
  replace HB := HB.trans (hB.mono HB.size)
  clear hB RF HS b0 hS
  go_wp2
  go_ret
  exact ⟨rfl, HB⟩
theorem rgF_okA {n : Nat} {p : Ps} (h : rgF n p = 0) : 3 ≤ n ∧ n ≤ 12 ∧ (∀ i, i < n → spotOk (p i).1 (p i).2 = true) ∧ OneN n p := by
  unfold rgF at h
  by_cases h1 : n < 3
  · rw [if_pos h1] at h; omega
  rw [if_neg h1] at h
  by_cases h2 : 12 < n
  · rw [if_pos h2] at h; omega
  rw [if_neg h2] at h
  by_cases h3 : ∀ i, i < n → spotOk (p i).1 (p i).2 = true
  · rw [if_neg (fun hh => hh h3)] at h
    by_cases h4 : OneN n p
    · exact ⟨by omega, by omega, h3, h4⟩
    · rw [if_pos h4] at h; omega
  · rw [if_pos h3] at h; omega
/-- Twice the area of the first sides. -/
def arA (n : Nat) (p : Ps) : Nat → Int
  | 0 => 0
  | c + 1 => arA n p c + ((p c).1 * (p ((c + 1) % n)).2 - (p c).2 * (p ((c + 1) % n)).1)
theorem cross_bnd {a b x y : Int} (h1 : spotOk a b = true) (h2 : spotOk x y = true) : -1000000000000 ≤ a * y ∧ a * y ≤ 1000000000000 ∧ -1000000000000 ≤ b * x ∧ b * x ≤ 1000000000000 := by
  obtain ⟨⟨a1, a2⟩, b1, b2⟩ := in1_of h1
  obtain ⟨⟨x1, x2⟩, y1, y2⟩ := in1_of h2
  have e1 := mul_in (p := a) (q := y) (M := 1000000) (N := 1000000) a1 a2 y1 y2
  have e2 := mul_in (p := b) (q := x) (M := 1000000) (N := 1000000) b1 b2 x1 x2
  omega
theorem arA_bnd {n : Nat} {p : Ps} (hok : ∀ i, i < n → spotOk (p i).1 (p i).2 = true) : ∀ c, c ≤ n → -(c * 2000000000000 : Int) ≤ arA n p c ∧ arA n p c ≤ c * 2000000000000
  | 0, _ => by simp [arA]
  | c + 1, h => by
    have ih := arA_bnd hok c (by omega)
    have hb := cross_bnd (hok c (by omega)) (hok ((c + 1) % n) (Nat.mod_lt _ (by omega)))
    rw [arA]
    omega
set_option maxRecDepth 100000 in
set_option maxHeartbeats 4000000 in
theorem area2_any (ao : Option Addr) (n cap : Nat) (p : Ps) (hn : n ≤ 12) (hok : ∀ i, i < n → spotOk (p i).1 (p i).2 = true) (w : World) (hS : SpIn w ao n p) : Calls Try.prog 23 #[.agg #[.slice ao n cap]] w (VP (.int .i64 (arA n p n)) w) := by
  have B0 := Blk.new w [.slice ao n cap] 26 rfl
  have HB0 : Below w.heap.size w (w.alloc (.cells #[.slice ao n cap] 26)) := (Below.refl _ w).alloc (Nat.le_refl _) _
  have hmI : (n : Int) ≤ 12 := by omega
  have HS : Hid (SpIn (w.alloc (.cells #[.slice ao n cap] 26)) ao n p) := hS.step HB0
  clear hS
  go_enter Try.func23, Try.ntmps23
  have b0 := B0.c 0 rfl
  go_wp2_with fail
  generalize (w.alloc (.cells #[.slice ao n cap] 26)) = W1 at *
  go_loopw [3, 9] (fun o i wr => ∃ (c : Nat) (t : Int), c ≤ n ∧ i = .int .i64 c ∧ o = .int .i64 t ∧ Hid (t = arA n p c) ∧ Below W1.heap.size W1 wr) (fun _ i _ => n - (intOf i).toNat)
  case atStart => exact ⟨0, 0, by omega, rfl, rfl, rfl, Below.refl _ _⟩
  case round =>
    obtain ⟨c, t, hc, rfl, rfl, HT, HB⟩ := hrel
    clear b0
    by_cases hcn : c < n
    · obtain ⟨A, off, rfl, hA, q0, q1⟩ := HS.out.step HB c hcn
      have hcI : (c : Int) < n := by omega
      have hm : ((c + 1) % n) < n := Nat.mod_lt _ (by omega)
      have SA := fun w h => spotAfter_any (some ⟨A, off, none⟩) n cap p c hcn (by omega) w h
      obtain ⟨x1, x2⟩ := in1_of (hok c hcn)
      obtain ⟨y1, y2⟩ := in1_of (hok _ hm)
      have CR := cross_det (p c).1 (p c).2 (p ((c + 1) % n)).1 (p ((c + 1) % n)).2 (by omega) (by omega) (by omega) (by omega)
      have hcb := cross_bnd (hok c hcn) (hok _ hm)
      have hab := arA_bnd hok c (by omega)
      have hs : arA n p (c + 1) = arA n p c + ((p c).1 * (p ((c + 1) % n)).2 - (p c).2 * (p ((c + 1) % n)).1) := rfl
      have HNX : Hid (t + ((p c).1 * (p ((c + 1) % n)).2 - (p c).2 * (p ((c + 1) % n)).1) = arA n p (c + 1)) := by show _ = _; rw [hs, HT.out]
      have hwr : IntKind.i64.wrap (t + ((p c).1 * (p ((c + 1) % n)).2 - (p c).2 * (p ((c + 1) % n)).1)) = t + ((p c).1 * (p ((c + 1) % n)).2 - (p c).2 * (p ((c + 1) % n)).1) := by
        rw [IntKind.wrap_i64]
        have := HT.out
        omega
      clear hs hcb hab x1 x2 y1 y2
      replace B0 := B0.step HB
      have hB1 := (Below.refl wr.heap.size wr).alloc (Nat.le_refl _) (.cells #[.int .i64 (p c).1, .int .i64 (p c).2] 38)
      have HBA := HB.alloc HB.size (.cells #[.int .i64 (p c).1, .int .i64 (p c).2] 38)
      have Bs := Blk.new wr [.int .i64 (p c).1, .int .i64 (p c).2] 38 rfl
      replace B0 := B0.step hB1
      have HSA := (HS.out.step HB).step hB1
      clear hB1 HB
      go_upto_region 5 with fail
      generalize wr.alloc (.cells #[.int .i64 (p c).1, .int .i64 (p c).2] 38) = W2 at *
      have H0 : Below W2.heap.size W2 W2 := Below.refl _ _
      have HK : ∀ V, Below W2.heap.size W2 V → (fun w' : World => w'.cell? ⟨w.heap.size, 0, none⟩ = some (.slice (some ⟨A, off, none⟩) n cap) ∧ w'.cell? ⟨wr.heap.size, 0, none⟩ = some (.int .i64 (p c).1) ∧ w'.cell? ⟨wr.heap.size, 1, none⟩ = some (.int .i64 (p c).2)) V := fun V h => ⟨(B0.step h).c 0 rfl, (Bs.step h).c 0 rfl, (Bs.step h).c 1 rfl⟩
      generalize (p c).1 * (p ((c + 1) % n)).2 - (p c).2 * (p ((c + 1) % n)).1 = cr at *
      go_region_held3 (fun w' : World => w'.cell? ⟨w.heap.size, 0, none⟩ = some (.slice (some ⟨A, off, none⟩) n cap) ∧ w'.cell? ⟨wr.heap.size, 0, none⟩ = some (.int .i64 (p c).1) ∧ w'.cell? ⟨wr.heap.size, 1, none⟩ = some (.int .i64 (p c).2)) (refine HK _ ?_ <;> repeat (first | (with_reducible exact H0) | (with_reducible refine Below.drew ?_)))
        (first
          | (go_at_call 45; refine (SA _ (HSA.step (by first | (with_reducible exact H0) | (with_reducible exact H0.drew)))).mono ?_; rintro e v1 ⟨rfl, hB⟩; (first | (have Hn : Below W2.heap.size W2 v1 := (by with_reducible exact H0.trans (hB.mono H0.size))) | (have Hn : Below W2.heap.size W2 v1 := (by with_reducible exact H0.drew.trans (hB.mono H0.drew.size)))); clear hB H0; have H0 := Hn; clear Hn)
          | (go_at_call 44; refine (CR _).mono ?_; rintro e v2 ⟨rfl, hB⟩; (first | (have Hn : Below W2.heap.size W2 v2 := (by with_reducible exact H0.trans (hB.mono H0.size))) | (have Hn : Below W2.heap.size W2 v2 := (by with_reducible exact H0.drew.trans (hB.mono H0.drew.size)))); clear hB H0; have H0 := Hn; clear Hn))
      all_goals have HBN := HBA.trans (H0.mono HBA.size)
      all_goals clear HK H0 SA CR B0 Bs HSA HBA hA q0 q1
      all_goals go_wp2
      all_goals go_roundw
      case rel => exact ⟨c + 1, _, by omega, by go_num, rfl, HNX, by first | exact HBN | exact HBN.drew⟩
      case measure => simp [intOf]; omega
    · obtain rfl : n = c := by omega
      have HBF := HB0.trans (HB.mono HB0.size)
      clear HS B0
      go_wp2
      go_ret
      exact ⟨by rw [← HT.out]; rfl, HBF⟩
end Go.Proofs.Ytbhhegmlfclhbaa

/- Areas of rings: both sides, and the law. -/
namespace Go.Proofs.Ytbhhegmlfclhbaa
open Go.RowKit
/-- Twice the area of a ring that is right. -/
def raV (n : Nat) (p : Ps) : Int := if rgF n p = 0 then arA n p n else 0
set_option maxRecDepth 100000 in
set_option maxHeartbeats 4000000 in
theorem implRingArea2_any (ao : Option Addr) (n cap : Nat) (p : Ps) (hn : n ≤ 1048576) (hcap : n ≤ cap) (hcap2 : cap ≤ 9223372036854775807) (w : World) (hS : SpIn w ao n p) : Calls Try.prog 8 #[.agg #[.slice ao n cap]] w (VP (.int .i64 (raV n p)) w) := by
  have HB : Below w.heap.size w (w.alloc (.cells #[.slice ao n cap] 26)) := (Below.refl _ w).alloc (Nat.le_refl _) _
  have B0 := Blk.new w [.slice ao n cap] 26 rfl
  have b0 := B0.c 0 rfl
  have RF := fun w h => ringRight_any ao n cap p hn hcap hcap2 w h
  have HS := hS.step HB
  clear hS
  go_enter Try.func8, Try.ntmps8
  go_upto_region 1 with fail
  generalize (w.alloc (.cells #[.slice ao n cap] 26)) = W at *
  by_cases h0 : rgF n p = 0
  · have HO : Hid (raV n p = arA n p n) := by show _ = _; unfold raV; rw [if_pos h0]
    obtain ⟨h3, h12, hok, _⟩ := rgF_okA h0
    have AR := fun w h => area2_any ao n cap p h12 hok w h
    rw [h0] at RF
    clear h0
    go_wp2_with fail
    refine (RF _ HS).mono ?_
    rintro e w1 ⟨rfl, hB⟩
    replace HB := HB.trans (hB.mono HB.size); replace HS := HS.step hB; replace B0 := B0.step hB
    clear hB RF b0
    have b0 := B0.c 0 rfl
    go_wp2_with fail
    refine (AR _ HS).mono ?_
    rintro e w2 ⟨rfl, hB⟩
    replace HB := HB.trans (hB.mono HB.size)
    clear hB AR b0 HS B0 hok
    go_wp2
    go_ret
    exact ⟨by rw [HO.out]; rfl, HB⟩
  · have HO : Hid (raV n p = 0) := by show _ = _; unfold raV; rw [if_neg h0]
    have d0 : (rgF n p == 0) = false := beq_eq_false_iff_ne.2 h0
    rw [d0] at RF
    clear h0 d0
    go_wp2_with fail
    refine (RF _ HS).mono ?_
    rintro e w1 ⟨rfl, hB⟩
    replace HB := HB.trans (hB.mono HB.size)
    clear hB RF b0 HS B0
    go_wp2
    go_ret
    exact ⟨by rw [HO.out]; rfl, HB⟩
end Go.Proofs.Ytbhhegmlfclhbaa

/- A ring's form: its least spot first: the reckoning. -/
namespace Go.Proofs.Ytbhhegmlfclhbaa
open Go.RowKit
/-- The number of the least of the first c + 1 spots, of several the first. -/
def lsI (q : Ps) : Nat → Nat
  | 0 => 0
  | c + 1 => if lessI (q (c + 1)).1 (q (c + 1)).2 (q (lsI q c)).1 (q (lsI q c)).2 = true then c + 1 else lsI q c
theorem lsI_le (q : Ps) (c : Nat) : lsI q c ≤ c := by
  induction c with
  | zero => exact Nat.le_refl _
  | succ c ih => unfold lsI; split <;> omega
theorem lsI_on {q : Ps} {c : Nat} (h : lessI (q (c + 1)).1 (q (c + 1)).2 (q (lsI q c)).1 (q (lsI q c)).2 = true) : lsI q (c + 1) = c + 1 := by
  conv => lhs; unfold lsI
  rw [if_pos h]
theorem lsI_off {q : Ps} {c : Nat} (h : lessI (q (c + 1)).1 (q (c + 1)).2 (q (lsI q c)).1 (q (lsI q c)).2 = false) : lsI q (c + 1) = lsI q c := by
  conv => lhs; unfold lsI
  rw [if_neg (by simp [h])]
theorem less_self (x y : Int) : lessI x y x y = false := by unfold lessI; simp
/-- The ring with its area above nought. -/
def upP (n : Nat) (p : Ps) : Ps := if arA n p n < 0 then turnP n p else p
/-- A ring's form. -/
def fmP (n : Nat) (p : Ps) : Ps := fun k => upP n p ((lsI (upP n p) (n - 1) + k) % n)
/-- The spots from one on, then those ahead of it. -/
theorem fm_parts {n l : Nat} (q : Ps) (hl : l < n) {k : Nat} (hk : k < n) : q ((l + k) % n) = if k < n - l then q (l + k) else q (k - (n - l)) := by
  by_cases h : k < n - l
  · rw [if_pos h, Nat.mod_eq_of_lt (by omega)]
  · rw [if_neg h, Nat.mod_eq_sub_mod (by omega), Nat.mod_eq_of_lt (by omega)]
    congr 1
    omega
end Go.Proofs.Ytbhhegmlfclhbaa

/- Ways that keep clear of segments: the reckoning. -/
namespace Go.Proofs.Ytbhhegmlfclhbaa
open Go.RowKit
theorem mul_zero_or {a b : Int} (h : a * b = 0) : a = 0 ∨ b = 0 := Int.mul_eq_zero.1 h
/-- Along the same line: whose line it is does not matter. -/
theorem line_same {e f g h x y : Int} (hp : e * h = f * g) (h1 : e ≠ 0 ∨ f ≠ 0) (hz : e * y - f * x = 0) : g * y - h * x = 0 := by
  rcases Int.lt_or_eq_of_le (Int.le_refl e) with _ | _
  · omega
  · by_cases he : e = 0
    · have hf : f ≠ 0 := h1.resolve_left (fun k => k he)
      have hg : g = 0 := by
        rw [he, Int.zero_mul] at hp
        exact (mul_zero_or hp.symm).resolve_left hf
      have hx : x = 0 := by
        rw [he, Int.zero_mul] at hz
        exact (mul_zero_or (by omega : f * x = 0)).resolve_left hf
      rw [hg, hx]
      simp
    · have k : e * (g * y - h * x) = 0 := by
        have e1 : e * (g * y - h * x) = g * (e * y) - (e * h) * x := by grind
        have e2 : e * y = f * x := by omega
        rw [e1, e2, hp]
        grind
      exact (mul_zero_or k).resolve_left he
theorem turn_par {a b c d p q u v : Int} (h0 : ((b - d) * (u - p) - (q - v) * (c - a)) = 0) (h1 : c - a ≠ 0 ∨ d - b ≠ 0) (ht : turnZ a b c d p q = 0) : turnZ p q u v a b = 0 := by
  unfold turnZ at *
  have hp : (c - a) * (v - q) = (d - b) * (u - p) := by grind
  have k := line_same hp h1 ht
  have e : (u - p) * (b - q) - (v - q) * (a - p) = -((u - p) * (q - b) - (v - q) * (p - a)) := by grind
  rw [e, k]
  rfl
theorem less_ne {a b c d : Int} (h : lessI a b c d = true) : c - a ≠ 0 ∨ d - b ≠ 0 := by
  rw [less_iff] at h
  omega
end Go.Proofs.Ytbhhegmlfclhbaa

/- The square of the distance of a spot and a segment: the model's walk. -/
namespace Go.Proofs.Ytbhhegmlfclhbaa
open Go.RowKit
end Go.Proofs.Ytbhhegmlfclhbaa

/- Fractions in their order: the model's walks. -/
namespace Go.Proofs.Ytbhhegmlfclhbaa
open Go.RowKit
end Go.Proofs.Ytbhhegmlfclhbaa

/- Right points: in order, one only where their numbers are, the same with all parts multiplied: the reckoning. -/
namespace Go.Proofs.Ytbhhegmlfclhbaa
open Go.RowKit
end Go.Proofs.Ytbhhegmlfclhbaa

/- What lies between two points: the reckoning, and the program's walks. -/
namespace Go.Proofs.Ytbhhegmlfclhbaa
open Go.RowKit
end Go.Proofs.Ytbhhegmlfclhbaa

/- The middle of two right points: the reckoning. -/
namespace Go.Proofs.Ytbhhegmlfclhbaa
open Go.RowKit
end Go.Proofs.Ytbhhegmlfclhbaa

/- The square of the distance of two points: the program's walk. -/
namespace Go.Proofs.Ytbhhegmlfclhbaa
open Go.RowKit
end Go.Proofs.Ytbhhegmlfclhbaa

/- Fractions with both parts multiplied; distances to the middle: the reckoning. -/
namespace Go.Proofs.Ytbhhegmlfclhbaa
open Go.RowKit
end Go.Proofs.Ytbhhegmlfclhbaa

/- What lies between two points: the program's walks. -/
namespace Go.Proofs.Ytbhhegmlfclhbaa
open Go.RowKit
end Go.Proofs.Ytbhhegmlfclhbaa

/- What lies between two points: the model's walk, and both sides. -/
namespace Go.Proofs.Ytbhhegmlfclhbaa
open Go.RowKit
end Go.Proofs.Ytbhhegmlfclhbaa

/- What lies between two points: both sides. -/
namespace Go.Proofs.Ytbhhegmlfclhbaa
open Go.RowKit
end Go.Proofs.Ytbhhegmlfclhbaa

/- What lies between, of the middle: the reckoning. -/
namespace Go.Proofs.Ytbhhegmlfclhbaa
open Go.RowKit
end Go.Proofs.Ytbhhegmlfclhbaa

/- The program's sums, products and quotients of fractions. -/
namespace Go.Proofs.Ytbhhegmlfclhbaa
open Go.RowKit
end Go.Proofs.Ytbhhegmlfclhbaa

/- The program's laws of two fractions, as far as they are told. -/
namespace Go.Proofs.Ytbhhegmlfclhbaa
open Go.RowKit
end Go.Proofs.Ytbhhegmlfclhbaa

/- Four times a fraction; fractions by their own words. -/
namespace Go.Proofs.Ytbhhegmlfclhbaa
open Go.RowKit
end Go.Proofs.Ytbhhegmlfclhbaa

/- The square of a distance by its own two numbers: the reckoning. -/
namespace Go.Proofs.Ytbhhegmlfclhbaa
open Go.RowKit
end Go.Proofs.Ytbhhegmlfclhbaa

/- Whether a point lies on a segment: both sides. -/
namespace Go.Proofs.Ytbhhegmlfclhbaa
open Go.RowKit
end Go.Proofs.Ytbhhegmlfclhbaa

/- Where a segment stands over a point: both sides. -/
namespace Go.Proofs.Ytbhhegmlfclhbaa
open Go.RowKit
end Go.Proofs.Ytbhhegmlfclhbaa

/- Where a segment stands over a point: the model's side. -/
namespace Go.Proofs.Ytbhhegmlfclhbaa
open Go.RowKit
end Go.Proofs.Ytbhhegmlfclhbaa

/- Where a segment stands over a point, whether the point lies on it, on which side it lies: the reckoning. -/
namespace Go.Proofs.Ytbhhegmlfclhbaa
open Go.RowKit
theorem seg_less {a b c d : Int} (h : segOk a b c d = true) : a < c ∨ (a = c ∧ b < d) := by
  unfold segOk lessI at h
  simp only [Bool.and_eq_true, decide_eq_true_eq] at h
  exact h.2
end Go.Proofs.Ytbhhegmlfclhbaa

/- No end of a segment is nearer than what is told, nor is its middle; it is 0 just on the segment: the reckoning. -/
namespace Go.Proofs.Ytbhhegmlfclhbaa
open Go.RowKit
end Go.Proofs.Ytbhhegmlfclhbaa

/- A segment's distance held against those of its ends and of its middle. -/
namespace Go.Proofs.Ytbhhegmlfclhbaa
open Go.RowKit
end Go.Proofs.Ytbhhegmlfclhbaa

/- Two segments meet either way round; where they meet lies on both; else none of their ends lies on the other: the reckoning. -/
namespace Go.Proofs.Ytbhhegmlfclhbaa
open Go.RowKit
def cX (a b c d p q u v : Int) : Int := (c - a) * (p * v - q * u) - (u - p) * (a * d - b * c)
def cY (a b c d p q u v : Int) : Int := (a * d - b * c) * (q - v) - (p * v - q * u) * (b - d)
def cW (a b c d p q u v : Int) : Int := (b - d) * (u - p) - (q - v) * (c - a)
def cG (a b c d p q u v : Int) : Int := (Int.gcd (Int.gcd (cX a b c d p q u v) (cY a b c d p q u v) : Int) (cW a b c d p q u v) : Int)
def cx (a b c d p q u v : Int) : Int := shareZ (cX a b c d p q u v) (cG a b c d p q u v) (decide (cW a b c d p q u v < 0))
def cy (a b c d p q u v : Int) : Int := shareZ (cY a b c d p q u v) (cG a b c d p q u v) (decide (cW a b c d p q u v < 0))
def cz (a b c d p q u v : Int) : Int := shareZ (cW a b c d p q u v) (cG a b c d p q u v) (decide (cW a b c d p q u v < 0))
theorem c_swap (a b c d p q u v : Int) : cX p q u v a b c d = -cX a b c d p q u v ∧ cY p q u v a b c d = -cY a b c d p q u v ∧ cW p q u v a b c d = -cW a b c d p q u v := by
  unfold cX cY cW
  refine ⟨by grind, by grind, by grind⟩
theorem share_neg {x g w : Int} (hw : w ≠ 0) : shareZ (-x) g (decide (-w < 0)) = shareZ x g (decide (w < 0)) := by
  unfold shareZ
  rw [Int.natAbs_neg]
  by_cases h0 : x = 0
  · subst h0
    simp
  · have e1 : decide (-x < 0) = !decide (x < 0) := by
      by_cases h : x < 0
      · rw [decide_eq_true h, decide_eq_false (by omega)]; rfl
      · rw [decide_eq_false h, decide_eq_true (by omega)]; rfl
    have e2 : decide (-w < 0) = !decide (w < 0) := by
      by_cases h : w < 0
      · rw [decide_eq_true h, decide_eq_false (by omega)]; rfl
      · rw [decide_eq_false h, decide_eq_true (by omega)]; rfl
    rw [e1, e2]
    cases decide (x < 0) <;> cases decide (w < 0) <;> rfl
theorem c_point_swap {a b c d p q u v : Int} (hw : cW a b c d p q u v ≠ 0) : cx p q u v a b c d = cx a b c d p q u v ∧ cy p q u v a b c d = cy a b c d p q u v ∧ cz p q u v a b c d = cz a b c d p q u v := by
  obtain ⟨e1, e2, e3⟩ := c_swap a b c d p q u v
  have eg : cG p q u v a b c d = cG a b c d p q u v := by
    unfold cG
    rw [e1, e2, e3, Int.gcd_neg, Int.neg_gcd, Int.gcd_neg]
  unfold cx cy cz
  rw [eg, e1, e2, e3]
  exact ⟨share_neg hw, share_neg hw, share_neg hw⟩
/-- Ahead of a point on a line that goes upwards. -/
theorem ahead {e f g h k s : Int} (hl : 0 < g ∨ (g = 0 ∧ 0 < h)) (hk : 0 < k) (hs : 0 ≤ s) (e1 : e * k = g * s) (e2 : f * k = h * s) : 0 < e ∨ (e = 0 ∧ 0 ≤ f) := by
  have nn : ∀ {z : Int}, 0 ≤ z * k → 0 ≤ z := fun {z} hz => by
    apply Decidable.byContradiction
    intro hn
    have := Int.mul_neg_of_neg_of_pos (a := z) (b := k) (by omega) hk
    omega
  have zz : ∀ {z : Int}, z * k = 0 → z = 0 := fun {z} hz => by
    rcases Int.mul_eq_zero.1 hz with h' | h'
    · exact h'
    · omega
  rcases hl with hg | ⟨hg, hh⟩
  · have h1 : 0 ≤ e := nn (by rw [e1]; exact Int.mul_nonneg (by omega) hs)
    by_cases h0 : e = 0
    · have : g * s = 0 := by rw [← e1, h0, Int.zero_mul]
      have hs0 : s = 0 := by
        rcases Int.mul_eq_zero.1 this with h' | h'
        · omega
        · exact h'
      have hf : f = 0 := zz (by rw [e2, hs0, Int.mul_zero])
      exact .inr ⟨h0, by omega⟩
    · exact .inl (by omega)
  · have he : e = 0 := zz (by rw [e1, hg, Int.zero_mul])
    exact .inr ⟨he, nn (by rw [e2]; exact Int.mul_nonneg (by omega) hs)⟩
end Go.Proofs.Ytbhhegmlfclhbaa

/- Two segments and where they meet: the whole of what the law asks. -/
namespace Go.Proofs.Ytbhhegmlfclhbaa
open Go.RowKit
theorem seg_lt {a b c d : Int} (h : segOk a b c d = true) : lessI a b c d = true := (less_iff _ _ _ _).2 (seg_less h)
theorem ends_same {a b p q : Int} : (if lessI p q a b = true then a else p) = (if lessI a b p q = true then p else a) ∧ (if lessI p q a b = true then b else q) = (if lessI a b p q = true then q else b) := by
  constructor <;> split <;> rename_i r1 <;> split <;> rename_i r2 <;> rw [less_iff] at r1 r2 <;> omega
theorem ends_min {c d u v : Int} : (if lessI c d u v = true then c else u) = (if lessI u v c d = true then u else c) ∧ (if lessI c d u v = true then d else v) = (if lessI u v c d = true then v else d) := by
  constructor <;> split <;> rename_i r1 <;> split <;> rename_i r2 <;> rw [less_iff] at r1 r2 <;> omega
theorem along_swap {a b c d p q u v : Int} (h1 : lessI a b c d = true) (h2 : lessI p q u v = true) (h0 : cW a b c d p q u v = 0) : alongV p q u v a b c d = alongV a b c d p q u v := by
  have h0' : ((q - v) * (c - a) - (b - d) * (u - p)) = 0 := by unfold cW at h0; omega
  have hi : (turnZ p q u v a b ≠ 0 ∨ lessI (if lessI u v c d = true then u else c) (if lessI u v c d = true then v else d) (if lessI a b p q = true then p else a) (if lessI a b p q = true then q else b) = true) ↔ (turnZ a b c d p q ≠ 0 ∨ lessI (if lessI u v c d = true then u else c) (if lessI u v c d = true then v else d) (if lessI a b p q = true then p else a) (if lessI a b p q = true then q else b) = true) :=
    or_congr ⟨fun h h' => h (turn_par h0 (less_ne h1) h'), fun h h' => h (turn_par h0' (less_ne h2) h')⟩ Iff.rfl
  obtain ⟨e1, e2⟩ := ends_same (a := a) (b := b) (p := p) (q := q)
  obtain ⟨e3, e4⟩ := ends_min (c := c) (d := d) (u := u) (v := v)
  unfold alongV
  rw [e1, e2, e3, e4]
  by_cases h : turnZ a b c d p q ≠ 0 ∨ lessI (if lessI u v c d = true then u else c) (if lessI u v c d = true then v else d) (if lessI a b p q = true then p else a) (if lessI a b p q = true then q else b) = true
  · rw [if_pos (hi.2 h), if_pos h]
  · rw [if_neg (fun k => h (hi.1 k)), if_neg h]
theorem meet_swap {a b c d p q u v : Int} (h1 : segOk a b c d = true) (h2 : segOk p q u v = true) : meetW p q u v a b c d = meetW a b c d p q u v := by
  have e3 := (c_swap a b c d p q u v).2.2
  by_cases hw : cW a b c d p q u v = 0
  · have hw' : cW p q u v a b c d = 0 := by omega
    unfold meetW
    rw [if_pos (show (q - v) * (c - a) - (b - d) * (u - p) = 0 from hw'), if_pos (show (b - d) * (u - p) - (q - v) * (c - a) = 0 from hw)]
    exact along_swap (seg_lt h1) (seg_lt h2) hw
  · have hw' : ¬ cW p q u v a b c d = 0 := by omega
    obtain ⟨k1, k2, k3⟩ := c_point_swap hw
    unfold meetW
    rw [if_neg (show ¬ (q - v) * (c - a) - (b - d) * (u - p) = 0 from hw'), if_neg (show ¬ (b - d) * (u - p) - (q - v) * (c - a) = 0 from hw), Bool.and_comm]
    change (if _ then Value.tuple #[.int .i64 1, (PV (cx p q u v a b c d) (cy p q u v a b c d) (cz p q u v a b c d)), _] else _) = (if _ then Value.tuple #[.int .i64 1, (PV (cx a b c d p q u v) (cy a b c d p q u v) (cz a b c d p q u v)), _] else _)
    rw [k1, k2, k3]
end Go.Proofs.Ytbhhegmlfclhbaa

/- A ring that begins at another spot: the reckoning. -/
namespace Go.Proofs.Ytbhhegmlfclhbaa
open Go.RowKit
/-- The ring that begins at its spot number k. -/
def rtP (n k : Nat) (p : Ps) : Ps := fun i => p ((k + i) % n)
theorem mod_two {n a : Nat} (h : a < 2 * n) : a % n = if a < n then a else a - n := by
  split
  · exact Nat.mod_eq_of_lt (by assumption)
  · rw [Nat.mod_eq_sub_mod (by omega), Nat.mod_eq_of_lt (by omega)]
theorem mod_in {n k i : Nat} (hk : k < n) (hi : i < n) : ((k + i) % n = k + i ∧ k + i < n) ∨ ((k + i) % n + n = k + i ∧ n ≤ k + i) := by
  rw [mod_two (by omega)]
  split <;> omega
/-- Each number is that of a spot, moved. -/
theorem mod_back {n k j : Nat} (hk : k < n) (hj : j < n) : ∃ i, i < n ∧ (k + i) % n = j := by
  by_cases h : k ≤ j
  · exact ⟨j - k, by omega, by rw [show k + (j - k) = j by omega, Nat.mod_eq_of_lt hj]⟩
  · exact ⟨j + n - k, by omega, by rw [show k + (j + n - k) = j + n by omega, Nat.add_mod_right, Nat.mod_eq_of_lt hj]⟩
theorem mod_next {n k i : Nat} : (k + (i + 1) % n) % n = ((k + i) % n + 1) % n := by
  rw [Nat.add_mod, Nat.mod_mod, ← Nat.add_mod, Nat.add_mod ((k + i) % n), Nat.mod_mod, ← Nat.add_mod]
  congr 1
theorem rt_side {n k i : Nat} (p : Ps) (_hk : k < n) (_hi : i < n) : sdA n (rtP n k p) i = sdA n p ((k + i) % n) := by
  unfold sdA rtP
  rw [mod_next]
theorem rt_kd {n k i j : Nat} (p : Ps) (hk : k < n) (hi : i < n) (hj : j < n) : kdA n (rtP n k p) i j = kdA n p ((k + i) % n) ((k + j) % n) := by
  unfold kdA
  rw [rt_side p hk hi, rt_side p hk hj]
theorem mo_sym (n i j : Nat) : moI n i j = moI n j i := by
  unfold moI
  by_cases h : i + 1 = j ∨ j + 1 = i ∨ i + n = j + 1 ∨ j + n = i + 1
  · rw [if_pos h, if_pos (by omega)]
  · rw [if_neg h, if_neg (by omega)]
theorem mo_rt {n k i j : Nat} (hk : k < n) (hi : i < n) (hj : j < n) (hn : 3 ≤ n) : moI n ((k + i) % n) ((k + j) % n) = moI n i j := by
  have a := mod_in hk hi
  have b := mod_in hk hj
  revert a b
  generalize (k + i) % n = s
  generalize (k + j) % n = t
  intro a b
  unfold moI
  by_cases h : i + 1 = j ∨ j + 1 = i ∨ i + n = j + 1 ∨ j + n = i + 1
  · rw [if_pos h, if_pos (by omega)]
  · rw [if_neg h, if_neg (by omega)]
theorem knd_eitherR {a b c d p q u v : Int} (h1 : segOk a b c d = true) (h2 : segOk p q u v = true) : kndZ p q u v a b c d = kndZ a b c d p q u v := by
  obtain ⟨r, s, e1⟩ := meetW_kind p q u v a b c d
  obtain ⟨r', s', e2⟩ := meetW_kind a b c d p q u v
  rw [meet_swap h1 h2, e2] at e1
  simp only [Value.tuple.injEq] at e1
  have := congrArg (fun l => l[0]?) e1
  simpa using this.symm
theorem kd_sym {n : Nat} {p : Ps} (hok : ∀ i, i < n → spotOk (p i).1 (p i).2 = true) (hone : OneN n p) (hn : 3 ≤ n) {i j : Nat} (hi : i < n) (hj : j < n) : kdA n p i j = kdA n p j i :=
  knd_eitherR (side_ok hok hone hn hj) (side_ok hok hone hn hi)
/-- No two sides have more in common than they may, by any two. -/
theorem bd_all {n : Nat} {p : Ps} (hok : ∀ i, i < n → spotOk (p i).1 (p i).2 = true) (hone : OneN n p) (hn : 3 ≤ n) : (∀ i, i < n → ∀ k, k < i → bdB n p i k = false) ↔ ∀ i j, i < n → j < n → i ≠ j → ¬ bdI n p i j := by
  constructor
  · intro h i j hi hj hne hb
    rcases Nat.lt_or_ge j i with hl | hl
    · have := (bdI_iff hi hl).1 hb
      rw [h i hi j hl] at this
      cases this
    · have hl' : i < j := by omega
      have hb' : bdI n p j i := by
        unfold bdI at *
        rw [mo_sym, kd_sym hok hone hn hj hi]
        exact hb
      have := (bdI_iff hj hl').1 hb'
      rw [h j hj i hl'] at this
      cases this
  · intro h i hi k hk
    rw [Bool.eq_false_iff]
    intro hb
    exact h i k hi (by omega) (by omega) ((bdI_iff hi hk).2 hb)
theorem rt_ok {n k : Nat} {p : Ps} (hk : k < n) : (∀ i, i < n → spotOk (rtP n k p i).1 (rtP n k p i).2 = true) ↔ ∀ i, i < n → spotOk (p i).1 (p i).2 = true := by
  constructor
  · intro h j hj
    obtain ⟨i, hi, e⟩ := mod_back hk hj
    have := h i hi
    unfold rtP at this
    rwa [e] at this
  · intro h i _
    exact h _ (Nat.mod_lt _ (by omega))
theorem rt_ne {n k i j : Nat} (hk : k < n) (hi : i < n) (hj : j < n) (hne : i ≠ j) : (k + i) % n ≠ (k + j) % n := by
  have a := mod_in hk hi
  have b := mod_in hk hj
  omega
theorem rt_one {n k : Nat} {p : Ps} (hk : k < n) : OneN n (rtP n k p) ↔ OneN n p := by
  constructor
  · intro h i hi j hj e
    obtain ⟨i', hi', ei⟩ := mod_back hk hi
    obtain ⟨j', hj', ej⟩ := mod_back hk (show j < n by omega)
    have hne : i' ≠ j' := fun he => by subst he; omega
    have : rtP n k p i' = rtP n k p j' := by unfold rtP; rw [ei, ej]; exact e
    exact one_ne h hi' hj' hne this
  · intro h i hi j hj e
    exact one_ne h (Nat.mod_lt _ (by omega)) (Nat.mod_lt _ (by omega)) (rt_ne hk hi (by omega) (by omega)) e
theorem ifnn {α : Type} {A : Prop} [Decidable (¬ A)] {x y : α} (h : A) : (if ¬ A then x else y) = y := if_neg (fun k => k h)
theorem ifnp {α : Type} {A : Prop} [Decidable (¬ A)] {x y : α} (h : ¬ A) : (if ¬ A then x else y) = x := if_pos h
/-- A ring that begins at another spot has the same fault. -/
theorem rt_fault {n k : Nat} {p : Ps} (hk : k < n) : rgF n (rtP n k p) = rgF n p := by
  unfold rgF
  by_cases h3 : n < 3
  · rw [if_pos h3, if_pos h3]
  rw [if_neg h3, if_neg h3]
  by_cases h12 : 12 < n
  · rw [if_pos h12, if_pos h12]
  rw [if_neg h12, if_neg h12]
  by_cases hok : ∀ i, i < n → spotOk (p i).1 (p i).2 = true
  · have hok' := (rt_ok hk).2 hok
    rw [ifnn hok', ifnn hok]
    by_cases hone : OneN n p
    · have hone' := (rt_one hk).2 hone
      rw [ifnn hone', ifnn hone]
      have he : (∀ i, i < n → ∀ j, j < i → bdB n (rtP n k p) i j = false) ↔ (∀ i, i < n → ∀ j, j < i → bdB n p i j = false) := by
        rw [bd_all hok' hone' (by omega), bd_all hok hone (by omega)]
        constructor
        · intro h i j hi hj hne hb
          obtain ⟨i', hi', ei⟩ := mod_back hk hi
          obtain ⟨j', hj', ej⟩ := mod_back hk hj
          have hne' : i' ≠ j' := fun he => by subst he; omega
          refine h i' j' hi' hj' hne' ?_
          unfold bdI at *
          rw [rt_kd p hk hi' hj', ← mo_rt hk hi' hj' (by omega), ei, ej]
          exact hb
        · intro h i j hi hj hne hb
          refine h _ _ (Nat.mod_lt _ (by omega)) (Nat.mod_lt _ (by omega)) (rt_ne hk hi hj hne) ?_
          unfold bdI at *
          rw [mo_rt hk hi hj (by omega), ← rt_kd p hk hi hj]
          exact hb
      by_cases hb : ∀ i, i < n → ∀ j, j < i → bdB n p i j = false
      · rw [ifnn (he.2 hb), ifnn hb]
      · rw [ifnp (fun h => hb (he.1 h)), ifnp hb]
    · rw [ifnp (fun h => hone ((rt_one hk).1 h)), ifnp hone]
  · rw [ifnp (fun h => hok ((rt_ok hk).1 h)), ifnp hok]
def smF (f : Nat → Int) : Nat → Int
  | 0 => 0
  | c + 1 => smF f c + f c
theorem smF_shift (f : Nat → Int) : ∀ m, smF (fun i => f (i + 1)) m + f 0 = smF f (m + 1)
  | 0 => by simp [smF]
  | m + 1 => by
    have ih := smF_shift f m
    have e1 : smF (fun i => f (i + 1)) (m + 1) = smF (fun i => f (i + 1)) m + f (m + 1) := rfl
    have e2 : smF f (m + 1 + 1) = smF f (m + 1) + f (m + 1) := rfl
    omega
theorem smF_same {f g : Nat → Int} : ∀ m, (∀ i, i < m → f i = g i) → smF f m = smF g m
  | 0, _ => rfl
  | m + 1, h => by
    unfold smF
    rw [smF_same m (fun i hi => h i (by omega)), h m (by omega)]
theorem smF_turn (f : Nat → Int) (n : Nat) : smF (fun i => f ((i + 1) % n)) n = smF f n := by
  cases n with
  | zero => rfl
  | succ m =>
    have h1 : smF (fun i => f ((i + 1) % (m + 1))) (m + 1) = smF (fun i => f ((i + 1) % (m + 1))) m + f ((m + 1) % (m + 1)) := rfl
    rw [h1, Nat.mod_self, smF_same (g := fun i => f (i + 1)) m (fun i hi => by rw [Nat.mod_eq_of_lt (by omega)])]
    exact smF_shift f m
theorem smF_rt (f : Nat → Int) (n : Nat) (hn : 0 < n) : ∀ k, smF (fun i => f ((k + i) % n)) n = smF f n
  | 0 => smF_same n (fun i hi => by rw [Nat.zero_add, Nat.mod_eq_of_lt hi])
  | k + 1 => by
    have ih := smF_rt f n hn k
    rw [← ih, ← smF_turn (fun i => f ((k + i) % n)) n]
    refine smF_same n fun i _ => ?_
    congr 1
    rw [Nat.add_mod k, Nat.mod_mod, ← Nat.add_mod]
    congr 1
    omega
theorem arA_sm (n : Nat) (p : Ps) : ∀ c, arA n p c = smF (fun i => (p i).1 * (p ((i + 1) % n)).2 - (p i).2 * (p ((i + 1) % n)).1) c
  | 0 => rfl
  | c + 1 => by
    unfold arA smF
    rw [arA_sm n p c]
/-- A ring that begins at another spot has the same area. -/
theorem rt_area {n k : Nat} (p : Ps) (hk : k < n) : arA n (rtP n k p) n = arA n p n := by
  rw [arA_sm, arA_sm, ← smF_rt (fun i => (p i).1 * (p ((i + 1) % n)).2 - (p i).2 * (p ((i + 1) % n)).1) n (by omega) k]
  refine smF_same n fun i hi => ?_
  unfold rtP
  rw [mod_next]
/-- The least spot. -/
theorem lsI_min (q : Ps) : ∀ c i, i ≤ c → lessI (q i).1 (q i).2 (q (lsI q c)).1 (q (lsI q c)).2 = false
  | 0, i, h => by
    obtain rfl : i = 0 := by omega
    exact less_self _ _
  | c + 1, i, h => by
    cases hb : lessI (q (c + 1)).1 (q (c + 1)).2 (q (lsI q c)).1 (q (lsI q c)).2 with
    | true =>
      rw [lsI_on hb]
      by_cases e : i = c + 1
      · subst e; exact less_self _ _
      · have ih := lsI_min q c i (by omega)
        unfold lessI at *
        simp only [decide_eq_true_eq, decide_eq_false_iff_not] at *
        omega
    | false =>
      rw [lsI_off hb]
      by_cases e : i = c + 1
      · subst e; exact hb
      · exact lsI_min q c i (by omega)
theorem less_eq {x y u v : Int} (h1 : lessI x y u v = false) (h2 : lessI u v x y = false) : x = u ∧ y = v := by
  unfold lessI at *
  simp only [decide_eq_false_iff_not] at *
  omega
/-- The form begins at the least spot, wherever the ring began. -/
theorem form_of {n k : Nat} {q q' : Ps} (hn : 0 < n) (hk : k < n) (hone : OneN n q) (hq : ∀ i, i < n → q' i = q ((k + i) % n)) (j : Nat) : q' ((lsI q' (n - 1) + j) % n) = q ((lsI q (n - 1) + j) % n) := by
  have l1 := lsI_le q' (n - 1)
  have l2 := lsI_le q (n - 1)
  obtain ⟨i, hi, ei⟩ := mod_back hk (show lsI q (n - 1) < n by omega)
  have m1 := lsI_min q' (n - 1) i (by omega)
  have m2 := lsI_min q (n - 1) ((k + lsI q' (n - 1)) % n) (by have := Nat.mod_lt (k + lsI q' (n - 1)) hn; omega)
  rw [hq i hi, hq _ (show lsI q' (n - 1) < n by omega), ei] at m1
  obtain ⟨e1, e2⟩ := less_eq m1 m2
  have he : (k + lsI q' (n - 1)) % n = lsI q (n - 1) := by
    by_cases h : (k + lsI q' (n - 1)) % n = lsI q (n - 1)
    · exact h
    · exact absurd (Prod.ext e1 e2).symm (one_ne hone (Nat.mod_lt _ hn) (by omega) h)
  rw [hq _ (Nat.mod_lt _ hn), ← he]
  congr 1
  rw [Nat.add_mod k, Nat.mod_mod, ← Nat.add_mod, Nat.add_mod ((k + lsI q' (n - 1)) % n), Nat.mod_mod, ← Nat.add_mod]
  congr 1
  omega
theorem turn_mod {n : Nat} (p : Ps) {j : Nat} (hj : j < n) : turnP n p j = p ((n - j) % n) := by
  unfold turnP
  split
  · subst j; rw [Nat.sub_zero, Nat.mod_self]
  · rw [Nat.mod_eq_of_lt (by omega)]
theorem turn_one {n : Nat} {p : Ps} (h : OneN n p) : OneN n (turnP n p) := by
  intro i hi j hj e
  rw [turn_mod p hi, turn_mod p (show j < n by omega)] at e
  refine one_ne h (Nat.mod_lt _ (by omega)) (Nat.mod_lt _ (by omega)) ?_ e
  rw [mod_two (by omega), mod_two (by omega)]
  split <;> split <;> omega
theorem rt_turn {n k : Nat} (p : Ps) (hk : k < n) {j : Nat} (hj : j < n) : turnP n (rtP n k p) j = turnP n p (((n - k) % n + j) % n) := by
  rw [turn_mod _ hj, turn_mod p (Nat.mod_lt _ (by omega))]
  unfold rtP
  congr 1
  have h1 : (n - j) % n = if j = 0 then 0 else n - j := by
    split
    · subst j; rw [Nat.sub_zero, Nat.mod_self]
    · rw [Nat.mod_eq_of_lt (by omega)]
  have h2 : (n - k) % n = if k = 0 then 0 else n - k := by
    split
    · subst k; rw [Nat.sub_zero, Nat.mod_self]
    · rw [Nat.mod_eq_of_lt (by omega)]
  rw [h1, h2]
  by_cases hj0 : j = 0
  · rw [if_pos hj0]
    by_cases hk0 : k = 0
    · rw [if_pos hk0, hj0, hk0]; simp
    · rw [if_neg hk0, hj0, Nat.add_zero, Nat.add_zero, Nat.mod_eq_of_lt hk, Nat.mod_eq_of_lt (show n - k < n by omega), show n - (n - k) = k by omega, Nat.mod_eq_of_lt hk]
  · rw [if_neg hj0]
    by_cases hk0 : k = 0
    · rw [if_pos hk0, hk0, Nat.zero_add, Nat.zero_add, Nat.mod_eq_of_lt hj]
    · rw [if_neg hk0, mod_two (show k + (n - j) < 2 * n by omega), mod_two (show n - k + j < 2 * n by omega)]
      by_cases hjk : j < k
      · rw [if_neg (by omega), if_pos (by omega), Nat.mod_eq_of_lt (by omega)]; omega
      · by_cases he : j = k
        · subst he
          rw [if_neg (by omega), if_neg (by omega), show n - (n - j + j - n) = n by omega, Nat.mod_self]; omega
        · rw [if_pos (by omega), if_neg (by omega), Nat.mod_eq_of_lt (by omega)]; omega
/-- A ring that begins at another spot has the same form. -/
theorem rt_form {n k : Nat} {p : Ps} (hk : k < n) (h : rgF n p = 0) : ∀ j, j < n → fmP n (rtP n k p) j = fmP n p j := by
  have hone : OneN n p := by
    unfold rgF at h
    split at h
    · cases h
    split at h
    · cases h
    split at h
    · cases h
    split at h
    · cases h
    rename_i h4
    exact Classical.not_not.1 h4
  intro j _
  unfold fmP
  by_cases ha : arA n p n < 0
  · have e1 : upP n (rtP n k p) = turnP n (rtP n k p) := by unfold upP; rw [if_pos (by rw [rt_area p hk]; exact ha)]
    have e2 : upP n p = turnP n p := by unfold upP; rw [if_pos ha]
    rw [e1, e2]
    exact form_of (by omega) (Nat.mod_lt (n - k) (show 0 < n by omega)) (turn_one hone) (fun i hi => rt_turn p hk hi) j
  · have e1 : upP n (rtP n k p) = rtP n k p := by unfold upP; rw [if_neg (by rw [rt_area p hk]; exact ha)]
    have e2 : upP n p = p := by unfold upP; rw [if_neg ha]
    rw [e1, e2]
    exact form_of (by omega) hk hone (fun i _ => rfl) j
end Go.Proofs.Ytbhhegmlfclhbaa

/- slices.Grow of the nil slice, and slices.Concat of two parts of a row of spots. -/
namespace Go.Proofs.Ytbhhegmlfclhbaa
open Go.RowKit
theorem Try.infoSpotF : (Try.prog.info? 38).map (fun i => (i.zero, i.size, i.bytes)) = some (some (.agg #[.int .i64 0, .int .i64 0]), 2, 16) := by kernel_rfl
set_option maxRecDepth 100000 in
set_option maxHeartbeats 2000000 in
theorem growS_any (n : Nat) (h0 : 0 < n) (hn : n ≤ 1000) (w : World) : Calls Try.prog 48 #[.slice none 0 0, .int .i64 n] w (fun e w' => ∃ v, e = .returned v ∧ w'.ownsRow w.heap.size 38 2 v 0 [] ∧ Below w.heap.size w w') := by
  obtain ⟨i0, hi, hz0, hz1, hz2⟩ := info_parts Try.infoSpotF
  have h1 : ¬ ((n : Int) < 0) := by omega
  have h4 : (n : Int) > 0 := by omega
  have hrz : ∀ ty, (Builtin.append_ #[24, 3] ty #[.slice none 0 0, .int .i64 n]).run Try.prog w = .ok (.slice (some ⟨w.heap.size, 0, none⟩) n (grownCap w n 0 38)) (w.drew.alloc (.cells (Builtin.zeroCells (Value.agg #[.int .i64 0, .int .i64 0]).cells n ++ Builtin.zeroCells (Value.agg #[.int .i64 0, .int .i64 0]).cells (grownCap w n 0 38 - n)) 38)) := fun ty => Lib.run_append_nil_zeros w 24 3 ty 38 i0 _ .i64 .i64 Try.underlying24 Try.underlying3 hi hz0 n h0 (by omega) (by omega) (by rw [hz2]; omega)
  have hGn : n ≤ grownCap w n 0 38 := grownCap_ge w _ _ _
  have hG63 := grownCap_le_maxLen w n 0 38 (by unfold maxLen; omega)
  generalize grownCap w n 0 38 = G at *
  have hG : G ≤ 9223372036854775807 := by unfold maxLen at hG63; omega
  obtain ⟨C, hC, hCs⟩ : ∃ C, Builtin.zeroCells (Value.agg #[.int .i64 0, .int .i64 0]).cells n ++ Builtin.zeroCells (Value.agg #[.int .i64 0, .int .i64 0]).cells (G - n) = C ∧ C.size = G * 2 := by
    refine ⟨_, rfl, ?_⟩
    rw [Array.size_append, size_zeroCells, size_zeroCells, show (Value.agg #[Value.int .i64 0, Value.int .i64 0]).cells.size = 2 from rfl]
    omega
  rw [hC] at hrz
  have hO : (w.drew.alloc (.cells C 38)).ownsRow w.heap.size 38 2 (.slice (some ⟨w.heap.size, 0, none⟩) 0 G) 0 [] := World.ownsRow_made (base := w.heap.size) w.drew C G (Nat.le_refl _) hG63 hCs
  have hB : Below w.heap.size w (w.drew.alloc (.cells C 38)) := (Below.refl _ w).drew.alloc (Nat.le_refl _) _
  clear hC hCs
  clear hG63
  go_enter Try.func48, Try.ntmps48
  go_wp2_with (at_builtin; refine Lib.wpList_append_run _ rfl _ _ _ _ rfl _ _ rfl rfl _ _ (hrz _) ?_)
  go_ret
  exact ⟨_, rfl, hO, hB⟩
/-- The cells of m spots from number l on. -/
def spF (l m : Nat) (q : Ps) : List Value := spL m (fun k => q (l + k))
theorem spF_cell {w : World} {g n l m : Nat} {q : Ps} (h : SpIn w (some ⟨g, 0, none⟩) n q) (hm : l + m ≤ n) : ∀ j u, (spF l m q)[j]? = some u → w.cell? ((⟨g, l * 2, none⟩ : Addr).add j) = some u := by
  intro j u hj
  have hl : j < m * 2 := by
    have := (List.getElem?_eq_some_iff.1 hj).1
    unfold spF at this
    rwa [spL_len] at this
  unfold spF at hj
  rw [spL_at hl] at hj
  cases hj
  obtain ⟨A, off, e, hA, h1, h2⟩ := h (l + j / 2) (by omega)
  cases e
  have ha : (⟨g, l * 2, none⟩ : Addr).add j = ⟨g, l * 2 + j, none⟩ := by unfold Addr.add; split <;> simp_all
  rw [ha]
  rcases (show j % 2 = 0 ∨ j % 2 = 1 by omega) with h0 | h0
  · obtain ⟨i, rfl⟩ : ∃ i, j = i * 2 := ⟨j / 2, by omega⟩
    rw [show i * 2 / 2 = i by omega, Nat.zero_add] at h1
    rw [show l * 2 + i * 2 = (l + i) * 2 by omega, h1, spW0]
  · obtain ⟨i, rfl⟩ : ∃ i, j = i * 2 + 1 := ⟨j / 2, by omega⟩
    rw [show (i * 2 + 1) / 2 = i by omega, Nat.zero_add] at h2
    rw [show l * 2 + (i * 2 + 1) = (l + i) * 2 + 1 by omega, h2, spW1]
theorem spF_one (l m : Nat) (q : Ps) : ∀ u ∈ spF l m q, u.oneCell' = true := by
  intro u hu
  unfold spF spL at hu
  rw [List.mem_map] at hu
  obtain ⟨i, _, rfl⟩ := hu
  rfl
theorem spF_len (l m : Nat) (q : Ps) : (spF l m q).length = m * 2 := spL_len _ _
set_option maxRecDepth 100000 in
set_option maxHeartbeats 4000000 in
theorem concat_any (AS g n l c1 c2 : Nat) (q : Ps) (hl : l < n) (hn : n ≤ 12) (w : World) (A : Blk w AS [.slice (some ⟨g, l * 2, none⟩) (n - l) c1, .slice (some ⟨g, 0, none⟩) l c2]) (S : SpIn w (some ⟨g, 0, none⟩) n q) :
    Calls Try.prog 26 #[.slice (some ⟨AS, 0, none⟩) 2 2] w (fun e w' => ∃ v, e = .returned v ∧ w'.ownsRow w.heap.size 38 2 v n (spF l (n - l) q ++ spF 0 l q) ∧ Below w.heap.size w w') := by
  obtain ⟨i0, hi, hz0, hz1, hz2⟩ := info_parts Try.infoSpotF
  have HS : Hid (SpIn w (some ⟨g, 0, none⟩) n q) := S
  clear S
  obtain ⟨a0, a1⟩ := A.cs2
  go_enter Try.func26, Try.ntmps26
  go_wp2_with fail
  go_loopw [3, 11] (fun o i wr => ∃ k : Nat, k ≤ 2 ∧ i = .int .i64 k ∧ o = .int .i64 (if k = 0 then 0 else if k = 1 then ((n - l : Nat) : Int) else n) ∧ w = wr) (fun _ i _ => 2 - (intOf i).toNat)
  case atStart => exact ⟨0, by omega, rfl, rfl, rfl⟩
  case round =>
    obtain ⟨k, hk, rfl, rfl, rfl⟩ := hrel
    by_cases hk2 : k < 2
    · rcases (by omega : k = 0 ∨ k = 1) with rfl | rfl
      · have w1 : IntKind.i64.wrap (0 + ((n - l : Nat) : Int)) = ((n - l : Nat) : Int) := by rw [IntKind.wrap_i64]; omega
        have p1 : ¬ (((n - l : Nat) : Int) < 0) := by omega
        go_wp2
        go_roundw
        case rel => exact ⟨1, by omega, rfl, by simp, by first | rfl | trivial⟩
        case measure => simp [intOf]
      · have w1 : IntKind.i64.wrap (((n - l : Nat) : Int) + (l : Int)) = (n : Int) := by rw [IntKind.wrap_i64]; omega
        have p1 : ¬ ((n : Int) < 0) := by omega
        go_wp2
        go_roundw
        case rel => exact ⟨2, by omega, rfl, by simp, by first | rfl | trivial⟩
        case measure => simp [intOf]
    · obtain rfl : k = 2 := by omega
      clear a0 a1
      go_wp2_with fail
      refine (growS_any n (by omega) (by omega) _).mono ?_
      rintro e w2 ⟨v, rfl, O, hB⟩
      go_wp2_with fail
      go_loopw [6, 27] (fun o i wr => ∃ k : Nat, k ≤ 2 ∧ i = .int .i64 k ∧ wr.ownsRow w.heap.size 38 2 o (if k = 0 then 0 else if k = 1 then n - l else n) (if k = 0 then [] else if k = 1 then spF l (n - l) q else spF l (n - l) q ++ spF 0 l q) ∧ Below w.heap.size w wr) (fun _ i _ => 2 - (intOf i).toNat)
      case atStart => exact ⟨0, by omega, rfl, O, hB⟩
      case round =>
        clear O hB
        obtain ⟨k, hk, rfl, hown, HB⟩ := hrel
        have A2 := A.below HB (show AS < w.heap.size from A.lt)
        obtain ⟨a0, a1⟩ := A2.cs2
        clear A2
        by_cases hk2 : k < 2
        · rcases (by omega : k = 0 ∨ k = 1) with rfl | rfl
          · change wr.ownsRow w.heap.size 38 2 u6 0 [] at hown
            go_wp2_with (at_builtin; refine wpList_append_own _ rfl _ _ 24 rfl w.heap.size 38 i0 (.agg #[.int .i64 0, .int .i64 0]) 2 16 Try.underlying24 hi hz0 hz1 hz2 rfl (by decide) _ _ _ rfl hown ⟨g, l * 2, none⟩ (n - l) c1 (spF l (n - l) q) rfl (spF_len _ _ _) (spF_cell (HS.out.step HB) (by omega)) (spF_one _ _ _) (by unfold maxLen; omega) (by omega) HB.size ?_)
            intro v' w3 hown2 hgrow hnn
            replace HB := HB.trans ((Below.refl w.heap.size wr).grown hgrow HB.size (fun j hj => (hown.lt j hj).1))
            have O2 : w3.ownsRow w.heap.size 38 2 v' (n - l) (spF l (n - l) q) := by simpa using hown2
            clear hown hown2 hgrow hnn a0 a1
            go_wp2
            go_roundw
            case rel => exact ⟨1, by omega, rfl, O2, HB⟩
            case measure => simp [intOf]
          · change wr.ownsRow w.heap.size 38 2 u6 (n - l) (spF l (n - l) q) at hown
            go_wp2_with (at_builtin; refine wpList_append_own _ rfl _ _ 24 rfl w.heap.size 38 i0 (.agg #[.int .i64 0, .int .i64 0]) 2 16 Try.underlying24 hi hz0 hz1 hz2 rfl (by decide) _ _ _ rfl hown ⟨g, 0, none⟩ l c2 (spF 0 l q) rfl (spF_len _ _ _) (by have := spF_cell (l := 0) (m := l) (HS.out.step HB) (by omega); rwa [Nat.zero_mul] at this) (spF_one _ _ _) (by unfold maxLen; omega) (by omega) HB.size ?_)
            intro v' w3 hown2 hgrow hnn
            replace HB := HB.trans ((Below.refl w.heap.size wr).grown hgrow HB.size (fun j hj => (hown.lt j hj).1))
            have O2 : w3.ownsRow w.heap.size 38 2 v' (n) (spF l (n - l) q ++ spF 0 l q) := by rw [show n - l + l = n by omega] at hown2; exact hown2
            clear hown hown2 hgrow hnn a0 a1
            go_wp2
            go_roundw
            case rel => exact ⟨2, by omega, rfl, O2, HB⟩
            case measure => simp [intOf]
        · obtain rfl : k = 2 := by omega
          change wr.ownsRow w.heap.size 38 2 u6 n (spF l (n - l) q ++ spF 0 l q) at hown
          clear a0 a1
          have HO : Hid (wr.ownsRow w.heap.size 38 2 u6 n (spF l (n - l) q ++ spF 0 l q)) := hown
          clear hown
          go_wp2
          go_ret
          exact ⟨_, rfl, HO.out, HB⟩
/-- The two parts, one behind the other, are the row that begins at number l. -/
theorem spF_rot {n l : Nat} (q : Ps) (hl : l < n) : spF l (n - l) q ++ spF 0 l q = spL n (fun k => q ((l + k) % n)) := by
  apply List.ext_getElem?
  intro j
  by_cases hj : j < n * 2
  · rw [spL_at hj]
    by_cases h1 : j < (n - l) * 2
    · rw [List.getElem?_append_left (by rw [spF_len]; exact h1)]
      unfold spF
      rw [spL_at h1]
      unfold spW; dsimp only
      rw [fm_parts q hl (show j / 2 < n by omega), if_pos (show j / 2 < n - l by omega)]
    · rw [List.getElem?_append_right (by rw [spF_len]; omega), spF_len]
      unfold spF
      rw [spL_at (by omega)]
      unfold spW; dsimp only
      rw [fm_parts q hl (show j / 2 < n by omega), if_neg (show ¬ j / 2 < n - l by omega), show (j - (n - l) * 2) % 2 = j % 2 by omega, show (j - (n - l) * 2) / 2 = j / 2 - (n - l) by omega]
      simp
  · rw [List.getElem?_eq_none (by rw [List.length_append, spF_len, spF_len]; omega), List.getElem?_eq_none (by rw [spL_len]; omega)]
end Go.Proofs.Ytbhhegmlfclhbaa

/- The region of the law in which a ring is laid that begins at another spot. -/
namespace Go.Proofs.Ytbhhegmlfclhbaa
open Go.RowKit
def SlG (B4 : Nat) (W : World) (v : Value) (c : Nat) (xs : List Value) : Prop := ∃ g cp, v = .slice (some ⟨g, 0, none⟩) c cp ∧ W.ownsRow B4 38 2 (.slice (some ⟨g, 0, none⟩) c cp) c xs ∧ (c = 0 → cp = 0) ∧ (0 < c → ∃ z, xs[0]? = some (.int .i64 z))
theorem SlG.step {B4 : Nat} {W W2 : World} {v : Value} {c : Nat} {xs : List Value} (h : SlG B4 W v c xs) (hB : Below W.heap.size W W2) : SlG B4 W2 v c xs := by
  obtain ⟨g, cp, e, O, r⟩ := h
  exact ⟨g, cp, e, ownA_step O hB, r⟩
theorem own_ne {w : World} {base A gn c cp : Nat} {xs : List Value} {ao : Option Addr} {b d : Nat} (xA : Blk w A [.slice ao b d]) (O : w.ownsRow base 38 2 (.slice (some ⟨gn, 0, none⟩) c cp) c xs) (h0 : c = 0 → cp = 0) (h1 : 0 < c → ∃ z, xs[0]? = some (.int .i64 z)) : A ≠ gn := by
  intro h
  subst h
  have x := xA.c 0 rfl
  by_cases hc : c = 0
  · have := h0 hc
    subst this
    rcases O.2 with ⟨h', _⟩ | ⟨g', cap', cur, h', _, hg, _, _, h3, _⟩
    · cases h'
    · cases h'
      have : cur = #[] := Array.eq_empty_of_size_eq_zero (by simpa using h3)
      subst this
      simp [World.cell?, hg] at x
  · obtain ⟨z, hz⟩ := h1 (by omega)
    have y := (ownG_blk O).c 0 hz
    rw [x] at y
    cases y
/-- What every operation of the region keeps. -/
def RmI (B4 n k : Nat) (p : Ps) (lz : Array Bool) (az : Act) (W : World) : Prop :=
  (lz.getD 13 false = true → ∀ j, j < 14 → lz.getD j false = true) ∧ (lz.getD 10 false = true → lz.getD 5 false = true) ∧
  (lz.getD 0 false = true → lz.getD 5 false = false → SlG B4 W (az.tmps.getD 33 undef) 0 []) ∧
  (lz.getD 5 false = true → lz.getD 10 false = false → SlG B4 W (az.tmps.getD 38 undef) (n - k) (spF k (n - k) p)) ∧
  (lz.getD 10 false = true → SlG B4 W (az.tmps.getD 43 undef) n (spL n (rtP n k p))) ∧
  (lz.getD 11 false = true → lz.getD 10 false = true ∧ az.tmps.getD 44 undef = .agg #[az.tmps.getD 43 undef]) ∧
  (lz.getD 12 false = true → ∃ A6, az.tmps.getD 6 undef = .pointer (some ⟨A6, 0, none⟩) ∧ B4 ≤ A6 ∧ (lz.getD 13 false = false → Blk W A6 [.slice none 0 0]) ∧ (lz.getD 13 false = true → Blk W A6 [az.tmps.getD 43 undef]))
theorem RmI.start {B4 n k m : Nat} {p : Ps} {az : Act} {W : World} : RmI B4 n k p (Array.replicate m false) az W := by
  unfold RmI
  simp only [replD]
  refine ⟨?_, ?_, ?_, ?_, ?_, ?_, ?_⟩ <;> intro h <;> cases h
theorem RmI.off {B4 n k : Nat} {p : Ps} {lz : Array Bool} {az : Act} {W : World} (h : RmI B4 n k p lz az W) {i : Nat} (hi : i < 14) (hl : lz.getD i true = false) : lz.getD 13 false = false := by
  cases hh : lz.getD 13 false with
  | false => rfl
  | true => have := h.1 hh i hi; rw [getD_tf hl] at this; cases this
theorem RmI.quiet {B4 n k : Nat} {p : Ps} {lz : Array Bool} {az : Act} {W : World} (h : RmI B4 n k p lz az W) (i d : Nat) (v : Value) (hi : i < 14) (hl : lz.getD i true = false) (hn : i ≠ 0 ∧ i ≠ 5 ∧ i ≠ 10 ∧ i ≠ 11 ∧ i ≠ 12 ∧ i ≠ 13) (hd : d ≠ 33 ∧ d ≠ 38 ∧ d ≠ 43 ∧ d ≠ 44 ∧ d ≠ 6) : RmI B4 n k p (lz.setIfInBounds i true) (az.put (some d) v) W := by
  have hz := h.off hi hl
  obtain ⟨n0, n5, n10, n11, n12, n13⟩ := hn
  obtain ⟨d1, d2, d3, d4, d5⟩ := hd
  obtain ⟨_, a2, s1, s2, s3, s4, s5⟩ := h
  unfold RmI
  rw [getD_set_neq n0, getD_set_neq n5, getD_set_neq n10, getD_set_neq n11, getD_set_neq n12, getD_set_neq n13, put_getD_ne d1, put_getD_ne d2, put_getD_ne d3, put_getD_ne d4, put_getD_ne d5]
  exact ⟨(fun h => by rw [hz] at h; cases h), a2, s1, s2, s3, s4, s5⟩
theorem RmI.step {W2 : World} {B4 n k : Nat} {p : Ps} {lz : Array Bool} {az : Act} {W : World} (h : RmI B4 n k p lz az W) (hB : Below W.heap.size W W2) : RmI B4 n k p lz az W2 := by
  obtain ⟨a1, a2, s1, s2, s3, s4, s5⟩ := h
  refine ⟨a1, a2, fun x y => (s1 x y).step hB, fun x y => (s2 x y).step hB, fun x => (s3 x).step hB, s4, fun x => ?_⟩
  obtain ⟨A6, e, l, b, c⟩ := s5 x
  exact ⟨A6, e, l, fun y => (b y).step hB, fun y => (c y).step hB⟩
theorem RmI.op0 {B4 n k : Nat} {p : Ps} {lz : Array Bool} {az : Act} {W : World} (h : RmI B4 n k p lz az W) (hl : lz.getD 0 true = false) (hd : 33 < az.tmps.size) {v : Value} (hv : SlG B4 W v 0 []) : RmI B4 n k p (lz.setIfInBounds 0 true) (az.put (some 33) v) W := by
  have hz := h.off (by decide) hl
  obtain ⟨_, a2, s1, s2, s3, s4, s5⟩ := h
  unfold RmI
  rw [getD_set_eq hl, getD_set_neq (by decide), getD_set_neq (by decide), getD_set_neq (by decide), getD_set_neq (by decide), getD_set_neq (by decide), put_getD_same hd, put_getD_ne (by decide), put_getD_ne (by decide), put_getD_ne (by decide), put_getD_ne (by decide)]
  exact ⟨(fun h => by rw [hz] at h; cases h), a2, fun _ _ => hv, s2, s3, s4, s5⟩
theorem RmI.op5 {W2 : World} {B4 n k : Nat} {p : Ps} {lz : Array Bool} {az : Act} {W : World} (h : RmI B4 n k p lz az W) (hl : lz.getD 5 true = false) (hd : 38 < az.tmps.size) {v : Value} (hv : SlG B4 W2 v (n - k) (spF k (n - k) p)) (hb : ∀ A6, Blk W A6 [.slice none 0 0] → Blk W2 A6 [.slice none 0 0]) : RmI B4 n k p (lz.setIfInBounds 5 true) (az.put (some 38) v) W2 := by
  have hz := h.off (by decide) hl
  obtain ⟨_, a2, s1, s2, s3, s4, s5⟩ := h
  have h10 : lz.getD 10 false = false := by
    cases hh : lz.getD 10 false with
    | false => rfl
    | true => have := a2 hh; rw [getD_tf hl] at this; cases this
  unfold RmI
  rw [getD_set_eq hl, getD_set_neq (by decide), getD_set_neq (by decide), getD_set_neq (by decide), getD_set_neq (by decide), getD_set_neq (by decide), put_getD_ne (by decide), put_getD_same hd, put_getD_ne (by decide), put_getD_ne (by decide), put_getD_ne (by decide), hz, h10]
  refine ⟨(fun h => by cases h), (fun _ => rfl), (fun _ h => by cases h), fun _ _ => hv, (fun h => by cases h), fun x => ?_, fun x => ?_⟩
  · have := (s4 x).1; rw [h10] at this; cases this
  · obtain ⟨A6, e, l, b, _⟩ := s5 x
    exact ⟨A6, e, l, fun _ => hb A6 (b hz), (fun h => by cases h)⟩
theorem RmI.op10 {W2 : World} {B4 n k : Nat} {p : Ps} {lz : Array Bool} {az : Act} {W : World} (h : RmI B4 n k p lz az W) (hl : lz.getD 10 true = false) (h5 : lz.getD 5 false = true) (hd : 43 < az.tmps.size) {v : Value} (hv : SlG B4 W2 v n (spL n (rtP n k p))) (hb : ∀ A6, Blk W A6 [.slice none 0 0] → Blk W2 A6 [.slice none 0 0]) : RmI B4 n k p (lz.setIfInBounds 10 true) (az.put (some 43) v) W2 := by
  have hz := h.off (by decide) hl
  obtain ⟨_, a2, s1, s2, s3, s4, s5⟩ := h
  unfold RmI
  rw [getD_set_eq hl, getD_set_neq (by decide), getD_set_neq (by decide), getD_set_neq (by decide), getD_set_neq (by decide), getD_set_neq (by decide), put_getD_same hd, put_getD_ne (by decide), put_getD_ne (by decide), put_getD_ne (by decide), put_getD_ne (by decide), hz, h5]
  refine ⟨(fun h => by cases h), (fun _ => rfl), (fun _ h => by cases h), (fun _ h => by cases h), fun _ => hv, fun x => ?_, fun x => ?_⟩
  · have := (s4 x).1; rw [getD_tf hl] at this; cases this
  · obtain ⟨A6, e, l, b, _⟩ := s5 x
    exact ⟨A6, e, l, fun _ => hb A6 (b hz), (fun h => by cases h)⟩
theorem RmI.op11 {B4 n k : Nat} {p : Ps} {lz : Array Bool} {az : Act} {W : World} (h : RmI B4 n k p lz az W) (hl : lz.getD 11 true = false) (h10 : lz.getD 10 false = true) (hd : 44 < az.tmps.size) {v : Value} (hv : v = .agg #[az.tmps.getD 43 undef]) : RmI B4 n k p (lz.setIfInBounds 11 true) (az.put (some 44) v) W := by
  have hz := h.off (by decide) hl
  obtain ⟨_, a2, s1, s2, s3, s4, s5⟩ := h
  unfold RmI
  rw [getD_set_eq hl, getD_set_neq (by decide), getD_set_neq (by decide), getD_set_neq (by decide), getD_set_neq (by decide), getD_set_neq (by decide), put_getD_ne (by decide), put_getD_ne (by decide), put_getD_ne (by decide), put_getD_same hd, put_getD_ne (by decide)]
  exact ⟨(fun h => by rw [hz] at h; cases h), a2, s1, s2, s3, fun _ => ⟨h10, hv⟩, s5⟩
theorem RmI.op12 {B4 n k : Nat} {p : Ps} {lz : Array Bool} {az : Act} {W : World} (h : RmI B4 n k p lz az W) (hl : lz.getD 12 true = false) (hd : 6 < az.tmps.size) {A6 : Nat} (hA : B4 ≤ A6) (hb : Blk W A6 [.slice none 0 0]) : RmI B4 n k p (lz.setIfInBounds 12 true) (az.put (some 6) (.pointer (some ⟨A6, 0, none⟩))) W := by
  have hz := h.off (by decide) hl
  obtain ⟨_, a2, s1, s2, s3, s4, s5⟩ := h
  unfold RmI
  rw [getD_set_eq hl, getD_set_neq (by decide), getD_set_neq (by decide), getD_set_neq (by decide), getD_set_neq (by decide), getD_set_neq (by decide), put_getD_ne (by decide), put_getD_ne (by decide), put_getD_ne (by decide), put_getD_ne (by decide), put_getD_same hd, hz]
  exact ⟨(fun h => by cases h), a2, s1, s2, s3, s4, fun _ => ⟨A6, rfl, hA, fun _ => hb, (fun h => by cases h)⟩⟩
theorem RmI.op13 {W2 : World} {B4 n k : Nat} {p : Ps} {lz : Array Bool} {az : Act} {W : World} (h : RmI B4 n k p lz az W) (hl : lz.getD 13 true = false) (hall : ∀ j, j < 14 → j ≠ 13 → lz.getD j false = true) {A6 : Nat} (h6 : az.tmps.getD 6 undef = .pointer (some ⟨A6, 0, none⟩)) (hA : B4 ≤ A6) (hb : Blk W2 A6 [az.tmps.getD 43 undef]) (hv : SlG B4 W2 (az.tmps.getD 43 undef) n (spL n (rtP n k p))) : RmI B4 n k p (lz.setIfInBounds 13 true) az W2 := by
  obtain ⟨_, a2, s1, s2, s3, s4, s5⟩ := h
  unfold RmI
  rw [getD_set_eq hl, getD_set_neq (by decide), getD_set_neq (by decide), getD_set_neq (by decide), getD_set_neq (by decide), getD_set_neq (by decide), hall 5 (by decide) (by decide), hall 10 (by decide) (by decide)]
  refine ⟨fun _ j hj => ?_, (fun _ => rfl), (fun _ h => by cases h), (fun _ h => by cases h), fun _ => hv, fun x => ⟨rfl, (s4 x).2⟩, fun _ => ⟨A6, h6, hA, (fun h => by cases h), fun _ => hb⟩⟩
  by_cases hji : j = 13
  · subst hji; exact getD_set_eq hl
  · rw [getD_set_neq (Ne.symm hji)]; exact hall j hj hji
theorem blk_appended {B4 : Nat} {W W2 : World} {g c cp : Nat} {xs : List Value} (O : W.ownsRow B4 38 2 (.slice (some ⟨g, 0, none⟩) c cp) c xs) (h0 : c = 0 → cp = 0) (h1 : 0 < c → ∃ z, xs[0]? = some (.int .i64 z)) (hg : W.grownBy W2 (Value.ownBlock (.slice (some ⟨g, 0, none⟩) c cp))) (A6 : Nat) (hb : Blk W A6 [.slice none 0 0]) : Blk W2 A6 [.slice none 0 0] := by
  refine blk_grown hb hg ?_
  intro h
  cases h
  exact own_ne hb O h0 h1 rfl
def Vrf8 (R3 gr n cap k _B4 : Nat) (_p : Ps) (_B : Nat) : Nat → Value → World → Prop
  | 1, v, _ => v = .pointer (some ⟨R3, 0, none⟩)
  | 2, v, _ => v = .slice (some ⟨gr, 0, none⟩) n cap
  | 3, v, _ => v = .int .i64 (k : Nat)
  | 4, v, _ => v = .slice (some ⟨gr, k * 2, none⟩) (n - k) (cap - k)
  | 6, v, _ => v = .pointer (some ⟨R3, 0, none⟩)
  | 7, v, _ => v = .slice (some ⟨gr, 0, none⟩) n cap
  | 8, v, _ => v = .int .i64 (k : Nat)
  | 9, v, _ => v = .slice (some ⟨gr, 0, none⟩) k cap
  | _, _, _ => True
theorem Vrf8.mono {R3 gr n cap k B4 : Nat} {p : Ps} {B j : Nat} {v : Value} {W W2 : World} (_hB : Below W.heap.size W W2) (h : Vrf8 R3 gr n cap k B4 p B j v W) : Vrf8 R3 gr n cap k B4 p B j v W2 := by
  unfold Vrf8 at *
  split <;> simp only at h <;> first | exact h | trivial
theorem Vrf8.same {R3 gr n cap k B4 : Nat} {p : Ps} {B j : Nat} {v : Value} {W W2 : World} (h : Vrf8 R3 gr n cap k B4 p B j v W) : Vrf8 R3 gr n cap k B4 p B j v W2 := by
  unfold Vrf8 at *
  split <;> simp only at h <;> first | exact h | trivial
theorem own_setN {w : World} {base g c cp A6 : Nat} {xs : List Value} (O : w.ownsRow base 38 2 (.slice (some ⟨g, 0, none⟩) c cp) c xs) (hne : A6 ≠ g) (u : Value) : (w.setCell ⟨A6, 0, none⟩ u).ownsRow base 38 2 (.slice (some ⟨g, 0, none⟩) c cp) c xs := by
  rcases O with ⟨h0, h1 | ⟨g', cap, cur, h1, h2, h3, h4⟩⟩
  · exact ⟨h0, .inl h1⟩
  · refine ⟨h0, .inr ⟨g', cap, cur, h1, h2, ?_, h4⟩⟩
    have e : g = g' := by cases h1; rfl
    rw [Below.heap_setCell _ _ _ _ (by show g' ≠ A6; omega)]
    exact h3
theorem RmI.end8 {B4 n k : Nat} {p : Ps} {lz : Array Bool} {az : Act} {W : World} {w0 : World} (hB4 : B4 = w0.heap.size) (h : RmI B4 n k p lz az W) (hl : lz.getD 13 false = true) : ∃ A6 g cp, az.tmps.getD 6 undef = .pointer (some ⟨A6, 0, none⟩) ∧ w0.heap.size ≤ A6 ∧ Blk W A6 [.slice (some ⟨g, 0, none⟩) n cp] ∧ W.ownsRow w0.heap.size 38 2 (.slice (some ⟨g, 0, none⟩) n cp) n (spL n (rtP n k p)) := by
  subst hB4
  obtain ⟨A6, e6, l6, _, b6⟩ := h.2.2.2.2.2.2 (h.1 hl 12 (by decide))
  obtain ⟨g, cp, e, O, _⟩ := h.2.2.2.2.1 (h.1 hl 10 (by decide))
  replace b6 := b6 hl
  rw [e] at b6
  exact ⟨A6, g, cp, e6, l6, b6, O⟩
def Srf8 (_R3 _gr n _cap k B4 : Nat) (p : Ps) (lz : Array Bool) (az : Act) (W : World) : Prop := RmI B4 n k p lz az W

def Jrf8 (R3 gr n cap k B4 : Nat) (p : Ps) (w0 : World) (a0 : Act) (lz : Array Bool) (az : Act) (W : World) : Prop := InvQ (w0.heap.size) [some 33, some 34, some 35, some 36, some 37, some 38, some 39, some 40, some 41, some 42, some 43, some 44, some 6, none] (Vrf8 R3 gr n cap k B4 p (w0.heap.size)) w0 a0 lz az W ∧ Srf8 R3 gr n cap k B4 p lz az W
set_option maxRecDepth 100000 in
set_option maxHeartbeats 4000000 in
theorem rf8 {Q : Exit → Act → World → Prop} {R3 gr n cap k B4 : Nat} {p : Ps}  {w0 : World} {a0 : Act} {idq : Nat} {t0 t1 t2 t3 t4 t5 t6 t7 t8 t9 t10 t11 t12 t13 : TypeId} {q0 q1 q2 q3 q4 q5 q6 q7 q8 q9 q10 q11 q12 q13 : String}
    (hB4 : B4 = w0.heap.size) (hkn : k < n) (hn14 : n ≤ 14) (fce : k ≤ cap) (cne : ¬ cap = k) (fle : k ≤ n) (hSP : SpIn w0 (some ⟨gr, 0, none⟩) n p) (h3 : a0.tmps[3]? = some (.pointer (some ⟨R3, 0, none⟩))) (h5 : a0.tmps[5]? = some (.int .i64 (k : Nat))) (k0 : w0.cell? ⟨R3, 0, none⟩ = some (.slice (some ⟨gr, 0, none⟩) n cap)) (l0 : (⟨R3, 0, none⟩ : Addr).block < w0.heap.size) (hz : a0.tmps.size = 72)
    (hQ : ∀ aq W, aq.tmps.size = a0.tmps.size → aq.defers = a0.defers → (∀ e, e ∉ ([33, 34, 35, 36, 37, 38, 39, 40, 41, 42, 43, 44, 6] : List Nat) → aq.tmps[e]? = a0.tmps[e]?) → Vrf8 R3 gr n cap k B4 p (w0.heap.size) 13 undef W → Below (w0.heap.size) w0 W → (∃ A6 g cp, aq.tmps.getD 6 undef = .pointer (some ⟨A6, 0, none⟩) ∧ w0.heap.size ≤ A6 ∧ Blk W A6 [.slice (some ⟨g, 0, none⟩) n cp] ∧ W.ownsRow w0.heap.size 38 2 (.slice (some ⟨g, 0, none⟩) n cp) n (spL n (rtP n k p))) → Q .normal aq W) :
    (Code.region idq #[{ dst := some 33, op := Op.buildSlice 24 0 #[], type := t0, pos := q0, after := #[], guard := none },
    { dst := some 34, op := Op.fieldAddr 26 (Operand.tmp 3) 0, type := t1, pos := q1, after := #[], guard := none },
    { dst := some 35, op := Op.load 24 (Operand.tmp 34), type := t2, pos := q2, after := #[{ on := 1, ground := Ground.data }], guard := none },
    { dst := some 36, op := Op.move (Operand.tmp 5), type := t3, pos := q3, after := #[], guard := none },
    { dst := some 37, op := Op.slice 24 (Operand.tmp 35) (some (Operand.tmp 36)) none none, type := t4, pos := q4, after := #[{ on := 2, ground := Ground.data }, { on := 3, ground := Ground.data }], guard := none },
    { dst := some 38, op := Op.call { callee := Callee.builtin Builtin.append, args := #[Operand.tmp 33, Operand.tmp 37], argTypes := #[24, 24] }, type := t5, pos := q5, after := #[{ on := 0, ground := Ground.data }, { on := 4, ground := Ground.data }], guard := none },
    { dst := some 39, op := Op.fieldAddr 26 (Operand.tmp 3) 0, type := t6, pos := q6, after := #[], guard := none },
    { dst := some 40, op := Op.load 24 (Operand.tmp 39), type := t7, pos := q7, after := #[{ on := 6, ground := Ground.data }], guard := none },
    { dst := some 41, op := Op.move (Operand.tmp 5), type := t8, pos := q8, after := #[], guard := none },
    { dst := some 42, op := Op.slice 24 (Operand.tmp 40) none (some (Operand.tmp 41)) none, type := t9, pos := q9, after := #[{ on := 7, ground := Ground.data }, { on := 8, ground := Ground.data }], guard := none },
    { dst := some 43, op := Op.call { callee := Callee.builtin Builtin.append, args := #[Operand.tmp 38, Operand.tmp 42], argTypes := #[24, 24] }, type := t10, pos := q10, after := #[{ on := 5, ground := Ground.data }, { on := 9, ground := Ground.data }, { on := 5, ground := Ground.chain }], guard := none },
    { dst := some 44, op := Op.build 26 #[(0, Operand.tmp 43)], type := t11, pos := q11, after := #[{ on := 10, ground := Ground.data }], guard := none },
    { dst := some 6, op := Op.alloc 26, type := t12, pos := q12, after := #[], guard := none },
    { dst := none, op := Op.store 26 (Operand.tmp 6) (Operand.tmp 44), type := t13, pos := q13, after := #[{ on := 12, ground := Ground.data }, { on := 11, ground := Ground.data }, { on := 10, ground := Ground.chain }, { on := 0, ground := Ground.phase }, { on := 1, ground := Ground.phase }, { on := 2, ground := Ground.phase }, { on := 3, ground := Ground.phase }, { on := 4, ground := Ground.phase }, { on := 5, ground := Ground.phase }, { on := 6, ground := Ground.phase }, { on := 7, ground := Ground.phase }, { on := 8, ground := Ground.phase }, { on := 9, ground := Ground.phase }, { on := 10, ground := Ground.phase }, { on := 11, ground := Ground.phase }, { on := 12, ground := Ground.phase }], guard := none }] true).wp Try.prog Q a0 w0 := by
  have hS : distS [some 33, some 34, some 35, some 36, some 37, some 38, some 39, some 40, some 41, some 42, some 43, some 44, some 6, none] = true := rfl
  refine wp_region_inv (by kernel_rfl) (Jrf8 R3 gr n cap k B4 p w0 a0) ⟨⟨rfl, rfl, rfl, fun _ _ => rfl, (Below.refl _ w0).drew, fun j d hj => ?_, fun j hj => ?_⟩, RmI.start⟩ ?_ ?_
  · exfalso
    rw [Array.getD_eq_getD_getElem?, Array.getElem?_replicate] at hj
    split at hj <;> simp at hj
  · exfalso
    rw [Array.getD_eq_getD_getElem?, Array.getElem?_replicate] at hj
    split at hj <;> simp at hj
  · intro lq aq W iq oq ⟨hJ, hs⟩ hl ho hall
    have hJ2 := hJ
    obtain ⟨z1, z2, z3, z4, z5, z6, z7⟩ := hJ
    have g3 : aq.tmps.getD 3 undef = .pointer (some ⟨R3, 0, none⟩) := by rw [Array.getD_eq_getD_getElem?, z4 3 (by decide), h3]; rfl
    have g5 : aq.tmps.getD 5 undef = .int .i64 (k : Nat) := by rw [Array.getD_eq_getD_getElem?, z4 5 (by decide), h5]; rfl
    have c0 : W.cell? ⟨R3, 0, none⟩ = some (.slice (some ⟨gr, 0, none⟩) n cap) := (z5.cell l0).trans k0
    match iq, ho with
    | 0, ho =>
      cases ho
      refine wpOp_of rfl rfl ?_
      have hq := fun (W2 : World) (hB : Below W.heap.size W W2) (v : Value) (hv : SlG B4 W2 v 0 []) => (hs.step hB).op0 hl (by rw [z2, hz]; decide) hv
      have hK := fun (v : Value) (W2 : World) hW hT hv (hs : Srf8 R3 gr n cap k B4 p (lq.setIfInBounds 0 true) (aq.put (some 33) v) W2) => show (Jrf8 R3 gr n cap k B4 p w0 a0) (lq.setIfInBounds 0 true) (aq.put (some 33) v) W2 from ⟨hJ2.put hS 0 33 rfl (by omega) (W' := W2) hW hT v hv, hs⟩
      clear ho hall hl hQ
      generalize (Jrf8 R3 gr n cap k B4 p w0 a0) (lq.setIfInBounds 0 true) = K at hK ⊢
      clear hJ2 hS z1 z2 z3 z4 z6 z7
      have zs := z5.size
      go_simp
      exact hK _ _ (z5.alloc z5.size _) (fun _ _ h => h.mono ((Below.refl _ _).alloc (Nat.le_refl _) _)) trivial (hq _ ((Below.refl _ _).alloc (Nat.le_refl _) _) _ ⟨_, 0, rfl, World.ownsRow_made W #[] 0 (by omega) (by decide) rfl, fun _ => rfl, fun h => absurd h (by decide)⟩)
    | 1, ho =>
      cases ho
      refine wpOp_of rfl rfl ?_
      have hq := fun (v : Value) => hs.quiet 1 34 v (by decide) hl (by decide) (by decide)
      have hK := fun (v : Value) (W2 : World) hW hT hv (hs : Srf8 R3 gr n cap k B4 p (lq.setIfInBounds 1 true) (aq.put (some 34) v) W2) => show (Jrf8 R3 gr n cap k B4 p w0 a0) (lq.setIfInBounds 1 true) (aq.put (some 34) v) W2 from ⟨hJ2.put hS 1 34 rfl (by omega) (W' := W2) hW hT v hv, hs⟩
      clear ho hall hl hQ
      generalize (Jrf8 R3 gr n cap k B4 p w0 a0) (lq.setIfInBounds 1 true) = K at hK ⊢
      clear hJ2 hS z1 z2 z3 z4 z6 z7
      go_simp
      exact hK _ _ z5 (fun _ _ h => h) rfl (hq _)
    | 2, ho =>
      cases ho
      refine wpOp_of rfl rfl ?_
      have f1 : (aq.tmps.getD 34 undef) = .pointer (some ⟨R3, 0, none⟩) := z6 1 34 (hall { on := 1, ground := Ground.data } (by simp) rfl) rfl
      have hq := fun (v : Value) => hs.quiet 2 35 v (by decide) hl (by decide) (by decide)
      have hK := fun (v : Value) (W2 : World) hW hT hv (hs : Srf8 R3 gr n cap k B4 p (lq.setIfInBounds 2 true) (aq.put (some 35) v) W2) => show (Jrf8 R3 gr n cap k B4 p w0 a0) (lq.setIfInBounds 2 true) (aq.put (some 35) v) W2 from ⟨hJ2.put hS 2 35 rfl (by omega) (W' := W2) hW hT v hv, hs⟩
      clear ho hall hl hQ
      generalize (Jrf8 R3 gr n cap k B4 p w0 a0) (lq.setIfInBounds 2 true) = K at hK ⊢
      clear hJ2 hS z1 z2 z3 z4 z6 z7
      go_simp
      exact hK _ _ z5 (fun _ _ h => h) rfl (hq _)
    | 3, ho =>
      cases ho
      refine wpOp_of rfl rfl ?_
      have hq := fun (v : Value) => hs.quiet 3 36 v (by decide) hl (by decide) (by decide)
      have hK := fun (v : Value) (W2 : World) hW hT hv (hs : Srf8 R3 gr n cap k B4 p (lq.setIfInBounds 3 true) (aq.put (some 36) v) W2) => show (Jrf8 R3 gr n cap k B4 p w0 a0) (lq.setIfInBounds 3 true) (aq.put (some 36) v) W2 from ⟨hJ2.put hS 3 36 rfl (by omega) (W' := W2) hW hT v hv, hs⟩
      clear ho hall hl hQ
      generalize (Jrf8 R3 gr n cap k B4 p w0 a0) (lq.setIfInBounds 3 true) = K at hK ⊢
      clear hJ2 hS z1 z2 z3 z4 z6 z7
      go_simp
      exact hK _ _ z5 (fun _ _ h => h) rfl (hq _)
    | 4, ho =>
      cases ho
      refine wpOp_of rfl rfl ?_
      have f2 : (aq.tmps.getD 35 undef) = .slice (some ⟨gr, 0, none⟩) n cap := z6 2 35 (hall { on := 2, ground := Ground.data } (by simp) rfl) rfl
      have f3 : (aq.tmps.getD 36 undef) = .int .i64 (k : Nat) := z6 3 36 (hall { on := 3, ground := Ground.data } (by simp) rfl) rfl
      have hq := fun (v : Value) => hs.quiet 4 37 v (by decide) hl (by decide) (by decide)
      have hK := fun (v : Value) (W2 : World) hW hT hv (hs : Srf8 R3 gr n cap k B4 p (lq.setIfInBounds 4 true) (aq.put (some 37) v) W2) => show (Jrf8 R3 gr n cap k B4 p w0 a0) (lq.setIfInBounds 4 true) (aq.put (some 37) v) W2 from ⟨hJ2.put hS 4 37 rfl (by omega) (W' := W2) hW hT v hv, hs⟩
      clear ho hall hl hQ
      generalize (Jrf8 R3 gr n cap k B4 p w0 a0) (lq.setIfInBounds 4 true) = K at hK ⊢
      clear hJ2 hS z1 z2 z3 z4 z6 z7
      go_simp
      exact hK _ _ z5 (fun _ _ h => h) rfl (hq _)
    | 5, ho =>
      cases ho
      refine wpOp_of rfl rfl ?_
      have f4 : (aq.tmps.getD 37 undef) = .slice (some ⟨gr, k * 2, none⟩) (n - k) (cap - k) := z6 4 37 (hall { on := 4, ground := Ground.data } (by simp) rfl) rfl
      have hq := fun (W2 : World) (v : Value) hv hb => hs.op5 (W2 := W2) (v := v) hl (by rw [z2, hz]; decide) hv hb
      obtain ⟨gq, cq, eq, ow, hq0, hq1⟩ := hs.2.2.1 (hall { on := 0, ground := Ground.data } (by simp) rfl) (getD_tf hl)
      have hSp := hSP.step z5
      obtain ⟨i0, hi, hz0, hz1, hz2⟩ := info_parts Try.infoSpotR
      have hK := fun (v : Value) (W2 : World) hW hT hv (hs : Srf8 R3 gr n cap k B4 p (lq.setIfInBounds 5 true) (aq.put (some 38) v) W2) => show (Jrf8 R3 gr n cap k B4 p w0 a0) (lq.setIfInBounds 5 true) (aq.put (some 38) v) W2 from ⟨hJ2.put hS 5 38 rfl (by omega) (W' := W2) hW hT v hv, hs⟩
      clear ho hall hl hQ
      generalize (Jrf8 R3 gr n cap k B4 p w0 a0) (lq.setIfInBounds 5 true) = K at hK ⊢
      clear hJ2 hS z1 z2 z3 z4 z6 z7
      have zs := z5.size
      refine wp_append_own (P := Try.prog) W (Operand.tmp 33) (Operand.tmp 37) 24 rfl B4 38 i0 (.agg #[.int .i64 0, .int .i64 0]) 2 16 Try.underlying24 hi hz0 hz1 hz2 rfl (by decide) (.slice (some ⟨gq, 0, none⟩) 0 cq) 0 ([]) eq ow ⟨gr, k * 2, none⟩ (n - k) (cap - k) (spF k (n - k) p) f4 (spF_len _ _ _) (spF_cell hSp (by omega)) (spF_one _ _ _) (by unfold maxLen; omega) (by omega) (by omega) ?_
      intro v' w' ho2 hgr _
      rw [Nat.zero_add, List.nil_append] at ho2
      obtain ⟨gn, cn, rfl, _, _, _⟩ := ownG_form ho2 (by omega)
      refine hK _ w' (z5.grown hgr (by omega) (fun k hk => by have := (ow.lt k hk).1; omega)) (fun _ _ h => Vrf8.same h) trivial (hq w' _ ⟨gn, cn, rfl, ho2, fun h => absurd h (by omega), fun _ => ?_⟩ (blk_appended ow hq0 hq1 hgr))
      exact ⟨_, spL_at (by omega)⟩
    | 6, ho =>
      cases ho
      refine wpOp_of rfl rfl ?_
      have hq := fun (v : Value) => hs.quiet 6 39 v (by decide) hl (by decide) (by decide)
      have hK := fun (v : Value) (W2 : World) hW hT hv (hs : Srf8 R3 gr n cap k B4 p (lq.setIfInBounds 6 true) (aq.put (some 39) v) W2) => show (Jrf8 R3 gr n cap k B4 p w0 a0) (lq.setIfInBounds 6 true) (aq.put (some 39) v) W2 from ⟨hJ2.put hS 6 39 rfl (by omega) (W' := W2) hW hT v hv, hs⟩
      clear ho hall hl hQ
      generalize (Jrf8 R3 gr n cap k B4 p w0 a0) (lq.setIfInBounds 6 true) = K at hK ⊢
      clear hJ2 hS z1 z2 z3 z4 z6 z7
      go_simp
      exact hK _ _ z5 (fun _ _ h => h) rfl (hq _)
    | 7, ho =>
      cases ho
      refine wpOp_of rfl rfl ?_
      have f6 : (aq.tmps.getD 39 undef) = .pointer (some ⟨R3, 0, none⟩) := z6 6 39 (hall { on := 6, ground := Ground.data } (by simp) rfl) rfl
      have hq := fun (v : Value) => hs.quiet 7 40 v (by decide) hl (by decide) (by decide)
      have hK := fun (v : Value) (W2 : World) hW hT hv (hs : Srf8 R3 gr n cap k B4 p (lq.setIfInBounds 7 true) (aq.put (some 40) v) W2) => show (Jrf8 R3 gr n cap k B4 p w0 a0) (lq.setIfInBounds 7 true) (aq.put (some 40) v) W2 from ⟨hJ2.put hS 7 40 rfl (by omega) (W' := W2) hW hT v hv, hs⟩
      clear ho hall hl hQ
      generalize (Jrf8 R3 gr n cap k B4 p w0 a0) (lq.setIfInBounds 7 true) = K at hK ⊢
      clear hJ2 hS z1 z2 z3 z4 z6 z7
      go_simp
      exact hK _ _ z5 (fun _ _ h => h) rfl (hq _)
    | 8, ho =>
      cases ho
      refine wpOp_of rfl rfl ?_
      have hq := fun (v : Value) => hs.quiet 8 41 v (by decide) hl (by decide) (by decide)
      have hK := fun (v : Value) (W2 : World) hW hT hv (hs : Srf8 R3 gr n cap k B4 p (lq.setIfInBounds 8 true) (aq.put (some 41) v) W2) => show (Jrf8 R3 gr n cap k B4 p w0 a0) (lq.setIfInBounds 8 true) (aq.put (some 41) v) W2 from ⟨hJ2.put hS 8 41 rfl (by omega) (W' := W2) hW hT v hv, hs⟩
      clear ho hall hl hQ
      generalize (Jrf8 R3 gr n cap k B4 p w0 a0) (lq.setIfInBounds 8 true) = K at hK ⊢
      clear hJ2 hS z1 z2 z3 z4 z6 z7
      go_simp
      exact hK _ _ z5 (fun _ _ h => h) rfl (hq _)
    | 9, ho =>
      cases ho
      refine wpOp_of rfl rfl ?_
      have f7 : (aq.tmps.getD 40 undef) = .slice (some ⟨gr, 0, none⟩) n cap := z6 7 40 (hall { on := 7, ground := Ground.data } (by simp) rfl) rfl
      have f8 : (aq.tmps.getD 41 undef) = .int .i64 (k : Nat) := z6 8 41 (hall { on := 8, ground := Ground.data } (by simp) rfl) rfl
      have hq := fun (v : Value) => hs.quiet 9 42 v (by decide) hl (by decide) (by decide)
      have hK := fun (v : Value) (W2 : World) hW hT hv (hs : Srf8 R3 gr n cap k B4 p (lq.setIfInBounds 9 true) (aq.put (some 42) v) W2) => show (Jrf8 R3 gr n cap k B4 p w0 a0) (lq.setIfInBounds 9 true) (aq.put (some 42) v) W2 from ⟨hJ2.put hS 9 42 rfl (by omega) (W' := W2) hW hT v hv, hs⟩
      clear ho hall hl hQ
      generalize (Jrf8 R3 gr n cap k B4 p w0 a0) (lq.setIfInBounds 9 true) = K at hK ⊢
      clear hJ2 hS z1 z2 z3 z4 z6 z7
      go_simp
      exact hK _ _ z5 (fun _ _ h => h) rfl (hq _)
    | 10, ho =>
      cases ho
      refine wpOp_of rfl rfl ?_
      have f9 : (aq.tmps.getD 42 undef) = .slice (some ⟨gr, 0, none⟩) k cap := z6 9 42 (hall { on := 9, ground := Ground.data } (by simp) rfl) rfl
      have h5 := hall { on := 5, ground := Ground.data } (by simp) rfl
      have hq := fun (W2 : World) (v : Value) hv hb => hs.op10 (W2 := W2) (v := v) hl h5 (by rw [z2, hz]; decide) hv hb
      obtain ⟨gq, cq, eq, ow, hq0, hq1⟩ := hs.2.2.2.1 h5 (getD_tf hl)
      have hSp := hSP.step z5
      obtain ⟨i0, hi, hz0, hz1, hz2⟩ := info_parts Try.infoSpotR
      have hK := fun (v : Value) (W2 : World) hW hT hv (hs : Srf8 R3 gr n cap k B4 p (lq.setIfInBounds 10 true) (aq.put (some 43) v) W2) => show (Jrf8 R3 gr n cap k B4 p w0 a0) (lq.setIfInBounds 10 true) (aq.put (some 43) v) W2 from ⟨hJ2.put hS 10 43 rfl (by omega) (W' := W2) hW hT v hv, hs⟩
      clear ho hall hl hQ
      generalize (Jrf8 R3 gr n cap k B4 p w0 a0) (lq.setIfInBounds 10 true) = K at hK ⊢
      clear hJ2 hS z1 z2 z3 z4 z6 z7
      have zs := z5.size
      refine wp_append_own (P := Try.prog) W (Operand.tmp 38) (Operand.tmp 42) 24 rfl B4 38 i0 (.agg #[.int .i64 0, .int .i64 0]) 2 16 Try.underlying24 hi hz0 hz1 hz2 rfl (by decide) (.slice (some ⟨gq, 0, none⟩) (n - k) cq) (n - k) (spF k (n - k) p) eq ow ⟨gr, 0, none⟩ (k) (cap) (spF 0 (k) p) f9 (spF_len _ _ _) (spF_cell hSp (by omega)) (spF_one _ _ _) (by unfold maxLen; omega) (by omega) (by omega) ?_
      intro v' w' ho2 hgr _
      rw [show n - k + k = n by omega, spF_rot p hkn] at ho2
      obtain ⟨gn, cn, rfl, _, _, _⟩ := ownG_form ho2 (by omega)
      refine hK _ w' (z5.grown hgr (by omega) (fun k hk => by have := (ow.lt k hk).1; omega)) (fun _ _ h => Vrf8.same h) trivial (hq w' _ ⟨gn, cn, rfl, ho2, fun h => absurd h (by omega), fun _ => ?_⟩ (blk_appended ow hq0 hq1 hgr))
      exact ⟨_, spL_at (by omega)⟩
    | 11, ho =>
      cases ho
      refine wpOp_of rfl rfl ?_
      have hq := fun (v : Value) hv => hs.op11 (v := v) hl (hall { on := 10, ground := Ground.data } (by simp) rfl) (by rw [z2, hz]; decide) hv
      obtain ⟨gq, cq, eq, _⟩ := hs.2.2.2.2.1 (hall { on := 10, ground := Ground.data } (by simp) rfl)
      rw [eq] at hq
      rw [Array.getD_eq_getD_getElem?] at eq
      have hK := fun (v : Value) (W2 : World) hW hT hv (hs : Srf8 R3 gr n cap k B4 p (lq.setIfInBounds 11 true) (aq.put (some 44) v) W2) => show (Jrf8 R3 gr n cap k B4 p w0 a0) (lq.setIfInBounds 11 true) (aq.put (some 44) v) W2 from ⟨hJ2.put hS 11 44 rfl (by omega) (W' := W2) hW hT v hv, hs⟩
      clear ho hall hl hQ
      generalize (Jrf8 R3 gr n cap k B4 p w0 a0) (lq.setIfInBounds 11 true) = K at hK ⊢
      clear hJ2 hS z1 z2 z3 z4 z6 z7
      go_simp
      exact hK _ _ z5 (fun _ _ h => h) trivial (hq _ rfl)
    | 12, ho =>
      cases ho
      refine wpOp_of rfl rfl ?_
      have hq := fun (W2 : World) (hB : Below W.heap.size W W2) (A6 : Nat) hA hb => (hs.step hB).op12 (A6 := A6) hl (by rw [z2, hz]; decide) hA hb
      have hK := fun (v : Value) (W2 : World) hW hT hv (hs : Srf8 R3 gr n cap k B4 p (lq.setIfInBounds 12 true) (aq.put (some 6) v) W2) => show (Jrf8 R3 gr n cap k B4 p w0 a0) (lq.setIfInBounds 12 true) (aq.put (some 6) v) W2 from ⟨hJ2.put hS 12 6 rfl (by omega) (W' := W2) hW hT v hv, hs⟩
      clear ho hall hl hQ
      generalize (Jrf8 R3 gr n cap k B4 p w0 a0) (lq.setIfInBounds 12 true) = K at hK ⊢
      clear hJ2 hS z1 z2 z3 z4 z6 z7
      have zs := z5.size
      go_simp
      exact hK _ _ (z5.alloc z5.size _) (fun _ _ h => h.mono ((Below.refl _ _).alloc (Nat.le_refl _) _)) trivial (hq _ ((Below.refl _ _).alloc (Nat.le_refl _) _) _ (by omega) (Blk.new W [.slice none 0 0] _ rfl))
    | 13, ho =>
      cases ho
      refine wpOp_of rfl rfl ?_
      have hA : ∀ j, j < 14 → j ≠ 13 → lq.getD j false = true := fun j hj hn => match j, hj, hn with | 0, _, _ => hall { on := 0, ground := Ground.phase } (by simp) rfl | 1, _, _ => hall { on := 1, ground := Ground.phase } (by simp) rfl | 2, _, _ => hall { on := 2, ground := Ground.phase } (by simp) rfl | 3, _, _ => hall { on := 3, ground := Ground.phase } (by simp) rfl | 4, _, _ => hall { on := 4, ground := Ground.phase } (by simp) rfl | 5, _, _ => hall { on := 5, ground := Ground.phase } (by simp) rfl | 6, _, _ => hall { on := 6, ground := Ground.phase } (by simp) rfl | 7, _, _ => hall { on := 7, ground := Ground.phase } (by simp) rfl | 8, _, _ => hall { on := 8, ground := Ground.phase } (by simp) rfl | 9, _, _ => hall { on := 9, ground := Ground.phase } (by simp) rfl | 10, _, _ => hall { on := 10, ground := Ground.chain } (by simp) rfl | 11, _, _ => hall { on := 11, ground := Ground.data } (by simp) rfl | 12, _, _ => hall { on := 12, ground := Ground.data } (by simp) rfl | 13, _, hn => absurd rfl hn | j + 14, hj, _ => absurd hj (by omega)
      have hq := fun (W2 : World) (A6 : Nat) h6 hA6 hb hv => hs.op13 (W2 := W2) (A6 := A6) hl hA h6 hA6 hb hv
      obtain ⟨A6, e6, l6, b6, _⟩ := hs.2.2.2.2.2.2 (hA 12 (by decide) (by decide))
      replace b6 := b6 (getD_tf hl)
      obtain ⟨gq, cq, eq, ow, hq0, hq1⟩ := hs.2.2.2.2.1 (hA 10 (by decide) (by decide))
      have e44 := (hs.2.2.2.2.2.1 (hA 11 (by decide) (by decide))).2
      rw [eq] at e44 hq
      have hne := own_ne b6 ow hq0 hq1
      have y0 := b6.c 0 rfl; have y1 := b6.f 0 rfl; have y2 := b6.lt
      have hK := fun (W2 : World) hW hT hv (hs : Srf8 R3 gr n cap k B4 p (lq.setIfInBounds 13 true) aq W2) => show (Jrf8 R3 gr n cap k B4 p w0 a0) (lq.setIfInBounds 13 true) aq W2 from ⟨hJ2.world 13 rfl (W' := W2) hW hT hv, hs⟩
      clear ho hall hl hQ
      generalize (Jrf8 R3 gr n cap k B4 p w0 a0) (lq.setIfInBounds 13 true) = K at hK ⊢
      clear hJ2 hS z1 z2 z3 z4 z6 z7
      have zs := z5.size
      clear eq
      go_simp
      refine hK _ (z5.setCell (p := ⟨A6, 0, none⟩) (by show _ ≤ A6; omega) _) (fun _ _ h => Vrf8.same h) trivial (hq _ A6 e6 l6 (b6.setI 0 (by simp) _) ⟨gq, cq, rfl, ?_, hq0, hq1⟩)
      exact own_setN ow hne _
    | iq + 14, ho => simp at ho
  · intro lq aq W ⟨hJ, hs⟩ hr
    obtain ⟨z1, z2, z3, z4, z5, z6, z7⟩ := hJ
    have hl := listed_of hr [12, 0, 1, 2, 3, 4, 5, 6, 7, 8, 9, 10, 11, 13] [] (by simp) (by kernel_rfl) (by rw [z1]; decide)
    exact hQ aq W z2 z3 (fun e he => z4 e (by simpa using he)) (z7 13 (hl 13 (by simp)) rfl) z5 (RmI.end8 hB4 hs (hl 13 (by simp)))
end Go.Proofs.Ytbhhegmlfclhbaa
