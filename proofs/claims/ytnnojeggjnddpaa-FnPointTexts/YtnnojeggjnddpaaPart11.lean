/- Part 11 of the walks that the proof leans on. -/
import Derived.Test.YtnnojeggjnddpaaPart10
import Derived.Lib.IndexLaws
import Derived.Deep.RegionHeld3
import Derived.Test.YtnnojeggjnddpaaPart2
import Derived.Test.YtnnojeggjnddpaaPart6
/- A text cut at a byte: the reckoning, and strings.Cut. -/
namespace Go.Proofs.Ytnnojeggjnddpaa
open Go.RowKit
/-- What stands ahead of a byte, and behind it. -/
def cutA (c : Nat) (l : List Nat) : List Nat := l.takeWhile (fun b => b != c)
def cutB (c : Nat) (l : List Nat) : List Nat := (l.dropWhile (fun b => b != c)).tail
theorem cut_not {c : Nat} : ∀ {l : List Nat}, c ∉ l → cutA c l = l ∧ cutB c l = []
  | [], _ => ⟨rfl, rfl⟩
  | x :: t, h => by
    have h1 : (x != c) = true := by
      rw [bne_iff_ne]
      rintro rfl
      exact h List.mem_cons_self
    obtain ⟨e1, e2⟩ := cut_not (c := c) (l := t) fun h2 => h (List.mem_cons_of_mem _ h2)
    unfold cutA cutB at *
    rw [List.takeWhile_cons_of_pos (p := fun b => b != c) h1, List.dropWhile_cons_of_pos (p := fun b => b != c) h1, e1]
    exact ⟨rfl, e2⟩
theorem cut_in {c : Nat} : ∀ {l : List Nat}, c ∈ l → l = cutA c l ++ c :: cutB c l ∧ c ∉ cutA c l
  | [], h => by simp at h
  | x :: t, h => by
    by_cases hx : x = c
    · subst hx
      unfold cutA cutB
      simp
    · have h1 : (x != c) = true := bne_iff_ne.2 hx
      have h2 : c ∈ t := by
        rcases List.mem_cons.1 h with h | h
        · exact absurd h.symm hx
        · exact h
      obtain ⟨e1, e2⟩ := cut_in h2
      unfold cutA cutB at *
      rw [List.takeWhile_cons_of_pos (p := fun b => b != c) h1, List.dropWhile_cons_of_pos (p := fun b => b != c) h1]
      refine ⟨by rw [List.cons_append, ← e1], fun h3 => ?_⟩
      rcases List.mem_cons.1 h3 with h3 | h3
      · exact hx h3.symm
      · exact e2 h3
theorem cut_len (c : Nat) (l : List Nat) : (cutA c l).length ≤ l.length := (List.takeWhile_sublist _).length_le
/-- Where a byte stands first. -/
def ixC (c : Nat) (l : List Nat) : Int := if c ∈ l then ((cutA c l).length : Int) else -1
theorem ix_cut (c : UInt8) : ∀ l : List UInt8, Lib.indexByte l c = ixC c.toNat (l.map UInt8.toNat)
  | [] => by simp [Lib.indexByte, ixC]
  | b :: t => by
    have ih := ix_cut c t
    unfold Lib.indexByte
    by_cases hb : b = c
    · subst hb
      unfold ixC cutA
      simp
    · have h1 : (b == c) = false := beq_eq_false_iff_ne.2 hb
      have h2 : b.toNat ≠ c.toNat := fun h => hb (UInt8.toNat_inj.1 h)
      have h3 : (b.toNat != c.toNat) = true := bne_iff_ne.2 h2
      rw [h1]
      simp only [Bool.false_eq_true, if_false]
      rw [ih]
      unfold ixC
      by_cases hm : c.toNat ∈ t.map UInt8.toNat
      · have h4 : ((((cutA c.toNat (t.map UInt8.toNat)).length : Int)) == -1) = false := beq_eq_false_iff_ne.2 (by omega)
        have h5 : c.toNat ∈ (b :: t).map UInt8.toNat := by rw [List.map_cons]; exact List.mem_cons_of_mem _ hm
        simp only [if_pos hm, h4, if_pos h5, Bool.false_eq_true, if_false]
        unfold cutA
        rw [List.map_cons, List.takeWhile_cons_of_pos (p := fun x => x != c.toNat) h3]
        simp
      · have h5 : c.toNat ∉ (b :: t).map UInt8.toNat := by
          rw [List.map_cons]
          intro h
          rcases List.mem_cons.1 h with h | h
          · exact h2 h.symm
          · exact hm h
        simp only [if_neg hm, if_neg h5]
        rfl
theorem cut_ex {s : ByteArray} {c : Nat} (h : c ∈ btL s) : s.extract 0 (cutA c (btL s)).length = strL (cutA c (btL s)) ∧ s.extract ((cutA c (btL s)).length + 1) s.size = strL (cutB c (btL s)) := by
  obtain ⟨e, _⟩ := cut_in h
  obtain ⟨a, ha⟩ : ∃ a, a = cutA c (btL s) := ⟨_, rfl⟩
  obtain ⟨b, hb⟩ : ∃ b, b = cutB c (btL s) := ⟨_, rfl⟩
  rw [← ha, ← hb] at e ⊢
  constructor
  · rw [← strL_btL (s.extract 0 a.length), btL_extract, e]
    simp
  · rw [← strL_btL (s.extract (a.length + 1) s.size), btL_extract, ← btL_len, e]
    congr 1
    rw [show a ++ c :: b = (a ++ [c]) ++ b by simp, List.drop_left' (by simp), List.take_of_length_le (by simp; omega)]
theorem ix_bt (s : ByteArray) (c : UInt8) : Lib.indexByte s.data.toList c = ixC c.toNat (btL s) := ix_cut c _
set_option maxRecDepth 100000 in
set_option maxHeartbeats 1000000 in
theorem index1_any (s : ByteArray) (c : UInt8) (hm : s.size ≤ 9223372036854775807) (w : World) : Calls Try.prog 116 #[.string s, .string ⟨#[c]⟩] w (VP (.int .i64 (ixC c.toNat (btL s))) w) := by
  have C := fun w => idxB_any s c.toNat w
  have hc : ((c.toNat : Int)).toNat.toUInt8 = c := by simp
  rw [hc, ix_bt] at C
  by_cases h : s = ⟨#[c]⟩
  · have e0 : ixC c.toNat (btL s) = 0 := by rw [h]; unfold ixC cutA btL; simp
    rw [e0]
    subst h
    go_enter Try.func116, Try.ntmps116
    go_wp2
    go_ret
    exact ⟨rfl, Below.refl _ _⟩
  · have e1 : ([c] == s.toList) = false := beq_eq_false_iff_ne.2 fun h1 => h (by
      rw [tl_data] at h1
      apply ByteArray.ext
      apply Array.ext'
      exact h1.symm)
    clear h hc
    go_enter Try.func116, Try.ntmps116
    go_wp2_with fail
    refine (C _).mono ?_
    rintro e w1 ⟨rfl, hB⟩
    go_wp2
    go_ret
    exact ⟨rfl, hB⟩
set_option maxRecDepth 100000 in
set_option maxHeartbeats 1000000 in
theorem cutL_any (s : ByteArray) (c : UInt8) (hm : s.size ≤ 9223372036854775807) (w : World) : Calls Try.prog 99 #[.string s, .string ⟨#[c]⟩] w (VP (.tuple #[.string (strL (cutA c.toNat (btL s))), .string (strL (cutB c.toNat (btL s))), .bool (decide (c.toNat ∈ btL s))]) w) := by
  have C := index1_any s c hm
  by_cases h : c.toNat ∈ btL s
  · rw [show ixC c.toNat (btL s) = (cutA c.toNat (btL s)).length by unfold ixC; rw [if_pos h]] at C
    obtain ⟨x1, x2⟩ := cut_ex h
    rw [decide_eq_true h]
    have h1 : (cutA c.toNat (btL s)).length + 1 ≤ s.size := by
      have h2 := congrArg List.length (cut_in h).1
      rw [btL_len, List.length_append, List.length_cons] at h2
      omega
    generalize (cutA c.toNat (btL s)).length = k at *
    generalize strL (cutA c.toNat (btL s)) = A at *
    generalize strL (cutB c.toNat (btL s)) = B at *
    clear h
    have i1 : (0 : Int) ≤ k := by omega
    have i2 : (k : Int) ≤ s.size := by omega
    have i3 : (k : Int) + 1 ≤ s.size := by omega
    have i4 : IntKind.i64.wrap ((k : Int) + 1) = k + 1 := by rw [IntKind.wrap_i64]; omega
    have i5 : ((k : Int) + 1).toNat = k + 1 := by omega
    go_enter Try.func99, Try.ntmps99
    go_wp2_with fail
    refine (C _).mono ?_
    rintro e w1 ⟨rfl, hB⟩
    go_wp2
    go_region
    go_wp2
    refine bodyPost_ret (v := .tuple #[.string A, .string B, .bool true]) (by simp [results, Try.results99, go_sem]) rfl ?_
    exact ⟨rfl, hB.drew⟩
  · rw [show ixC c.toNat (btL s) = -1 by unfold ixC; rw [if_neg h]] at C
    obtain ⟨x1, x2⟩ := cut_not h
    rw [decide_eq_false h, x1, x2, strL_btL, show strL [] = ⟨#[]⟩ from rfl]
    clear x1 x2 h
    go_enter Try.func99, Try.ntmps99
    go_wp2_with fail
    refine (C _).mono ?_
    rintro e w1 ⟨rfl, hB⟩
    go_wp2
    refine bodyPost_ret (v := .tuple #[.string s, .string ⟨#[]⟩, .bool false]) (by simp [results, Try.results99, go_sem]) rfl ?_
    exact ⟨rfl, hB⟩
set_option maxRecDepth 100000 in
set_option maxHeartbeats 1000000 in
theorem cut_any (s : ByteArray) (c : UInt8) (hm : s.size ≤ 9223372036854775807) (w : World) : Calls Try.prog 65 #[.string s, .string ⟨#[c]⟩] w (VP (.tuple #[.string (strL (cutA c.toNat (btL s))), .string (strL (cutB c.toNat (btL s))), .bool (decide (c.toNat ∈ btL s))]) w) := by
  have C := cutL_any s c hm
  generalize strL (cutA c.toNat (btL s)) = A at *
  generalize strL (cutB c.toNat (btL s)) = B at *
  generalize decide (c.toNat ∈ btL s) = q at *
  go_enter Try.func65, Try.ntmps65
  go_wp2_with fail
  refine (C _).mono ?_
  rintro e w1 ⟨rfl, hB⟩
  go_wp2
  refine bodyPost_ret (v := .tuple #[.string A, .string B, .bool q]) (by simp [results, Try.results65, go_sem]) rfl ?_
  exact ⟨rfl, hB⟩
end Go.Proofs.Ytnnojeggjnddpaa

/- A region that draws its order, by a condition that every operation keeps, whichever comes up: no order is walked. -/
namespace Go.Proofs.Ytnnojeggjnddpaa
variable {P : Program} {ops : Array Oper} {Q : Exit → Act → World → Prop} {md : Region.Mode}
def open_ (l : Array Bool) : Nat := l.toList.countP (fun b => !b)
theorem open_set {l : Array Bool} {i : Nat} (h : l.getD i true = false) : open_ (l.setIfInBounds i true) + 1 = open_ l := by
  obtain ⟨xs⟩ := l
  have hi : i < xs.length := by
    rcases Nat.lt_or_ge i xs.length with h' | h'
    · exact h'
    · simp [Array.getD, Nat.not_lt.2 h'] at h
  have hv : xs[i] = false := by simpa [Array.getD, hi] using h
  have hp : 0 < xs.countP (fun b => !b) := List.countP_pos_iff.2 ⟨xs[i], List.getElem_mem hi, by simp [hv]⟩
  simp only [open_, List.setIfInBounds_toArray, List.countP_set hi, hv]
  simp
  omega
theorem wpAny_inv (J : Array Bool → Act → World → Prop) (hs : ∀ l a w i o, J l a w → l.getD i true = false → ops[i]? = some o → (∀ e ∈ o.after, Region.binds md e = true → l.getD e.on false = true) → wpOp P ops Q i (J (l.setIfInBounds i true)) a w)
    (hd : ∀ l a w, J l a w → Region.ready md ops l = [] → Q .normal a w) : ∀ (fuel : Nat) (l : Array Bool) (a : Act) (w : World), open_ l ≤ fuel → J l a w → wpAny P md ops Q fuel l a w := by
  intro fuel
  induction fuel with
  | zero =>
    intro l a w hf hJ
    have hr : Region.ready md ops l = [] := by
      rw [List.eq_nil_iff_forall_not_mem]
      intro i hi
      have := open_set (mem_ready.1 hi).1
      omega
    exact ⟨hr, hd l a w hJ hr⟩
  | succ fuel ih =>
    intro l a w hf hJ
    refine ⟨fun hr => hd l a w hJ hr, fun i hi => ?_⟩
    obtain ⟨h0, o, ho, hall⟩ := mem_ready.1 hi
    exact wpOp_mono (fun a' w' h' => ih _ a' w' (by have := open_set h0; omega) h') (hs l a w i o hJ h0 ho hall)
theorem wp_region_inv {id : Nat} {a : Act} {w : World} (hm : P.follows .mixedOrders = true) (J : Array Bool → Act → World → Prop)
    (h0 : J (Array.replicate ops.size false) a { w with drawn := w.drawn + 1 })
    (hs : ∀ l a w i o, J l a w → l.getD i true = false → ops[i]? = some o → (∀ e ∈ o.after, Region.binds .any e = true → l.getD e.on false = true) → wpOp P ops Q i (J (l.setIfInBounds i true)) a w)
    (hd : ∀ l a w, J l a w → Region.ready .any ops l = [] → Q .normal a w) : (Code.region id ops true).wp P Q a w :=
  wp_region_any hm (wpAny_inv J hs hd _ _ _ _ (by
    unfold open_
    refine Nat.le_trans List.countP_le_length ?_
    simp) h0)
/-- The operations of a list, each of which waits for none but those ahead of it. -/
def waits (md : Region.Mode) (ops : Array Oper) : List Nat → List Nat → Bool
  | _, [] => true
  | acc, i :: r => ((ops[i]?).map (fun o => o.after.all (fun e => !Region.binds md e || acc.contains e.on))).getD false && waits md ops (i :: acc) r
/-- Where none is ready, all of such a list have come up. -/
theorem listed_of {l : Array Bool} (hr : Region.ready md ops l = []) : ∀ (r acc : List Nat), (∀ k ∈ acc, l.getD k false = true) → waits md ops acc r = true → (∀ k ∈ r, k < l.size) → ∀ k ∈ r, l.getD k false = true
  | [], _, _, _, _ => fun k hk => by simp at hk
  | i :: r, acc, ha, hw, hz => by
    simp only [waits, Bool.and_eq_true] at hw
    obtain ⟨hw1, hw2⟩ := hw
    have hi : l.getD i false = true := by
      cases ho : ops[i]? with
      | none => rw [ho] at hw1; simp at hw1
      | some o =>
        rw [ho] at hw1
        have hall : ∀ e ∈ o.after, Region.binds md e = true → l.getD e.on false = true := fun e he hb => by
          have h2 : o.after.all (fun e => !Region.binds md e || acc.contains e.on) = true := by simpa using hw1
          rw [Array.all_eq_true'] at h2
          have h3 := h2 e he
          rw [hb] at h3
          exact ha _ (by simpa using h3)
        have hz' := hz i (by simp)
        by_cases hc : l.getD i true = false
        · have : i ∈ Region.ready md ops l := mem_ready.2 ⟨hc, o, ho, hall⟩
          rw [hr] at this
          simp at this
        · simpa [Array.getD, hz'] using hc
    intro k hk
    rcases List.mem_cons.1 hk with rfl | hk
    · exact hi
    · exact listed_of hr r (i :: acc) (fun k hk => by
        rcases List.mem_cons.1 hk with rfl | hk
        · exact hi
        · exact ha k hk) hw2 (fun k hk => hz k (by simp [hk])) k hk
/-- One operation that is not guarded: what it does when it is carried out. -/
theorem wpOp_of {i : Nat} {o : Oper} {a : Act} {w : World} {K : Act → World → Prop} (ho : ops[i]? = some o) (hg : o.guard = none) (h : o.wp P a w K Q) : wpOp P ops Q i K a w := by
  unfold wpOp
  simp only [ho]
  have hw : Region.wanted o (yielded ops a.tmps) = true := by unfold Region.wanted; rw [hg]
  rw [if_pos hw]
  exact .inl h
/-- A frame that differs from another one at the told slots alone is that one with these slots put. -/
theorem tmps_fold : ∀ (D : List Nat) (t s : Array Value), t.size = s.size → (∀ d, d ∉ D → t[d]? = s[d]?) → t = D.foldl (fun u d => u.setIfInBounds d (t.getD d undef)) s
  | [], t, s, _, h => Array.ext_getElem? (fun d => h d (by simp))
  | d :: D, t, s, hz, h => by
    rw [List.foldl_cons]
    refine tmps_fold D t _ (by simpa using hz) (fun e he => ?_)
    by_cases hed : e = d
    · subst hed
      rcases Nat.lt_or_ge e t.size with h' | h'
      · simp [Array.getD, h', ← hz]
      · simp [← hz, h']
    · rw [Array.getElem?_setIfInBounds_ne (fun hh => hed hh.symm)]
      exact h e (by simp [hed, he])
theorem put_getD_ne {a : Act} {d e : Nat} {v : Value} (h : d ≠ e) : (a.put (some d) v).tmps.getD e undef = a.tmps.getD e undef := by
  simp [Act.put, Array.getD_eq_getD_getElem?, Array.getElem?_setIfInBounds_ne h]
theorem put_getD_same {a : Act} {d : Nat} {v : Value} (h : d < a.tmps.size) : (a.put (some d) v).tmps.getD d undef = v := by
  simp [Act.put, Array.getD_eq_getD_getElem?, h]
end Go.Proofs.Ytnnojeggjnddpaa

/- Operations that are guarded, in a region that is taken by a condition. -/
namespace Go.Proofs.Ytnnojeggjnddpaa
variable {P : Program} {ops : Array Oper} {Q : Exit → Act → World → Prop}
theorem yielded_of {j d : Nat} {o : Oper} {t : Array Value} {b : Bool} (ho : ops[j]? = some o) (hd : o.dst = some d) (ht : t.getD d undef = .bool b) : yielded ops t j = some b := by
  have h : t[d]? = some (.bool b) := by
    rcases Nat.lt_or_ge d t.size with h | h
    · simpa [Array.getD, h] using ht
    · simp [Array.getD, Nat.not_lt.2 h, undef] at ht
  unfold yielded
  rw [ho]
  simp only [Option.bind_some, hd]
  rw [h]
theorem wpOp_off {i k d : Nat} {b : Bool} {o ok : Oper} {a : Act} {w : World} {K : Act → World → Prop} (ho : ops[i]? = some o) (hg : o.guard = some (k, b)) (hk : ops[k]? = some ok) (hd : ok.dst = some d) (ht : a.tmps.getD d undef = .bool (!b)) (h : K (a.put o.dst undef) w) : wpOp P ops Q i K a w := by
  unfold wpOp
  simp only [ho]
  have hw : Region.wanted o (yielded ops a.tmps) = false := by
    unfold Region.wanted
    rw [hg]
    simp only [yielded_of hk hd ht]
    cases b <;> rfl
  rw [hw]
  exact h
end Go.Proofs.Ytnnojeggjnddpaa

/- A region that draws its order, by what each slot holds once its operation has come up: the general form. -/
namespace Go.Proofs.Ytnnojeggjnddpaa
open Go.RowKit
variable {P : Program} {ops : Array Oper}
/-- No slot is written by two operations. -/
def distS : List (Option Nat) → Bool
  | [] => true
  | none :: r => distS r
  | some d :: r => !(r.contains (some d)) && distS r
theorem distS_inj : ∀ (S : List (Option Nat)) (i j d : Nat), distS S = true → S[i]? = some (some d) → S[j]? = some (some d) → i = j
  | [], i, _, _, _, h, _ => by simp at h
  | o :: r, i, j, d, hd, hi, hj => by
    have hr : distS r = true := by
      cases o with
      | none => exact hd
      | some d' => simp only [distS, Bool.and_eq_true] at hd; exact hd.2
    have hno : ∀ k, o = some d → r[k]? = some (some d) → False := fun k ho hk => by
      subst ho
      simp only [distS, Bool.and_eq_true, Bool.not_eq_true'] at hd
      have hm : some d ∈ r := List.mem_of_getElem? hk
      rw [← List.contains_iff_mem, hd.1] at hm
      cases hm
    match i, j with
    | 0, 0 => rfl
    | 0, j + 1 => exact (hno j (by simpa using hi) (by simpa using hj)).elim
    | i + 1, 0 => exact (hno i (by simpa using hj) (by simpa using hi)).elim
    | i + 1, j + 1 => exact congrArg (· + 1) (distS_inj r i j d hr (by simpa using hi) (by simpa using hj))
/-- What every operation keeps. -/
def InvQ (B : Nat) (S : List (Option Nat)) (V : Nat → Value → World → Prop) (w0 : World) (a0 : Act) (l : Array Bool) (a : Act) (W : World) : Prop :=
  l.size = S.length ∧ a.tmps.size = a0.tmps.size ∧ a.defers = a0.defers ∧ (∀ e, some e ∉ S → a.tmps[e]? = a0.tmps[e]?) ∧ Below B w0 W ∧ (∀ j d, l.getD j false = true → S[j]? = some (some d) → V j (a.tmps.getD d undef) W) ∧ (∀ j, l.getD j false = true → S[j]? = some none → V j undef W)
theorem getD_set_q {l : Array Bool} {i j : Nat} (h : (l.setIfInBounds i true).getD j false = true) (hne : j ≠ i) : l.getD j false = true := by
  rw [getD_set_ne false (Ne.symm hne)] at h
  exact h
theorem InvQ.put {B : Nat} {S : List (Option Nat)} {V : Nat → Value → World → Prop} {w0 : World} {a0 : Act} {l : Array Bool} {a : Act} {W W' : World} (h : InvQ B S V w0 a0 l a W) (hS : distS S = true) (i d : Nat) (hi : S[i]? = some (some d)) (hlt : d < a0.tmps.size)
    (hW : Below B w0 W') (hT : ∀ j v, V j v W → V j v W') (v : Value) (hv : V i v W') : InvQ B S V w0 a0 (l.setIfInBounds i true) (a.put (some d) v) W' := by
  obtain ⟨h1, h2, h3, h4, h5, h6, h7⟩ := h
  refine ⟨by simpa using h1, by simpa [Act.put] using h2, h3, fun e he => ?_, hW, fun j d' hj hd' => ?_, fun j hj hn => ?_⟩
  · have hne : d ≠ e := fun hh => he (hh ▸ List.mem_of_getElem? hi)
    simp only [Act.put]
    rw [Array.getElem?_setIfInBounds_ne hne]
    exact h4 e he
  · by_cases hji : j = i
    · subst hji
      rw [hi] at hd'
      cases hd'
      rw [put_getD_same (by omega)]
      exact hv
    · have hne : d ≠ d' := fun hh => hji (distS_inj S j i d hS (hh ▸ hd') hi)
      rw [put_getD_ne hne]
      exact hT _ _ (h6 j d' (getD_set_q hj hji) hd')
  · have hji : j ≠ i := fun hh => by subst hh; rw [hi] at hn; cases hn
    exact hT _ _ (h7 j (getD_set_q hj hji) hn)
theorem InvQ.world {B : Nat} {S : List (Option Nat)} {V : Nat → Value → World → Prop} {w0 : World} {a0 : Act} {l : Array Bool} {a : Act} {W W' : World} (h : InvQ B S V w0 a0 l a W) (i : Nat) (hi : S[i]? = some none)
    (hW : Below B w0 W') (hT : ∀ j v, V j v W → V j v W') (hv : V i undef W') : InvQ B S V w0 a0 (l.setIfInBounds i true) a W' := by
  obtain ⟨h1, h2, h3, h4, h5, h6, h7⟩ := h
  refine ⟨by simpa using h1, h2, h3, h4, hW, fun j d hj hd => ?_, fun j hj hn => ?_⟩
  · have hji : j ≠ i := fun hh => by subst hh; rw [hi] at hd; cases hd
    exact hT _ _ (h6 j d (getD_set_q hj hji) hd)
  · by_cases hji : j = i
    · subst hji; exact hv
    · exact hT _ _ (h7 j (getD_set_q hj hji) hn)
/-- A block of so many cells. -/
def BlkN (W : World) (g n : Nat) : Prop := ∃ vs : List Value, vs.length = n ∧ Blk W g vs
theorem BlkN.step {W W' : World} {g n : Nat} (h : BlkN W g n) (hB : Below W.heap.size W W') : BlkN W' g n := by
  obtain ⟨vs, h1, h2⟩ := h
  exact ⟨vs, h1, h2.step hB⟩
theorem Blk.setA {W : World} {g : Nat} {vs : List Value} (h : Blk W g vs) (j : Nat) (u : Value) : Blk (W.setCell ⟨g, j, none⟩ u) g (vs.set j u) := by
  rcases Nat.lt_or_ge j vs.length with hj | hj
  · exact h.setI j hj u
  · refine ⟨by simpa [World.setCell] using h.1, fun i v hi => ?_⟩
    rw [List.set_eq_of_length_le hj] at hi
    have hne : i ≠ j := fun e => by
      subst e
      rw [List.getElem?_eq_none hj] at hi
      cases hi
    exact ⟨(World.cell?_setCell_other _ _ _ _ (by simp)).trans (h.c i hi), by simp [go_sem, h.f i hi]⟩
theorem BlkN.set {W : World} {g n : Nat} (h : BlkN W g n) (g' j : Nat) (u : Value) : BlkN (W.setCell ⟨g', j, none⟩ u) g n := by
  obtain ⟨vs, h1, h2⟩ := h
  by_cases hg : g = g'
  · subst hg
    exact ⟨vs.set j u, by simpa using h1, h2.setA j u⟩
  · exact ⟨vs, h1, h2.setO (p := ⟨g', j, none⟩) hg u⟩
end Go.Proofs.Ytnnojeggjnddpaa

/- The last region of cutUnder where no number stands under the stroke. -/
namespace Go.Proofs.Ytnnojeggjnddpaa
open Go.RowKit
def VtrS (A : ByteArray) (R _g : Nat) (y3 y2 y1 y0 : Int) (_B : Nat) : Nat → Value → World → Prop
  | 0, v, _ => v = .string A
  | 1, v, _ => v = .agg #[.int .u64 y3, .int .u64 y2, .int .u64 y1, .int .u64 y0]
  | 2, v, _ => v = .bool false
  | 3, v, _ => v = .bool false
  | 4, v, _ => v = undef
  | 5, v, _ => v = undef
  | 6, v, _ => v = undef
  | 7, v, _ => v = .bool false
  | 8, v, _ => v = .string A
  | 9, _, W => Blk W R [.int .u64 y3, .int .u64 y2, .int .u64 y1, .int .u64 y0]
  | 10, v, _ => v = .bool false
  | _, _, _ => True
theorem VtrS.mono {A : ByteArray} {R g : Nat} {y3 y2 y1 y0 : Int} {B j : Nat} {v : Value} {W W2 : World} (hB : Below W.heap.size W W2) (h : VtrS A R g y3 y2 y1 y0 B j v W) : VtrS A R g y3 y2 y1 y0 B j v W2 := by
  unfold VtrS at *
  split <;> simp only at h <;> first | exact h | exact h.step hB | trivial
theorem VtrS.put {A : ByteArray} {R g : Nat} {y3 y2 y1 y0 : Int} {B j : Nat} {v : Value} {W W2 : World} (hR : Blk W2 R [.int .u64 y3, .int .u64 y2, .int .u64 y1, .int .u64 y0]) (h : VtrS A R g y3 y2 y1 y0 B j v W) : VtrS A R g y3 y2 y1 y0 B j v W2 := by
  unfold VtrS at *
  split <;> simp only at h <;> first | exact h | exact hR | trivial
def StrS (_A : ByteArray) (R g : Nat) (y3 y2 y1 y0 : Int) (W : World) : Prop := Blk W g [.int .u64 y3, .int .u64 y2, .int .u64 y1, .int .u64 y0] ∧ ∃ u0 u1 u2 u3, Blk W R [u0, u1, u2, u3]
def JtrS (A : ByteArray) (R g : Nat) (y3 y2 y1 y0 : Int) (w0 : World) (a0 : Act) (l : Array Bool) (a : Act) (W : World) : Prop := InvQ (R) [some 25, some 26, some 27, some 28, some 29, some 30, some 31, some 32, some 2, none, some 4] (VtrS A R g y3 y2 y1 y0 (R)) w0 a0 l a W ∧ StrS A R g y3 y2 y1 y0 W
set_option maxRecDepth 100000 in
set_option maxHeartbeats 4000000 in
theorem trS {Q : Exit → Act → World → Prop} {A : ByteArray} {R g : Nat} {y3 y2 y1 y0 : Int}  {w0 : World} {a0 : Act} {idq : Nat} {t0 t1 t2 t3 t4 t5 t6 t7 t8 t9 t10 : TypeId} {q0 q1 q2 q3 q4 q5 q6 q7 q8 q9 q10 : String}
    (hne : g ≠ R) (h5 : a0.tmps[5]? = some (.string A)) (h8 : a0.tmps[8]? = some (.pointer (some ⟨g, 0, none⟩))) (h9 : a0.tmps[9]? = some (.bool false)) (h3 : a0.tmps[3]? = some (.pointer (some ⟨R, 0, none⟩)))  (hz : a0.tmps.size = 33) (hs0 : StrS A R g y3 y2 y1 y0 w0.drew)
    (hQ : ∀ aq W, aq.tmps.size = a0.tmps.size → aq.defers = a0.defers → (∀ e, e ∉ ([25, 26, 27, 28, 29, 30, 31, 32, 2, 4] : List Nat) → aq.tmps[e]? = a0.tmps[e]?) → VtrS A R g y3 y2 y1 y0 (R) 8 (aq.tmps.getD 2 undef) W → VtrS A R g y3 y2 y1 y0 (R) 9 undef W → VtrS A R g y3 y2 y1 y0 (R) 10 (aq.tmps.getD 4 undef) W → Below (R) w0 W → StrS A R g y3 y2 y1 y0 W → Q .normal aq W) :
    (Code.region idq #[{ dst := some 25, op := Op.move (Operand.tmp 5), type := t0, pos := q0, after := #[], guard := none },
    { dst := some 26, op := Op.load 26 (Operand.tmp 8), type := t1, pos := q1, after := #[{ on := 8, ground := Ground.gcOnly Departure.lateStores }], guard := none },
    { dst := some 27, op := Op.move (Operand.tmp 9), type := t2, pos := q2, after := #[], guard := none },
    { dst := some 28, op := Op.move (Operand.tmp 27), type := t3, pos := q3, after := #[{ on := 2, ground := Ground.data }], guard := none },
    { dst := some 29, op := Op.load 26 (Operand.tmp 8), type := t4, pos := q4, after := #[{ on := 3, ground := Ground.guard }, { on := 9, ground := Ground.gcOnly Departure.lateStores }], guard := some (3, true) },
    { dst := some 30, op := Op.call { callee := Callee.value (Operand.func 95), args := #[Operand.const (Value.int IntKind.i64 1)], argTypes := #[2] }, type := t5, pos := q5, after := #[{ on := 3, ground := Ground.chain }, { on := 3, ground := Ground.guard }], guard := some (3, true) },
    { dst := some 31, op := Op.binOp BinOp.neq 26 (Operand.tmp 29) (Operand.tmp 30) 26, type := t6, pos := q6, after := #[{ on := 4, ground := Ground.data }, { on := 5, ground := Ground.data }, { on := 3, ground := Ground.guard }, { on := 9, ground := Ground.gcOnly Departure.lateStores }], guard := some (3, true) },
    { dst := some 32, op := Op.pick (Operand.tmp 28) (Operand.tmp 31) (Operand.const (Value.bool false)), type := t7, pos := q7, after := #[{ on := 3, ground := Ground.data }, { on := 6, ground := Ground.data }, { on := 9, ground := Ground.gcOnly Departure.lateStores }], guard := none },
    { dst := some 2, op := Op.assign (Operand.tmp 25), type := t8, pos := q8, after := #[{ on := 0, ground := Ground.data }, { on := 5, ground := Ground.chain }, { on := 0, ground := Ground.phase }, { on := 1, ground := Ground.textOnly Departure.lateStores }, { on := 2, ground := Ground.textOnly Departure.lateStores }, { on := 3, ground := Ground.textOnly Departure.lateStores }, { on := 4, ground := Ground.textOnly Departure.lateStores }, { on := 5, ground := Ground.textOnly Departure.lateStoresUnsure }, { on := 6, ground := Ground.textOnly Departure.lateStores }, { on := 7, ground := Ground.textOnly Departure.lateStores }], guard := none },
    { dst := none, op := Op.store 26 (Operand.tmp 3) (Operand.tmp 26), type := t9, pos := q9, after := #[{ on := 1, ground := Ground.data }, { on := 8, ground := Ground.chain }, { on := 0, ground := Ground.phase }, { on := 1, ground := Ground.phase }, { on := 2, ground := Ground.textOnly Departure.lateStores }, { on := 3, ground := Ground.textOnly Departure.lateStores }, { on := 4, ground := Ground.textOnly Departure.lateStores }, { on := 5, ground := Ground.textOnly Departure.lateStoresUnsure }, { on := 6, ground := Ground.textOnly Departure.lateStores }, { on := 7, ground := Ground.textOnly Departure.lateStores }, { on := 8, ground := Ground.phase }], guard := none },
    { dst := some 4, op := Op.assign (Operand.tmp 32), type := t10, pos := q10, after := #[{ on := 7, ground := Ground.data }, { on := 9, ground := Ground.chain }, { on := 0, ground := Ground.phase }, { on := 1, ground := Ground.phase }, { on := 2, ground := Ground.phase }, { on := 3, ground := Ground.phase }, { on := 4, ground := Ground.phase }, { on := 5, ground := Ground.phase }, { on := 6, ground := Ground.phase }, { on := 7, ground := Ground.phase }, { on := 8, ground := Ground.phase }, { on := 9, ground := Ground.phase }], guard := none }] true).wp Try.prog Q a0 w0 := by
  have hS : distS [some 25, some 26, some 27, some 28, some 29, some 30, some 31, some 32, some 2, none, some 4] = true := rfl
  refine wp_region_inv (by kernel_rfl) (JtrS A R g y3 y2 y1 y0 w0 a0) ⟨⟨rfl, rfl, rfl, fun _ _ => rfl, (Below.refl _ w0).drew, fun j d hj => ?_, fun j hj => ?_⟩, hs0⟩ ?_ ?_
  · exfalso
    rw [Array.getD_eq_getD_getElem?, Array.getElem?_replicate] at hj
    split at hj <;> simp at hj
  · exfalso
    rw [Array.getD_eq_getD_getElem?, Array.getElem?_replicate] at hj
    split at hj <;> simp at hj
  · intro lq aq W iq oq ⟨hJ, hs⟩ hl ho hall
    have hJ2 := hJ
    obtain ⟨z1, z2, z3, z4, z5, z6, z7⟩ := hJ
    obtain ⟨sa, u0, u1, u2, u3, sb⟩ := hs
    have c0 := sa.c 0 rfl; have r0 := sb.c 0 rfl; have s0 := sb.f 0 rfl
    have c1 := sa.c 1 rfl; have r1 := sb.c 1 rfl; have s1 := sb.f 1 rfl
    have c2 := sa.c 2 rfl; have r2 := sb.c 2 rfl; have s2 := sb.f 2 rfl
    have c3 := sa.c 3 rfl; have r3 := sb.c 3 rfl; have s3 := sb.f 3 rfl
    have rl := sb.lt
    have hs : StrS A R g y3 y2 y1 y0 W := ⟨sa, u0, u1, u2, u3, sb⟩
    have g5 : aq.tmps.getD 5 undef = .string A := by rw [Array.getD_eq_getD_getElem?, z4 5 (by decide), h5]; rfl
    have g8 : aq.tmps.getD 8 undef = .pointer (some ⟨g, 0, none⟩) := by rw [Array.getD_eq_getD_getElem?, z4 8 (by decide), h8]; rfl
    have g9 : aq.tmps.getD 9 undef = .bool false := by rw [Array.getD_eq_getD_getElem?, z4 9 (by decide), h9]; rfl
    have g3 : aq.tmps.getD 3 undef = .pointer (some ⟨R, 0, none⟩) := by rw [Array.getD_eq_getD_getElem?, z4 3 (by decide), h3]; rfl
    match iq, ho with
    | 0, ho =>
      cases ho
      refine wpOp_of rfl rfl ?_
      have hK := fun (v : Value) (W2 : World) hW hT hv (hs : StrS A R g y3 y2 y1 y0 W2) => show (JtrS A R g y3 y2 y1 y0 w0 a0) (lq.setIfInBounds 0 true) (aq.put (some 25) v) W2 from ⟨hJ2.put hS 0 25 rfl (by omega) (W' := W2) hW hT v hv, hs⟩
      clear ho hall hl hQ
      generalize (JtrS A R g y3 y2 y1 y0 w0 a0) (lq.setIfInBounds 0 true) = K at hK ⊢
      clear hJ2 hS z1 z2 z3 z4 z6 z7
      go_simp
      exact hK _ _ z5 (fun _ _ h => h) rfl hs
    | 1, ho =>
      cases ho
      refine wpOp_of rfl rfl ?_
      have hK := fun (v : Value) (W2 : World) hW hT hv (hs : StrS A R g y3 y2 y1 y0 W2) => show (JtrS A R g y3 y2 y1 y0 w0 a0) (lq.setIfInBounds 1 true) (aq.put (some 26) v) W2 from ⟨hJ2.put hS 1 26 rfl (by omega) (W' := W2) hW hT v hv, hs⟩
      clear ho hall hl hQ
      generalize (JtrS A R g y3 y2 y1 y0 w0 a0) (lq.setIfInBounds 1 true) = K at hK ⊢
      clear hJ2 hS z1 z2 z3 z4 z6 z7
      go_simp
      exact hK _ _ z5 (fun _ _ h => h) rfl hs
    | 2, ho =>
      cases ho
      refine wpOp_of rfl rfl ?_
      have hK := fun (v : Value) (W2 : World) hW hT hv (hs : StrS A R g y3 y2 y1 y0 W2) => show (JtrS A R g y3 y2 y1 y0 w0 a0) (lq.setIfInBounds 2 true) (aq.put (some 27) v) W2 from ⟨hJ2.put hS 2 27 rfl (by omega) (W' := W2) hW hT v hv, hs⟩
      clear ho hall hl hQ
      generalize (JtrS A R g y3 y2 y1 y0 w0 a0) (lq.setIfInBounds 2 true) = K at hK ⊢
      clear hJ2 hS z1 z2 z3 z4 z6 z7
      go_simp
      exact hK _ _ z5 (fun _ _ h => h) rfl hs
    | 3, ho =>
      cases ho
      refine wpOp_of rfl rfl ?_
      have f2 : (aq.tmps.getD 27 undef) = .bool false := z6 2 27 (hall { on := 2, ground := Ground.data } (by simp) rfl) rfl
      have hK := fun (v : Value) (W2 : World) hW hT hv (hs : StrS A R g y3 y2 y1 y0 W2) => show (JtrS A R g y3 y2 y1 y0 w0 a0) (lq.setIfInBounds 3 true) (aq.put (some 28) v) W2 from ⟨hJ2.put hS 3 28 rfl (by omega) (W' := W2) hW hT v hv, hs⟩
      clear ho hall hl hQ
      generalize (JtrS A R g y3 y2 y1 y0 w0 a0) (lq.setIfInBounds 3 true) = K at hK ⊢
      clear hJ2 hS z1 z2 z3 z4 z6 z7
      go_simp
      exact hK _ _ z5 (fun _ _ h => h) rfl hs
    | 4, ho =>
      cases ho
      have fg : aq.tmps.getD 28 undef = .bool false := z6 3 28 (hall { on := 3, ground := Ground.guard } (by simp) rfl) rfl
      refine wpOp_off rfl rfl rfl rfl fg ?_
      exact ⟨hJ2.put hS 4 29 rfl (by omega) z5 (fun _ _ h => h) undef rfl, hs⟩
    | 5, ho =>
      cases ho
      have fg : aq.tmps.getD 28 undef = .bool false := z6 3 28 (hall { on := 3, ground := Ground.guard } (by simp) rfl) rfl
      refine wpOp_off rfl rfl rfl rfl fg ?_
      exact ⟨hJ2.put hS 5 30 rfl (by omega) z5 (fun _ _ h => h) undef rfl, hs⟩
    | 6, ho =>
      cases ho
      have fg : aq.tmps.getD 28 undef = .bool false := z6 3 28 (hall { on := 3, ground := Ground.guard } (by simp) rfl) rfl
      refine wpOp_off rfl rfl rfl rfl fg ?_
      exact ⟨hJ2.put hS 6 31 rfl (by omega) z5 (fun _ _ h => h) undef rfl, hs⟩
    | 7, ho =>
      cases ho
      refine wpOp_of rfl rfl ?_
      have f3 : (aq.tmps.getD 28 undef) = .bool false := z6 3 28 (hall { on := 3, ground := Ground.data } (by simp) rfl) rfl
      have f6 : (aq.tmps.getD 31 undef) = undef := z6 6 31 (hall { on := 6, ground := Ground.data } (by simp) rfl) rfl
      have hK := fun (v : Value) (W2 : World) hW hT hv (hs : StrS A R g y3 y2 y1 y0 W2) => show (JtrS A R g y3 y2 y1 y0 w0 a0) (lq.setIfInBounds 7 true) (aq.put (some 32) v) W2 from ⟨hJ2.put hS 7 32 rfl (by omega) (W' := W2) hW hT v hv, hs⟩
      clear ho hall hl hQ
      generalize (JtrS A R g y3 y2 y1 y0 w0 a0) (lq.setIfInBounds 7 true) = K at hK ⊢
      clear hJ2 hS z1 z2 z3 z4 z6 z7
      go_simp
      exact hK _ _ z5 (fun _ _ h => h) rfl hs
    | 8, ho =>
      cases ho
      refine wpOp_of rfl rfl ?_
      have f0 : (aq.tmps.getD 25 undef) = .string A := z6 0 25 (hall { on := 0, ground := Ground.data } (by simp) rfl) rfl
      have hK := fun (v : Value) (W2 : World) hW hT hv (hs : StrS A R g y3 y2 y1 y0 W2) => show (JtrS A R g y3 y2 y1 y0 w0 a0) (lq.setIfInBounds 8 true) (aq.put (some 2) v) W2 from ⟨hJ2.put hS 8 2 rfl (by omega) (W' := W2) hW hT v hv, hs⟩
      clear ho hall hl hQ
      generalize (JtrS A R g y3 y2 y1 y0 w0 a0) (lq.setIfInBounds 8 true) = K at hK ⊢
      clear hJ2 hS z1 z2 z3 z4 z6 z7
      go_simp
      exact hK _ _ z5 (fun _ _ h => h) rfl hs
    | 9, ho =>
      cases ho
      refine wpOp_of rfl rfl ?_
      have f1 : (aq.tmps.getD 26 undef) = .agg #[.int .u64 y3, .int .u64 y2, .int .u64 y1, .int .u64 y0] := z6 1 26 (hall { on := 1, ground := Ground.data } (by simp) rfl) rfl
      have hK := fun (W2 : World) hW hT hv (hs : StrS A R g y3 y2 y1 y0 W2) => show (JtrS A R g y3 y2 y1 y0 w0 a0) (lq.setIfInBounds 9 true) aq W2 from ⟨hJ2.world 9 rfl (W' := W2) hW hT hv, hs⟩
      clear ho hall hl hQ
      generalize (JtrS A R g y3 y2 y1 y0 w0 a0) (lq.setIfInBounds 9 true) = K at hK ⊢
      clear hJ2 hS z1 z2 z3 z4 z6 z7
      have nb : Blk ((((W.setCell ⟨R, 0, none⟩ (.int .u64 y3)).setCell ⟨R, 1, none⟩ (.int .u64 y2)).setCell ⟨R, 2, none⟩ (.int .u64 y1)).setCell ⟨R, 3, none⟩ (.int .u64 y0)) R [.int .u64 y3, .int .u64 y2, .int .u64 y1, .int .u64 y0] := Blk.stored4g sb _ _ _ _
      have ns : StrS A R g y3 y2 y1 y0 ((((W.setCell ⟨R, 0, none⟩ (.int .u64 y3)).setCell ⟨R, 1, none⟩ (.int .u64 y2)).setCell ⟨R, 2, none⟩ (.int .u64 y1)).setCell ⟨R, 3, none⟩ (.int .u64 y0)) := ⟨sa.set4 hne, _, _, _, _, nb⟩
      have nB : Below R w0 ((((W.setCell ⟨R, 0, none⟩ (.int .u64 y3)).setCell ⟨R, 1, none⟩ (.int .u64 y2)).setCell ⟨R, 2, none⟩ (.int .u64 y1)).setCell ⟨R, 3, none⟩ (.int .u64 y0)) := by
        repeat' (refine Below.setCell ?_ (by exact Nat.le_refl _) _)
        exact z5
      go_simp
      exact hK _ nB (fun j v h => VtrS.put nb h) nb ns
    | 10, ho =>
      cases ho
      refine wpOp_of rfl rfl ?_
      have f7 : (aq.tmps.getD 32 undef) = .bool false := z6 7 32 (hall { on := 7, ground := Ground.data } (by simp) rfl) rfl
      have hK := fun (v : Value) (W2 : World) hW hT hv (hs : StrS A R g y3 y2 y1 y0 W2) => show (JtrS A R g y3 y2 y1 y0 w0 a0) (lq.setIfInBounds 10 true) (aq.put (some 4) v) W2 from ⟨hJ2.put hS 10 4 rfl (by omega) (W' := W2) hW hT v hv, hs⟩
      clear ho hall hl hQ
      generalize (JtrS A R g y3 y2 y1 y0 w0 a0) (lq.setIfInBounds 10 true) = K at hK ⊢
      clear hJ2 hS z1 z2 z3 z4 z6 z7
      go_simp
      exact hK _ _ z5 (fun _ _ h => h) rfl hs
    | iq + 11, ho => simp at ho
  · intro lq aq W ⟨hJ, hs⟩ hr
    obtain ⟨z1, z2, z3, z4, z5, z6, z7⟩ := hJ
    have hl := listed_of hr [0, 2, 3, 5, 8, 1, 9, 4, 6, 7, 10] [] (by simp) (by kernel_rfl) (by rw [z1]; decide)
    exact hQ aq W z2 z3 (fun e he => z4 e (by simpa using he)) (z6 8 2 (hl 8 (by simp)) rfl) (z7 9 (hl 9 (by simp)) rfl) (z6 10 4 (hl 10 (by simp)) rfl) z5 hs
end Go.Proofs.Ytnnojeggjnddpaa

/- A text cut at the stroke, with the number under it: the program's. -/
namespace Go.Proofs.Ytnnojeggjnddpaa
open Go.RowKit
/-- What is said of a text that was cut at the stroke. -/
structure CuOk (l : List Nat) (d : Int) (ok : Bool) : Prop where
  told : told d = true
  yes : ok = true → l = cutA 47 l ++ unL d
  no : ok = false → ∀ a' d', Go.Proofs.Ytnnojeggjnddpaa.told d' = true → 47 ∉ a' → l ≠ a' ++ unL d'
theorem cu_none {l : List Nat} (h : 47 ∉ l) : CuOk l 1 true := ⟨told_one, fun _ => by rw [unL_one, List.append_nil, (cut_not h).1], fun h => Bool.noConfusion h⟩
theorem cu_some {l : List Nat} {z : Int} (h : 47 ∈ l) (hz : told z = true) (hl : cutB 47 l = txL z) : CuOk l z (!decide (z = 1)) := by
  obtain ⟨e1, e2⟩ := cut_in h
  refine ⟨hz, fun hk => ?_, fun hk a' d' hd ha he => ?_⟩
  · rw [Bool.not_eq_true', decide_eq_false_iff_not] at hk
    rw [unL_not hk, ← hl]
    exact e1
  · rw [Bool.not_eq_false', decide_eq_true_iff] at hk
    by_cases h1 : d' = 1
    · rw [h1, unL_one, List.append_nil] at he
      exact ha (by rw [← he]; exact h)
    · rw [unL_not h1] at he
      rw [e1] at he
      obtain ⟨_, e3⟩ := first_one e2 ha he
      rw [hl] at e3
      exact h1 ((tx_inj e3).symm.trans hk)
theorem cu_bad {l : List Nat} (h : 47 ∈ l) (hl : ∀ z, told z = true → cutB 47 l ≠ txL z) : CuOk l 0 false := by
  obtain ⟨e1, e2⟩ := cut_in h
  refine ⟨by decide, fun hk => Bool.noConfusion hk, fun _ a' d' hd ha he => ?_⟩
  by_cases h1 : d' = 1
  · rw [h1, unL_one, List.append_nil] at he
    exact ha (by rw [← he]; exact h)
  · rw [unL_not h1, e1] at he
    obtain ⟨_, e3⟩ := first_one e2 ha he
    exact hl d' hd e3
theorem cut_sz (c : Nat) (s : ByteArray) (hm : s.size ≤ 9223372036854775807) : (strL (cutA c (btL s))).size ≤ 9223372036854775807 ∧ (strL (cutB c (btL s))).size ≤ 9223372036854775807 := by
  rw [strL_size, strL_size]
  rw [← btL_len] at hm
  have h1 := cut_len c (btL s)
  have h2 : (cutB c (btL s)).length ≤ (btL s).length := by
    unfold cutB
    exact ((List.tail_sublist _).trans (List.dropWhile_sublist _)).length_le
  omega
theorem cut_bt (c : Nat) (s : ByteArray) : btL (strL (cutA c (btL s))) = cutA c (btL s) ∧ btL (strL (cutB c (btL s))) = cutB c (btL s) :=
  ⟨btL_strL fun b hb => btL_lt s b ((List.takeWhile_sublist _).mem hb), btL_strL fun b hb => btL_lt s b (((List.tail_sublist _).trans (List.dropWhile_sublist _)).mem hb)⟩
set_option maxRecDepth 100000 in
set_option maxHeartbeats 2000000 in
theorem cutU_bad (s A B : ByteArray) (y3 y2 y1 y0 : Int) (CC : ∀ w, Calls Try.prog 65 #[.string s, .string ⟨#[47]⟩] w (VP (.tuple #[.string A, .string B, .bool true]) w)) (CR : ∀ w, Calls Try.prog 16 #[.string B] w (VP (.tuple #[.agg #[.int .u64 y3, .int .u64 y2, .int .u64 y1, .int .u64 y0], .bool false]) w)) (w : World) : Calls Try.prog 61 #[.string s] w (VP (.tuple #[.string A, .agg #[.int .u64 y3, .int .u64 y2, .int .u64 y1, .int .u64 y0], .bool false]) w) := by
  have HB0 : Hid (Below w.heap.size w (w.alloc (Obj.cells #[.int .u64 0, .int .u64 0, .int .u64 0, .int .u64 0] 26))) := (Below.refl _ _).alloc (Nat.le_refl _) _
  have BR0 : Hid (Blk (w.alloc (Obj.cells #[.int .u64 0, .int .u64 0, .int .u64 0, .int .u64 0] 26)) w.heap.size [.int .u64 0, .int .u64 0, .int .u64 0, .int .u64 0]) := Blk.new w [.int .u64 0, .int .u64 0, .int .u64 0, .int .u64 0] _ rfl
  go_enter Try.func61, Try.ntmps61
  go_wp2_with fail
  generalize (w.alloc (Obj.cells #[.int .u64 0, .int .u64 0, .int .u64 0, .int .u64 0] 26)) = W0 at *
  refine (CC _).mono ?_
  rintro e w1 ⟨rfl, hB⟩
  have BR1 := BR0.out.step hB
  have HB1 := HB0.out.trans (hB.mono HB0.out.size)
  clear BR0 HB0 hB CC
  go_wp2_with fail
  refine (CR _).mono ?_
  rintro e w2 ⟨rfl, hB⟩
  have BRa := (BR1.step hB).alloc (Obj.cells #[.int .u64 y3, .int .u64 y2, .int .u64 y1, .int .u64 y0] 26)
  have BR2 : Hid (Blk (w2.alloc (Obj.cells #[.int .u64 y3, .int .u64 y2, .int .u64 y1, .int .u64 y0] 26)).drew w.heap.size [.int .u64 0, .int .u64 0, .int .u64 0, .int .u64 0]) := BRa.drew
  have HBx := HB1.trans (hB.mono HB1.size)
  have HB2 : Hid (Below w.heap.size w (w2.alloc (Obj.cells #[.int .u64 y3, .int .u64 y2, .int .u64 y1, .int .u64 y0] 26))) := HBx.alloc HBx.size _
  have X0 := Blk.new w2 [.int .u64 y3, .int .u64 y2, .int .u64 y1, .int .u64 y0] 26 rfl
  rw [show ([.int .u64 y3, .int .u64 y2, .int .u64 y1, .int .u64 y0] : List Value).toArray = #[.int .u64 y3, .int .u64 y2, .int .u64 y1, .int .u64 y0] from rfl] at X0
  have HX : Hid (Blk (w2.alloc (Obj.cells #[.int .u64 y3, .int .u64 y2, .int .u64 y1, .int .u64 y0] 26)).drew w2.heap.size [.int .u64 y3, .int .u64 y2, .int .u64 y1, .int .u64 y0]) := X0.drew
  have hgl := (BR1.step hB).lt
  have hne : w2.heap.size ≠ w.heap.size := by omega
  clear BR1 HB1 hB CR HBx X0 BRa
  go_wp2_with fail
  generalize (w2.alloc (Obj.cells #[.int .u64 y3, .int .u64 y2, .int .u64 y1, .int .u64 y0] 26)) = W2 at *
  generalize w2.heap.size = g at *
  refine trS (A := A) (R := w.heap.size) (g := g) (y3 := y3) (y2 := y2) (y1 := y1) (y0 := y0) hne rfl rfl rfl rfl rfl ⟨HX.out, _, _, _, _, BR2.out⟩ ?_
  rintro ⟨tm, df⟩ W3 hz hdf hoff h8 h9 h10 hB4 _
  have HB4 : Hid (Below w.heap.size w W3) := HB2.out.trans hB4
  simp only at hz hdf hoff
  subst hdf
  change tm.getD 2 undef = .string A at h8
  change tm.getD 4 undef = .bool false at h10
  have h9 : Blk W3 w.heap.size [.int .u64 y3, .int .u64 y2, .int .u64 y1, .int .u64 y0] := h9
  have htm := tmps_fold [25, 26, 27, 28, 29, 30, 31, 32, 2, 4] tm _ hz hoff
  simp only [List.foldl, List.setIfInBounds_toArray, List.set_cons_zero, List.set_cons_succ, h8, h10] at htm
  clear hz hoff
  generalize tm.getD 25 undef = u0, tm.getD 26 undef = u1, tm.getD 27 undef = u2, tm.getD 28 undef = u3, tm.getD 29 undef = u4, tm.getD 30 undef = u5, tm.getD 31 undef = u6, tm.getD 32 undef = u7 at htm
  clear h8 h10
  subst htm
  obtain ⟨d0, d1, d2, d3⟩ := h9.cs4
  go_wp2
  refine bodyPost_ret (v := .tuple #[.string A, .agg #[.int .u64 y3, .int .u64 y2, .int .u64 y1, .int .u64 y0], .bool false]) (by simp [results, Try.results61, go_sem, d0, d1, d2, d3]) rfl ?_
  exact ⟨rfl, HB4.out⟩
set_option maxRecDepth 100000 in
set_option maxHeartbeats 2000000 in
theorem cutU_one (s A B : ByteArray) (t3 t2 t1 t0 : Int) (CC : ∀ w, Calls Try.prog 65 #[.string s, .string ⟨#[47]⟩] w (VP (.tuple #[.string A, .string B, .bool true]) w)) (CR : ∀ w, Calls Try.prog 16 #[.string B] w (VP (.tuple #[.agg #[.int .u64 t3, .int .u64 t2, .int .u64 t1, .int .u64 t0], .bool true]) w)) (C1 : ∀ w, Calls Try.prog 95 #[.int .i64 1] w (VP (W4 1) w)) (E : ∀ w, (Op.equalIn 10000 26 (.agg #[.int .u64 t3, .int .u64 t2, .int .u64 t1, .int .u64 t0]) (W4 1)).run Try.prog w = .ok true w) (w : World) : Calls Try.prog 61 #[.string s] w (VP (.tuple #[.string A, .agg #[.int .u64 t3, .int .u64 t2, .int .u64 t1, .int .u64 t0], .bool false]) w) := by
  have HB0 : Hid (Below w.heap.size w (w.alloc (Obj.cells #[.int .u64 0, .int .u64 0, .int .u64 0, .int .u64 0] 26))) := (Below.refl _ _).alloc (Nat.le_refl _) _
  have BR0 : Hid (Blk (w.alloc (Obj.cells #[.int .u64 0, .int .u64 0, .int .u64 0, .int .u64 0] 26)) w.heap.size [.int .u64 0, .int .u64 0, .int .u64 0, .int .u64 0]) := Blk.new w [.int .u64 0, .int .u64 0, .int .u64 0, .int .u64 0] _ rfl
  go_enter Try.func61, Try.ntmps61
  go_wp2_with fail
  generalize (w.alloc (Obj.cells #[.int .u64 0, .int .u64 0, .int .u64 0, .int .u64 0] 26)) = W0 at *
  refine (CC _).mono ?_
  rintro e w1 ⟨rfl, hB⟩
  have BR1 := BR0.out.step hB
  have HB1 := HB0.out.trans (hB.mono HB0.out.size)
  clear BR0 HB0 hB CC
  go_wp2_with fail
  refine (CR _).mono ?_
  rintro e w2 ⟨rfl, hB⟩
  have BRa := (BR1.step hB).alloc (Obj.cells #[.int .u64 t3, .int .u64 t2, .int .u64 t1, .int .u64 t0] 26)
  have BR2 : Hid (Blk (w2.alloc (Obj.cells #[.int .u64 t3, .int .u64 t2, .int .u64 t1, .int .u64 t0] 26)).drew w.heap.size [.int .u64 0, .int .u64 0, .int .u64 0, .int .u64 0]) := BRa.drew
  have HBx := HB1.trans (hB.mono HB1.size)
  have HB2 : Hid (Below w.heap.size w (w2.alloc (Obj.cells #[.int .u64 t3, .int .u64 t2, .int .u64 t1, .int .u64 t0] 26)).drew) := (HBx.alloc HBx.size _).drew
  have X0 := Blk.new w2 [.int .u64 t3, .int .u64 t2, .int .u64 t1, .int .u64 t0] 26 rfl
  rw [show ([.int .u64 t3, .int .u64 t2, .int .u64 t1, .int .u64 t0] : List Value).toArray = #[.int .u64 t3, .int .u64 t2, .int .u64 t1, .int .u64 t0] from rfl] at X0
  have HX : Hid (Blk (w2.alloc (Obj.cells #[.int .u64 t3, .int .u64 t2, .int .u64 t1, .int .u64 t0] 26)).drew w2.heap.size [.int .u64 t3, .int .u64 t2, .int .u64 t1, .int .u64 t0]) := X0.drew
  obtain ⟨c0, c1, c2, c3⟩ := X0.cs4
  have hgl := (BR1.step hB).lt
  have hne : ¬ (w2.heap.size = w.heap.size) := by omega
  have hne' : ¬ (w.heap.size = w2.heap.size) := by omega
  clear BR1 HB1 hB CR HBx X0 BRa
  go_wp2_with fail
  generalize (w2.alloc (Obj.cells #[.int .u64 t3, .int .u64 t2, .int .u64 t1, .int .u64 t0] 26)) = W2 at *
  generalize w2.heap.size = g at *
  go_region_with (go_at_call 95; refine (C1 _).mono ?_; rintro e w4 ⟨rfl, hB⟩; obtain ⟨k0, k1, k2, k3⟩ := (show Blk w4 g [.int .u64 t3, .int .u64 t2, .int .u64 t1, .int .u64 t0] from HX.out.step hB).cs4; obtain ⟨d0, e0, d1, e1, d2, e2, d3, e3⟩ := (show Blk w4 w.heap.size [.int .u64 0, .int .u64 0, .int .u64 0, .int .u64 0] from BR2.out.step hB).cf4; have dl := (show Blk w4 w.heap.size [.int .u64 0, .int .u64 0, .int .u64 0, .int .u64 0] from BR2.out.step hB).lt; have HB3 : Hid (Below w.heap.size w w4) := HB2.out.trans (hB.mono HB2.out.size); clear hB C1)
  all_goals go_wp2
  all_goals refine bodyPost_ret (v := .tuple #[.string A, .agg #[.int .u64 t3, .int .u64 t2, .int .u64 t1, .int .u64 t0], .bool false]) (by simp [results, Try.results61, go_sem, d0, d1, d2, d3]) rfl ?_
  all_goals exact ⟨rfl, tell_below HB3.out (Nat.le_refl _)⟩
set_option maxRecDepth 100000 in
set_option maxHeartbeats 2000000 in
theorem cutU_other (s A B : ByteArray) (t3 t2 t1 t0 : Int) (CC : ∀ w, Calls Try.prog 65 #[.string s, .string ⟨#[47]⟩] w (VP (.tuple #[.string A, .string B, .bool true]) w)) (CR : ∀ w, Calls Try.prog 16 #[.string B] w (VP (.tuple #[.agg #[.int .u64 t3, .int .u64 t2, .int .u64 t1, .int .u64 t0], .bool true]) w)) (C1 : ∀ w, Calls Try.prog 95 #[.int .i64 1] w (VP (W4 1) w)) (E : ∀ w, (Op.equalIn 10000 26 (.agg #[.int .u64 t3, .int .u64 t2, .int .u64 t1, .int .u64 t0]) (W4 1)).run Try.prog w = .ok false w) (w : World) : Calls Try.prog 61 #[.string s] w (VP (.tuple #[.string A, .agg #[.int .u64 t3, .int .u64 t2, .int .u64 t1, .int .u64 t0], .bool true]) w) := by
  have HB0 : Hid (Below w.heap.size w (w.alloc (Obj.cells #[.int .u64 0, .int .u64 0, .int .u64 0, .int .u64 0] 26))) := (Below.refl _ _).alloc (Nat.le_refl _) _
  have BR0 : Hid (Blk (w.alloc (Obj.cells #[.int .u64 0, .int .u64 0, .int .u64 0, .int .u64 0] 26)) w.heap.size [.int .u64 0, .int .u64 0, .int .u64 0, .int .u64 0]) := Blk.new w [.int .u64 0, .int .u64 0, .int .u64 0, .int .u64 0] _ rfl
  go_enter Try.func61, Try.ntmps61
  go_wp2_with fail
  generalize (w.alloc (Obj.cells #[.int .u64 0, .int .u64 0, .int .u64 0, .int .u64 0] 26)) = W0 at *
  refine (CC _).mono ?_
  rintro e w1 ⟨rfl, hB⟩
  have BR1 := BR0.out.step hB
  have HB1 := HB0.out.trans (hB.mono HB0.out.size)
  clear BR0 HB0 hB CC
  go_wp2_with fail
  refine (CR _).mono ?_
  rintro e w2 ⟨rfl, hB⟩
  have BRa := (BR1.step hB).alloc (Obj.cells #[.int .u64 t3, .int .u64 t2, .int .u64 t1, .int .u64 t0] 26)
  have BR2 : Hid (Blk (w2.alloc (Obj.cells #[.int .u64 t3, .int .u64 t2, .int .u64 t1, .int .u64 t0] 26)).drew w.heap.size [.int .u64 0, .int .u64 0, .int .u64 0, .int .u64 0]) := BRa.drew
  have HBx := HB1.trans (hB.mono HB1.size)
  have HB2 : Hid (Below w.heap.size w (w2.alloc (Obj.cells #[.int .u64 t3, .int .u64 t2, .int .u64 t1, .int .u64 t0] 26)).drew) := (HBx.alloc HBx.size _).drew
  have X0 := Blk.new w2 [.int .u64 t3, .int .u64 t2, .int .u64 t1, .int .u64 t0] 26 rfl
  rw [show ([.int .u64 t3, .int .u64 t2, .int .u64 t1, .int .u64 t0] : List Value).toArray = #[.int .u64 t3, .int .u64 t2, .int .u64 t1, .int .u64 t0] from rfl] at X0
  have HX : Hid (Blk (w2.alloc (Obj.cells #[.int .u64 t3, .int .u64 t2, .int .u64 t1, .int .u64 t0] 26)).drew w2.heap.size [.int .u64 t3, .int .u64 t2, .int .u64 t1, .int .u64 t0]) := X0.drew
  obtain ⟨c0, c1, c2, c3⟩ := X0.cs4
  have hgl := (BR1.step hB).lt
  have hne : ¬ (w2.heap.size = w.heap.size) := by omega
  have hne' : ¬ (w.heap.size = w2.heap.size) := by omega
  clear BR1 HB1 hB CR HBx X0 BRa
  go_wp2_with fail
  generalize (w2.alloc (Obj.cells #[.int .u64 t3, .int .u64 t2, .int .u64 t1, .int .u64 t0] 26)) = W2 at *
  generalize w2.heap.size = g at *
  go_region_with (go_at_call 95; refine (C1 _).mono ?_; rintro e w4 ⟨rfl, hB⟩; obtain ⟨k0, k1, k2, k3⟩ := (show Blk w4 g [.int .u64 t3, .int .u64 t2, .int .u64 t1, .int .u64 t0] from HX.out.step hB).cs4; obtain ⟨d0, e0, d1, e1, d2, e2, d3, e3⟩ := (show Blk w4 w.heap.size [.int .u64 0, .int .u64 0, .int .u64 0, .int .u64 0] from BR2.out.step hB).cf4; have dl := (show Blk w4 w.heap.size [.int .u64 0, .int .u64 0, .int .u64 0, .int .u64 0] from BR2.out.step hB).lt; have HB3 : Hid (Below w.heap.size w w4) := HB2.out.trans (hB.mono HB2.out.size); clear hB C1)
  all_goals go_wp2
  all_goals refine bodyPost_ret (v := .tuple #[.string A, .agg #[.int .u64 t3, .int .u64 t2, .int .u64 t1, .int .u64 t0], .bool true]) (by simp [results, Try.results61, go_sem, d0, d1, d2, d3]) rfl ?_
  all_goals exact ⟨rfl, tell_below HB3.out (Nat.le_refl _)⟩
set_option maxRecDepth 100000 in
set_option maxHeartbeats 2000000 in
theorem cutUnder_any (s : ByteArray) (hm : s.size ≤ 9223372036854775807) : ∃ d ok, CuOk (btL s) d ok ∧ ∀ w, Calls Try.prog 61 #[.string s] w (VP (.tuple #[.string (strL (cutA 47 (btL s))), .agg #[.int .u64 (ww3 d), .int .u64 (ww2 d), .int .u64 (ww1 d), .int .u64 (ww0 d)], .bool ok]) w) := by
  have CC := cut_any s 47 hm
  rw [show (47 : UInt8).toNat = 47 from rfl] at CC
  have C1 := one_det
  by_cases h : 47 ∈ btL s
  · rw [decide_eq_true h] at CC
    have CR := implRead_any (strL (cutB 47 (btL s))) (cut_sz 47 s hm).2
    rw [(cut_bt 47 s).2] at CR
    rcases rd_cases (cutB 47 (btL s)) with ⟨z, hz, hl, hr⟩ | ⟨hn, hr⟩
    · rw [hr] at CR
      have E := eqW10 z 1 hz told_one
      have hc := cu_some h hz hl
      cases hq : decide (z = 1) <;> rw [hq] at E hc
      · exact ⟨z, _, hc, fun w => cutU_other s _ _ _ _ _ _ CC CR C1 E w⟩
      · exact ⟨z, _, hc, fun w => cutU_one s _ _ _ _ _ _ CC CR C1 E w⟩
    · rw [hr] at CR
      exact ⟨0, false, cu_bad h hn, fun w => cutU_bad s _ _ _ _ _ _ CC CR w⟩
  · rw [decide_eq_false h] at CC
    refine ⟨1, true, cu_none h, fun w => ?_⟩
    generalize strL (cutB 47 (btL s)) = B at *
    generalize strL (cutA 47 (btL s)) = A at *
    have HB0 : Hid (Below w.heap.size w (w.alloc (Obj.cells #[.int .u64 0, .int .u64 0, .int .u64 0, .int .u64 0] 26))) := (Below.refl _ _).alloc (Nat.le_refl _) _
    have BR0 : Hid (Blk (w.alloc (Obj.cells #[.int .u64 0, .int .u64 0, .int .u64 0, .int .u64 0] 26)) w.heap.size [.int .u64 0, .int .u64 0, .int .u64 0, .int .u64 0]) := Blk.new w [.int .u64 0, .int .u64 0, .int .u64 0, .int .u64 0] _ rfl
    clear hm h
    go_enter Try.func61, Try.ntmps61
    go_wp2_with fail
    generalize (w.alloc (Obj.cells #[.int .u64 0, .int .u64 0, .int .u64 0, .int .u64 0] 26)) = W0 at *
    refine (CC _).mono ?_
    rintro e w1 ⟨rfl, hB⟩
    have BR1 := BR0.out.step hB
    have HB1 := HB0.out.trans (hB.mono HB0.out.size)
    clear BR0 HB0 hB CC
    go_wp2_with fail
    refine (C1 _).mono ?_
    rintro e w2 ⟨rfl, hB⟩
    have BR2 := BR1.step hB
    have HB2 := HB1.trans (hB.mono HB1.size)
    clear BR1 HB1 hB C1
    obtain ⟨d0, e0, d1, e1, d2, e2, d3, e3⟩ := BR2.cf4
    have dl := BR2.lt
    all_goals go_wp2
    all_goals refine bodyPost_ret (v := .tuple #[.string A, .agg #[.int .u64 (ww3 1), .int .u64 (ww2 1), .int .u64 (ww1 1), .int .u64 (ww0 1)], .bool true]) (by simp [results, Try.results61, go_sem, d0, d1, d2, d3]) rfl ?_
    all_goals exact ⟨rfl, tell_below HB2 (Nat.le_refl _)⟩
end Go.Proofs.Ytnnojeggjnddpaa

/- A fraction read from its text: the program's. -/
namespace Go.Proofs.Ytnnojeggjnddpaa
open Go.RowKit
theorem rd_ex (l : List Nat) : ∃ x ok, told x = true ∧ (ok = true → l = txL x) ∧ (ok = false → ∀ z, told z = true → l ≠ txL z) ∧ rdV l = .tuple #[.agg #[.int .u64 (ww3 x), .int .u64 (ww2 x), .int .u64 (ww1 x), .int .u64 (ww0 x)], .bool ok] := by
  rcases rd_cases l with ⟨z, hz, hl, hr⟩ | ⟨hn, hr⟩
  · exact ⟨z, true, hz, fun _ => hl, fun h => Bool.noConfusion h, hr⟩
  · exact ⟨0, false, by decide, fun h => Bool.noConfusion h, fun _ => hn, hr⟩
end Go.Proofs.Ytnnojeggjnddpaa

/- A fraction read from its text: the reckoning. -/
namespace Go.Proofs.Ytnnojeggjnddpaa
open Go.RowKit
theorem tx_ne (z : Int) : txL z ≠ [] := by
  by_cases h : z < 0
  · rw [tx_neg h]; simp
  · rw [tx_pos h]; exact (dgs_dec _).1
theorem unL_lt (z : Int) : ∀ b ∈ unL z, b < 256 := by
  intro b hb
  unfold unL at hb
  split at hb
  · simp at hb
  · rcases List.mem_cons.1 hb with h | h
    · omega
    · exact txL_lt z b h
theorem cut_here {c : Nat} {p q : List Nat} (h : c ∉ p) : cutA c (p ++ c :: q) = p ∧ cutB c (p ++ c :: q) = q := by
  have hm : c ∈ p ++ c :: q := by simp
  obtain ⟨e1, e2⟩ := cut_in hm
  obtain ⟨e3, e4⟩ := first_one h e2 e1
  exact ⟨e3.symm, e4.symm⟩
/-- What is found where a fraction is written. -/
theorem ra_cut {l p : List Nat} {y : Int} (hp : 47 ∉ p) (h : l = p ++ unL y) : cutA 47 l = p ∧ (47 ∈ l → y ≠ 1 ∧ cutB 47 l = txL y) ∧ (47 ∉ l → y = 1) := by
  by_cases hy : y = 1
  · rw [hy, unL_one, List.append_nil] at h
    rw [h]
    exact ⟨(cut_not hp).1, fun h2 => absurd h2 hp, fun _ => hy⟩
  · rw [unL_not hy] at h
    rw [h]
    obtain ⟨e1, e2⟩ := cut_here (q := txL y) hp
    exact ⟨e1, fun _ => ⟨hy, e2⟩, fun h2 => absurd (by simp) h2⟩
end Go.Proofs.Ytnnojeggjnddpaa

/- A point read from its text: the program's. -/
namespace Go.Proofs.Ytnnojeggjnddpaa
open Go.RowKit
theorem pt_split (x y z : Int) : ptL x y z = (txL x ++ 44 :: txL y) ++ unL z := by unfold ptL; simp
theorem pt_no47 (x y : Int) : 47 ∉ txL x ++ 44 :: txL y := by
  intro h
  rcases List.mem_append.1 h with h | h
  · exact txL_47 x h
  · rcases List.mem_cons.1 h with h | h
    · omega
    · exact txL_47 y h
/-- What is found where a point is written. -/
theorem pt_cut {l : List Nat} {x y z : Int} (h : l = ptL x y z) : cutA 47 l = txL x ++ 44 :: txL y ∧ cutA 44 (cutA 47 l) = txL x ∧ cutB 44 (cutA 47 l) = txL y ∧ (47 ∈ l → z ≠ 1 ∧ cutB 47 l = txL z) ∧ (47 ∉ l → z = 1) := by
  rw [pt_split] at h
  obtain ⟨e1, e2, e3⟩ := ra_cut (pt_no47 x y) h
  obtain ⟨e4, e5⟩ := cut_here (q := txL y) (txL_44 x)
  exact ⟨e1, by rw [e1, e4], by rw [e1, e5], e2, e3⟩
theorem comma_in {a : List Nat} {y : Int} (h : cutB 44 a = txL y) : 44 ∈ a := Classical.byContradiction fun h2 => tx_ne y (by rw [← h]; exact (cut_not h2).2)
set_option maxRecDepth 100000 in
set_option maxHeartbeats 8000000 in
theorem implReadPoint_any (s : ByteArray) (hm : s.size ≤ 9223372036854775807) (w : World) : Calls Try.prog 28 #[.string s] w (VP (rpV (btL s)) w) := by
  obtain ⟨z, ok, hk, CU⟩ := cutUnder_any s hm
  obtain ⟨x, xk, hx, xy, xn, hrx⟩ := rd_ex (cutA 44 (cutA 47 (btL s)))
  obtain ⟨y, yk, hy, yy, yn, hry⟩ := rd_ex (cutB 44 (cutA 47 (btL s)))
  have hmA := (cut_sz 47 s hm).1
  have CK := cut_any (strL (cutA 47 (btL s))) 44 hmA
  have CX := implRead_any (strL (cutA 44 (btL (strL (cutA 47 (btL s)))))) (cut_sz 44 _ hmA).1
  have CY := implRead_any (strL (cutB 44 (btL (strL (cutA 47 (btL s)))))) (cut_sz 44 _ hmA).2
  rw [show (44 : UInt8).toNat = 44 from rfl] at CK
  rw [(cut_bt 44 _).1] at CX
  rw [(cut_bt 44 _).2] at CY
  rw [(cut_bt 47 s).1] at CK CX CY
  rw [hrx] at CX
  rw [hry] at CY
  obtain ⟨hz, ey, en⟩ := hk
  have CQ := pright_det x y z hx hy hz
  have HA : ok = false → rpV (btL s) = .tuple #[PV 0 0 0, .bool false] := fun h1 => rpV_no fun x' y' z' h => en h1 _ z' h.2.2.1 (pt_no47 x' y') (by rw [h.2.2.2.2, pt_split])
  have HBx : xk = false → rpV (btL s) = .tuple #[PV 0 0 0, .bool false] := fun h1 => rpV_no fun x' y' z' h => xn h1 x' h.1 (pt_cut h.2.2.2.2).2.1
  have HCy : yk = false → rpV (btL s) = .tuple #[PV 0 0 0, .bool false] := fun h1 => rpV_no fun x' y' z' h => yn h1 y' h.2.1 (pt_cut h.2.2.2.2).2.2.1
  have HD : ok = true → xk = true → yk = true → btL s = ptL x y z := fun h1 h2 h3 => by
    have e1 := ey h1
    have e2 := (cut_in (comma_in (yy h3))).1
    rw [xy h2, yy h3] at e2
    rw [e2] at e1
    rw [pt_split]
    exact e1
  have HE : ok = true → xk = true → yk = true → ptB x y z = false → rpV (btL s) = .tuple #[PV 0 0 0, .bool false] := fun h1 h2 h3 h4 => rpV_no fun x' y' z' h => by
    obtain ⟨e1, e2, e3⟩ := pt_one ((HD h1 h2 h3).symm.trans h.2.2.2.2)
    have h5 := h.2.2.2.1
    rw [← e1, ← e2, ← e3, h4] at h5
    exact Bool.noConfusion h5
  have HF : ok = true → xk = true → yk = true → ptB x y z = true → rpV (btL s) = .tuple #[PV x y z, .bool true] := fun h1 h2 h3 h4 => rpV_yes ⟨hx, hy, hz, h4, HD h1 h2 h3⟩
  generalize strL (cutA 44 (cutA 47 (btL s))) = XT at *
  generalize strL (cutB 44 (cutA 47 (btL s))) = YT at *
  generalize decide (44 ∈ cutA 47 (btL s)) = fd at *
  generalize strL (cutA 47 (btL s)) = A at *
  clear hrx hry hm hmA ey en xy xn yy yn HD
  have HB : Below w.heap.size w (w.alloc (Obj.cells #[.int .u64 0, .int .u64 0, .int .u64 0, .int .u64 0, .int .u64 0, .int .u64 0, .int .u64 0, .int .u64 0, .int .u64 0, .int .u64 0, .int .u64 0, .int .u64 0] 47)) := (Below.refl _ _).alloc (Nat.le_refl _) _
  have R0 : Blk (w.alloc (Obj.cells #[.int .u64 0, .int .u64 0, .int .u64 0, .int .u64 0, .int .u64 0, .int .u64 0, .int .u64 0, .int .u64 0, .int .u64 0, .int .u64 0, .int .u64 0, .int .u64 0] 47)) w.heap.size [.int .u64 0, .int .u64 0, .int .u64 0, .int .u64 0, .int .u64 0, .int .u64 0, .int .u64 0, .int .u64 0, .int .u64 0, .int .u64 0, .int .u64 0, .int .u64 0] := Blk.new w [.int .u64 0, .int .u64 0, .int .u64 0, .int .u64 0, .int .u64 0, .int .u64 0, .int .u64 0, .int .u64 0, .int .u64 0, .int .u64 0, .int .u64 0, .int .u64 0] _ rfl
  cases ok
  · have HV : Hid (rpV (btL s) = .tuple #[.agg #[.int .u64 0, .int .u64 0, .int .u64 0, .int .u64 0, .int .u64 0, .int .u64 0, .int .u64 0, .int .u64 0, .int .u64 0, .int .u64 0, .int .u64 0, .int .u64 0], .bool false]) := HA rfl
    clear HA HBx HCy HE HF CK CX CY CQ
    go_enter Try.func28, Try.ntmps28
    go_wp2_with fail
    generalize (w.alloc (Obj.cells #[.int .u64 0, .int .u64 0, .int .u64 0, .int .u64 0, .int .u64 0, .int .u64 0, .int .u64 0, .int .u64 0, .int .u64 0, .int .u64 0, .int .u64 0, .int .u64 0] 47)) = W0 at *
    refine (CU _).mono ?_
    rintro e w1 ⟨rfl, hB⟩
    replace HB := HB.trans (hB.mono HB.size)
    replace R0 := R0.step hB
    clear hB
    clear CU
    have X1 := Blk.new w1 [.int .u64 (ww3 z), .int .u64 (ww2 z), .int .u64 (ww1 z), .int .u64 (ww0 z)] 26 rfl
    rw [show ([.int .u64 (ww3 z), .int .u64 (ww2 z), .int .u64 (ww1 z), .int .u64 (ww0 z)] : List Value).toArray = #[.int .u64 (ww3 z), .int .u64 (ww2 z), .int .u64 (ww1 z), .int .u64 (ww0 z)] from rfl] at X1
    replace HB := HB.alloc HB.size (Obj.cells #[.int .u64 (ww3 z), .int .u64 (ww2 z), .int .u64 (ww1 z), .int .u64 (ww0 z)] 26)
    replace R0 := R0.alloc (Obj.cells #[.int .u64 (ww3 z), .int .u64 (ww2 z), .int .u64 (ww1 z), .int .u64 (ww0 z)] 26)
    clear X1
    have dl := R0.lt
    have o0 := R0.c 0 rfl; have q0 := R0.f 0 rfl; have o1 := R0.c 1 rfl; have q1 := R0.f 1 rfl; have o2 := R0.c 2 rfl; have q2 := R0.f 2 rfl; have o3 := R0.c 3 rfl; have q3 := R0.f 3 rfl; have o4 := R0.c 4 rfl; have q4 := R0.f 4 rfl; have o5 := R0.c 5 rfl; have q5 := R0.f 5 rfl; have o6 := R0.c 6 rfl; have q6 := R0.f 6 rfl; have o7 := R0.c 7 rfl; have q7 := R0.f 7 rfl; have o8 := R0.c 8 rfl; have q8 := R0.f 8 rfl; have o9 := R0.c 9 rfl; have q9 := R0.f 9 rfl; have o10 := R0.c 10 rfl; have q10 := R0.f 10 rfl; have o11 := R0.c 11 rfl; have q11 := R0.f 11 rfl
    go_wp2
    refine bodyPost_ret (v := .tuple #[.agg #[.int .u64 0, .int .u64 0, .int .u64 0, .int .u64 0, .int .u64 0, .int .u64 0, .int .u64 0, .int .u64 0, .int .u64 0, .int .u64 0, .int .u64 0, .int .u64 0], .bool false]) (by simp [results, Try.results28, go_sem, o0, o1, o2, o3, o4, o5, o6, o7, o8, o9, o10, o11]) rfl ?_
    refine ⟨by rw [HV.out], ?_⟩
    repeat' (refine Below.setCell ?_ (by simp; try omega) _)
    exact HB
  · cases xk
    · have HV : Hid (rpV (btL s) = .tuple #[.agg #[.int .u64 0, .int .u64 0, .int .u64 0, .int .u64 0, .int .u64 0, .int .u64 0, .int .u64 0, .int .u64 0, .int .u64 0, .int .u64 0, .int .u64 0, .int .u64 0], .bool false]) := HBx rfl
      clear HA HBx HCy HE HF CY CQ
      go_enter Try.func28, Try.ntmps28
      go_wp2_with fail
      generalize (w.alloc (Obj.cells #[.int .u64 0, .int .u64 0, .int .u64 0, .int .u64 0, .int .u64 0, .int .u64 0, .int .u64 0, .int .u64 0, .int .u64 0, .int .u64 0, .int .u64 0, .int .u64 0] 47)) = W0 at *
      refine (CU _).mono ?_
      rintro e w1 ⟨rfl, hB⟩
      replace HB := HB.trans (hB.mono HB.size)
      replace R0 := R0.step hB
      clear hB
      clear CU
      have X1 := Blk.new w1 [.int .u64 (ww3 z), .int .u64 (ww2 z), .int .u64 (ww1 z), .int .u64 (ww0 z)] 26 rfl
      rw [show ([.int .u64 (ww3 z), .int .u64 (ww2 z), .int .u64 (ww1 z), .int .u64 (ww0 z)] : List Value).toArray = #[.int .u64 (ww3 z), .int .u64 (ww2 z), .int .u64 (ww1 z), .int .u64 (ww0 z)] from rfl] at X1
      replace HB := HB.alloc HB.size (Obj.cells #[.int .u64 (ww3 z), .int .u64 (ww2 z), .int .u64 (ww1 z), .int .u64 (ww0 z)] 26)
      replace R0 := R0.alloc (Obj.cells #[.int .u64 (ww3 z), .int .u64 (ww2 z), .int .u64 (ww1 z), .int .u64 (ww0 z)] 26)
      go_wp2_with fail
      generalize w1.heap.size = g1 at *
      generalize (w1.alloc (Obj.cells #[.int .u64 (ww3 z), .int .u64 (ww2 z), .int .u64 (ww1 z), .int .u64 (ww0 z)] 26)) = W1 at *
      refine (CK _).mono ?_
      rintro e w2 ⟨rfl, hB⟩
      replace HB := HB.trans (hB.mono HB.size)
      replace R0 := R0.step hB
      replace X1 := X1.step hB
      clear hB
      clear CK
      go_wp2_with fail
      refine (CX _).mono ?_
      rintro e w3 ⟨rfl, hB⟩
      replace HB := HB.trans (hB.mono HB.size)
      replace R0 := R0.step hB
      replace X1 := X1.step hB
      clear hB
      clear CX
      have X2 := Blk.new w3 [.int .u64 (ww3 x), .int .u64 (ww2 x), .int .u64 (ww1 x), .int .u64 (ww0 x)] 26 rfl
      rw [show ([.int .u64 (ww3 x), .int .u64 (ww2 x), .int .u64 (ww1 x), .int .u64 (ww0 x)] : List Value).toArray = #[.int .u64 (ww3 x), .int .u64 (ww2 x), .int .u64 (ww1 x), .int .u64 (ww0 x)] from rfl] at X2
      replace HB := HB.alloc HB.size (Obj.cells #[.int .u64 (ww3 x), .int .u64 (ww2 x), .int .u64 (ww1 x), .int .u64 (ww0 x)] 26)
      replace R0 := R0.alloc (Obj.cells #[.int .u64 (ww3 x), .int .u64 (ww2 x), .int .u64 (ww1 x), .int .u64 (ww0 x)] 26)
      replace X1 := X1.alloc (Obj.cells #[.int .u64 (ww3 x), .int .u64 (ww2 x), .int .u64 (ww1 x), .int .u64 (ww0 x)] 26)
      clear X1 X2
      have dl := R0.lt
      have o0 := R0.c 0 rfl; have q0 := R0.f 0 rfl; have o1 := R0.c 1 rfl; have q1 := R0.f 1 rfl; have o2 := R0.c 2 rfl; have q2 := R0.f 2 rfl; have o3 := R0.c 3 rfl; have q3 := R0.f 3 rfl; have o4 := R0.c 4 rfl; have q4 := R0.f 4 rfl; have o5 := R0.c 5 rfl; have q5 := R0.f 5 rfl; have o6 := R0.c 6 rfl; have q6 := R0.f 6 rfl; have o7 := R0.c 7 rfl; have q7 := R0.f 7 rfl; have o8 := R0.c 8 rfl; have q8 := R0.f 8 rfl; have o9 := R0.c 9 rfl; have q9 := R0.f 9 rfl; have o10 := R0.c 10 rfl; have q10 := R0.f 10 rfl; have o11 := R0.c 11 rfl; have q11 := R0.f 11 rfl
      go_wp2
      refine bodyPost_ret (v := .tuple #[.agg #[.int .u64 0, .int .u64 0, .int .u64 0, .int .u64 0, .int .u64 0, .int .u64 0, .int .u64 0, .int .u64 0, .int .u64 0, .int .u64 0, .int .u64 0, .int .u64 0], .bool false]) (by simp [results, Try.results28, go_sem, o0, o1, o2, o3, o4, o5, o6, o7, o8, o9, o10, o11]) rfl ?_
      refine ⟨by rw [HV.out], ?_⟩
      repeat' (refine Below.setCell ?_ (by simp; try omega) _)
      exact HB
    · cases yk
      · have HV : Hid (rpV (btL s) = .tuple #[.agg #[.int .u64 0, .int .u64 0, .int .u64 0, .int .u64 0, .int .u64 0, .int .u64 0, .int .u64 0, .int .u64 0, .int .u64 0, .int .u64 0, .int .u64 0, .int .u64 0], .bool false]) := HCy rfl
        clear HA HBx HCy HE HF CQ
        go_enter Try.func28, Try.ntmps28
        go_wp2_with fail
        generalize (w.alloc (Obj.cells #[.int .u64 0, .int .u64 0, .int .u64 0, .int .u64 0, .int .u64 0, .int .u64 0, .int .u64 0, .int .u64 0, .int .u64 0, .int .u64 0, .int .u64 0, .int .u64 0] 47)) = W0 at *
        refine (CU _).mono ?_
        rintro e w1 ⟨rfl, hB⟩
        replace HB := HB.trans (hB.mono HB.size)
        replace R0 := R0.step hB
        clear hB
        clear CU
        have X1 := Blk.new w1 [.int .u64 (ww3 z), .int .u64 (ww2 z), .int .u64 (ww1 z), .int .u64 (ww0 z)] 26 rfl
        rw [show ([.int .u64 (ww3 z), .int .u64 (ww2 z), .int .u64 (ww1 z), .int .u64 (ww0 z)] : List Value).toArray = #[.int .u64 (ww3 z), .int .u64 (ww2 z), .int .u64 (ww1 z), .int .u64 (ww0 z)] from rfl] at X1
        replace HB := HB.alloc HB.size (Obj.cells #[.int .u64 (ww3 z), .int .u64 (ww2 z), .int .u64 (ww1 z), .int .u64 (ww0 z)] 26)
        replace R0 := R0.alloc (Obj.cells #[.int .u64 (ww3 z), .int .u64 (ww2 z), .int .u64 (ww1 z), .int .u64 (ww0 z)] 26)
        go_wp2_with fail
        generalize w1.heap.size = g1 at *
        generalize (w1.alloc (Obj.cells #[.int .u64 (ww3 z), .int .u64 (ww2 z), .int .u64 (ww1 z), .int .u64 (ww0 z)] 26)) = W1 at *
        refine (CK _).mono ?_
        rintro e w2 ⟨rfl, hB⟩
        replace HB := HB.trans (hB.mono HB.size)
        replace R0 := R0.step hB
        replace X1 := X1.step hB
        clear hB
        clear CK
        go_wp2_with fail
        refine (CX _).mono ?_
        rintro e w3 ⟨rfl, hB⟩
        replace HB := HB.trans (hB.mono HB.size)
        replace R0 := R0.step hB
        replace X1 := X1.step hB
        clear hB
        clear CX
        have X2 := Blk.new w3 [.int .u64 (ww3 x), .int .u64 (ww2 x), .int .u64 (ww1 x), .int .u64 (ww0 x)] 26 rfl
        rw [show ([.int .u64 (ww3 x), .int .u64 (ww2 x), .int .u64 (ww1 x), .int .u64 (ww0 x)] : List Value).toArray = #[.int .u64 (ww3 x), .int .u64 (ww2 x), .int .u64 (ww1 x), .int .u64 (ww0 x)] from rfl] at X2
        replace HB := HB.alloc HB.size (Obj.cells #[.int .u64 (ww3 x), .int .u64 (ww2 x), .int .u64 (ww1 x), .int .u64 (ww0 x)] 26)
        replace R0 := R0.alloc (Obj.cells #[.int .u64 (ww3 x), .int .u64 (ww2 x), .int .u64 (ww1 x), .int .u64 (ww0 x)] 26)
        replace X1 := X1.alloc (Obj.cells #[.int .u64 (ww3 x), .int .u64 (ww2 x), .int .u64 (ww1 x), .int .u64 (ww0 x)] 26)
        go_wp2_with fail
        generalize w3.heap.size = g3 at *
        generalize (w3.alloc (Obj.cells #[.int .u64 (ww3 x), .int .u64 (ww2 x), .int .u64 (ww1 x), .int .u64 (ww0 x)] 26)) = W3 at *
        refine (CY _).mono ?_
        rintro e w4 ⟨rfl, hB⟩
        replace HB := HB.trans (hB.mono HB.size)
        replace R0 := R0.step hB
        replace X1 := X1.step hB
        replace X2 := X2.step hB
        clear hB
        clear CY
        have X3 := Blk.new w4 [.int .u64 (ww3 y), .int .u64 (ww2 y), .int .u64 (ww1 y), .int .u64 (ww0 y)] 26 rfl
        rw [show ([.int .u64 (ww3 y), .int .u64 (ww2 y), .int .u64 (ww1 y), .int .u64 (ww0 y)] : List Value).toArray = #[.int .u64 (ww3 y), .int .u64 (ww2 y), .int .u64 (ww1 y), .int .u64 (ww0 y)] from rfl] at X3
        replace HB := HB.alloc HB.size (Obj.cells #[.int .u64 (ww3 y), .int .u64 (ww2 y), .int .u64 (ww1 y), .int .u64 (ww0 y)] 26)
        replace R0 := R0.alloc (Obj.cells #[.int .u64 (ww3 y), .int .u64 (ww2 y), .int .u64 (ww1 y), .int .u64 (ww0 y)] 26)
        replace X1 := X1.alloc (Obj.cells #[.int .u64 (ww3 y), .int .u64 (ww2 y), .int .u64 (ww1 y), .int .u64 (ww0 y)] 26)
        replace X2 := X2.alloc (Obj.cells #[.int .u64 (ww3 y), .int .u64 (ww2 y), .int .u64 (ww1 y), .int .u64 (ww0 y)] 26)
        obtain ⟨c0, c1, c2, c3⟩ := X1.cs4
        obtain ⟨d0, d1, d2, d3⟩ := X2.cs4
        obtain ⟨e0, e1, e2, e3⟩ := X3.cs4
        go_upto_region 10 with fail
        clear c0 c1 c2 c3 d0 d1 d2 d3 e0 e1 e2 e3 X1 X2 X3
        have X4 := Blk.new (w4.alloc (Obj.cells #[.int .u64 (ww3 y), .int .u64 (ww2 y), .int .u64 (ww1 y), .int .u64 (ww0 y)] 26)) [.int .u64 (ww3 x), .int .u64 (ww2 x), .int .u64 (ww1 x), .int .u64 (ww0 x), .int .u64 (ww3 y), .int .u64 (ww2 y), .int .u64 (ww1 y), .int .u64 (ww0 y), .int .u64 (ww3 z), .int .u64 (ww2 z), .int .u64 (ww1 z), .int .u64 (ww0 z)] 47 (g := w4.heap.size + 1) (by simp)
        rw [show ([.int .u64 (ww3 x), .int .u64 (ww2 x), .int .u64 (ww1 x), .int .u64 (ww0 x), .int .u64 (ww3 y), .int .u64 (ww2 y), .int .u64 (ww1 y), .int .u64 (ww0 y), .int .u64 (ww3 z), .int .u64 (ww2 z), .int .u64 (ww1 z), .int .u64 (ww0 z)] : List Value).toArray = #[.int .u64 (ww3 x), .int .u64 (ww2 x), .int .u64 (ww1 x), .int .u64 (ww0 x), .int .u64 (ww3 y), .int .u64 (ww2 y), .int .u64 (ww1 y), .int .u64 (ww0 y), .int .u64 (ww3 z), .int .u64 (ww2 z), .int .u64 (ww1 z), .int .u64 (ww0 z)] from rfl] at X4
        replace HB := HB.alloc HB.size (Obj.cells #[.int .u64 (ww3 x), .int .u64 (ww2 x), .int .u64 (ww1 x), .int .u64 (ww0 x), .int .u64 (ww3 y), .int .u64 (ww2 y), .int .u64 (ww1 y), .int .u64 (ww0 y), .int .u64 (ww3 z), .int .u64 (ww2 z), .int .u64 (ww1 z), .int .u64 (ww0 z)] 47)
        replace R0 := R0.alloc (Obj.cells #[.int .u64 (ww3 x), .int .u64 (ww2 x), .int .u64 (ww1 x), .int .u64 (ww0 x), .int .u64 (ww3 y), .int .u64 (ww2 y), .int .u64 (ww1 y), .int .u64 (ww0 y), .int .u64 (ww3 z), .int .u64 (ww2 z), .int .u64 (ww1 z), .int .u64 (ww0 z)] 47)
        generalize w4.heap.size + 1 = g5 at *
        generalize ((w4.alloc (Obj.cells #[.int .u64 (ww3 y), .int .u64 (ww2 y), .int .u64 (ww1 y), .int .u64 (ww0 y)] 26)).alloc (Obj.cells #[.int .u64 (ww3 x), .int .u64 (ww2 x), .int .u64 (ww1 x), .int .u64 (ww0 x), .int .u64 (ww3 y), .int .u64 (ww2 y), .int .u64 (ww1 y), .int .u64 (ww0 y), .int .u64 (ww3 z), .int .u64 (ww2 z), .int .u64 (ww1 z), .int .u64 (ww0 z)] 47)) = W5 at *
        clear X4
        have dl := R0.lt
        have o0 := R0.c 0 rfl; have q0 := R0.f 0 rfl; have o1 := R0.c 1 rfl; have q1 := R0.f 1 rfl; have o2 := R0.c 2 rfl; have q2 := R0.f 2 rfl; have o3 := R0.c 3 rfl; have q3 := R0.f 3 rfl; have o4 := R0.c 4 rfl; have q4 := R0.f 4 rfl; have o5 := R0.c 5 rfl; have q5 := R0.f 5 rfl; have o6 := R0.c 6 rfl; have q6 := R0.f 6 rfl; have o7 := R0.c 7 rfl; have q7 := R0.f 7 rfl; have o8 := R0.c 8 rfl; have q8 := R0.f 8 rfl; have o9 := R0.c 9 rfl; have q9 := R0.f 9 rfl; have o10 := R0.c 10 rfl; have q10 := R0.f 10 rfl; have o11 := R0.c 11 rfl; have q11 := R0.f 11 rfl
        go_wp2
        refine bodyPost_ret (v := .tuple #[.agg #[.int .u64 0, .int .u64 0, .int .u64 0, .int .u64 0, .int .u64 0, .int .u64 0, .int .u64 0, .int .u64 0, .int .u64 0, .int .u64 0, .int .u64 0, .int .u64 0], .bool false]) (by simp [results, Try.results28, go_sem, o0, o1, o2, o3, o4, o5, o6, o7, o8, o9, o10, o11]) rfl ?_
        refine ⟨by rw [HV.out], ?_⟩
        repeat' (refine Below.setCell ?_ (by simp; try omega) _)
        exact HB
      · cases hb : ptB x y z <;> rw [hb] at CQ
        · have HV : Hid (rpV (btL s) = .tuple #[.agg #[.int .u64 0, .int .u64 0, .int .u64 0, .int .u64 0, .int .u64 0, .int .u64 0, .int .u64 0, .int .u64 0, .int .u64 0, .int .u64 0, .int .u64 0, .int .u64 0], .bool false]) := HE rfl rfl rfl hb
          clear HA HBx HCy HE HF hb
          go_enter Try.func28, Try.ntmps28
          go_wp2_with fail
          generalize (w.alloc (Obj.cells #[.int .u64 0, .int .u64 0, .int .u64 0, .int .u64 0, .int .u64 0, .int .u64 0, .int .u64 0, .int .u64 0, .int .u64 0, .int .u64 0, .int .u64 0, .int .u64 0] 47)) = W0 at *
          refine (CU _).mono ?_
          rintro e w1 ⟨rfl, hB⟩
          replace HB := HB.trans (hB.mono HB.size)
          replace R0 := R0.step hB
          clear hB
          clear CU
          have X1 := Blk.new w1 [.int .u64 (ww3 z), .int .u64 (ww2 z), .int .u64 (ww1 z), .int .u64 (ww0 z)] 26 rfl
          rw [show ([.int .u64 (ww3 z), .int .u64 (ww2 z), .int .u64 (ww1 z), .int .u64 (ww0 z)] : List Value).toArray = #[.int .u64 (ww3 z), .int .u64 (ww2 z), .int .u64 (ww1 z), .int .u64 (ww0 z)] from rfl] at X1
          replace HB := HB.alloc HB.size (Obj.cells #[.int .u64 (ww3 z), .int .u64 (ww2 z), .int .u64 (ww1 z), .int .u64 (ww0 z)] 26)
          replace R0 := R0.alloc (Obj.cells #[.int .u64 (ww3 z), .int .u64 (ww2 z), .int .u64 (ww1 z), .int .u64 (ww0 z)] 26)
          go_wp2_with fail
          generalize w1.heap.size = g1 at *
          generalize (w1.alloc (Obj.cells #[.int .u64 (ww3 z), .int .u64 (ww2 z), .int .u64 (ww1 z), .int .u64 (ww0 z)] 26)) = W1 at *
          refine (CK _).mono ?_
          rintro e w2 ⟨rfl, hB⟩
          replace HB := HB.trans (hB.mono HB.size)
          replace R0 := R0.step hB
          replace X1 := X1.step hB
          clear hB
          clear CK
          go_wp2_with fail
          refine (CX _).mono ?_
          rintro e w3 ⟨rfl, hB⟩
          replace HB := HB.trans (hB.mono HB.size)
          replace R0 := R0.step hB
          replace X1 := X1.step hB
          clear hB
          clear CX
          have X2 := Blk.new w3 [.int .u64 (ww3 x), .int .u64 (ww2 x), .int .u64 (ww1 x), .int .u64 (ww0 x)] 26 rfl
          rw [show ([.int .u64 (ww3 x), .int .u64 (ww2 x), .int .u64 (ww1 x), .int .u64 (ww0 x)] : List Value).toArray = #[.int .u64 (ww3 x), .int .u64 (ww2 x), .int .u64 (ww1 x), .int .u64 (ww0 x)] from rfl] at X2
          replace HB := HB.alloc HB.size (Obj.cells #[.int .u64 (ww3 x), .int .u64 (ww2 x), .int .u64 (ww1 x), .int .u64 (ww0 x)] 26)
          replace R0 := R0.alloc (Obj.cells #[.int .u64 (ww3 x), .int .u64 (ww2 x), .int .u64 (ww1 x), .int .u64 (ww0 x)] 26)
          replace X1 := X1.alloc (Obj.cells #[.int .u64 (ww3 x), .int .u64 (ww2 x), .int .u64 (ww1 x), .int .u64 (ww0 x)] 26)
          go_wp2_with fail
          generalize w3.heap.size = g3 at *
          generalize (w3.alloc (Obj.cells #[.int .u64 (ww3 x), .int .u64 (ww2 x), .int .u64 (ww1 x), .int .u64 (ww0 x)] 26)) = W3 at *
          refine (CY _).mono ?_
          rintro e w4 ⟨rfl, hB⟩
          replace HB := HB.trans (hB.mono HB.size)
          replace R0 := R0.step hB
          replace X1 := X1.step hB
          replace X2 := X2.step hB
          clear hB
          clear CY
          have X3 := Blk.new w4 [.int .u64 (ww3 y), .int .u64 (ww2 y), .int .u64 (ww1 y), .int .u64 (ww0 y)] 26 rfl
          rw [show ([.int .u64 (ww3 y), .int .u64 (ww2 y), .int .u64 (ww1 y), .int .u64 (ww0 y)] : List Value).toArray = #[.int .u64 (ww3 y), .int .u64 (ww2 y), .int .u64 (ww1 y), .int .u64 (ww0 y)] from rfl] at X3
          replace HB := HB.alloc HB.size (Obj.cells #[.int .u64 (ww3 y), .int .u64 (ww2 y), .int .u64 (ww1 y), .int .u64 (ww0 y)] 26)
          replace R0 := R0.alloc (Obj.cells #[.int .u64 (ww3 y), .int .u64 (ww2 y), .int .u64 (ww1 y), .int .u64 (ww0 y)] 26)
          replace X1 := X1.alloc (Obj.cells #[.int .u64 (ww3 y), .int .u64 (ww2 y), .int .u64 (ww1 y), .int .u64 (ww0 y)] 26)
          replace X2 := X2.alloc (Obj.cells #[.int .u64 (ww3 y), .int .u64 (ww2 y), .int .u64 (ww1 y), .int .u64 (ww0 y)] 26)
          obtain ⟨c0, c1, c2, c3⟩ := X1.cs4
          obtain ⟨d0, d1, d2, d3⟩ := X2.cs4
          obtain ⟨e0, e1, e2, e3⟩ := X3.cs4
          go_upto_region 10 with fail
          clear c0 c1 c2 c3 d0 d1 d2 d3 e0 e1 e2 e3 X1 X2 X3
          have X4 := Blk.new (w4.alloc (Obj.cells #[.int .u64 (ww3 y), .int .u64 (ww2 y), .int .u64 (ww1 y), .int .u64 (ww0 y)] 26)) [.int .u64 (ww3 x), .int .u64 (ww2 x), .int .u64 (ww1 x), .int .u64 (ww0 x), .int .u64 (ww3 y), .int .u64 (ww2 y), .int .u64 (ww1 y), .int .u64 (ww0 y), .int .u64 (ww3 z), .int .u64 (ww2 z), .int .u64 (ww1 z), .int .u64 (ww0 z)] 47 (g := w4.heap.size + 1) (by simp)
          rw [show ([.int .u64 (ww3 x), .int .u64 (ww2 x), .int .u64 (ww1 x), .int .u64 (ww0 x), .int .u64 (ww3 y), .int .u64 (ww2 y), .int .u64 (ww1 y), .int .u64 (ww0 y), .int .u64 (ww3 z), .int .u64 (ww2 z), .int .u64 (ww1 z), .int .u64 (ww0 z)] : List Value).toArray = #[.int .u64 (ww3 x), .int .u64 (ww2 x), .int .u64 (ww1 x), .int .u64 (ww0 x), .int .u64 (ww3 y), .int .u64 (ww2 y), .int .u64 (ww1 y), .int .u64 (ww0 y), .int .u64 (ww3 z), .int .u64 (ww2 z), .int .u64 (ww1 z), .int .u64 (ww0 z)] from rfl] at X4
          replace HB := HB.alloc HB.size (Obj.cells #[.int .u64 (ww3 x), .int .u64 (ww2 x), .int .u64 (ww1 x), .int .u64 (ww0 x), .int .u64 (ww3 y), .int .u64 (ww2 y), .int .u64 (ww1 y), .int .u64 (ww0 y), .int .u64 (ww3 z), .int .u64 (ww2 z), .int .u64 (ww1 z), .int .u64 (ww0 z)] 47)
          replace R0 := R0.alloc (Obj.cells #[.int .u64 (ww3 x), .int .u64 (ww2 x), .int .u64 (ww1 x), .int .u64 (ww0 x), .int .u64 (ww3 y), .int .u64 (ww2 y), .int .u64 (ww1 y), .int .u64 (ww0 y), .int .u64 (ww3 z), .int .u64 (ww2 z), .int .u64 (ww1 z), .int .u64 (ww0 z)] 47)
          generalize w4.heap.size + 1 = g5 at *
          generalize ((w4.alloc (Obj.cells #[.int .u64 (ww3 y), .int .u64 (ww2 y), .int .u64 (ww1 y), .int .u64 (ww0 y)] 26)).alloc (Obj.cells #[.int .u64 (ww3 x), .int .u64 (ww2 x), .int .u64 (ww1 x), .int .u64 (ww0 x), .int .u64 (ww3 y), .int .u64 (ww2 y), .int .u64 (ww1 y), .int .u64 (ww0 y), .int .u64 (ww3 z), .int .u64 (ww2 z), .int .u64 (ww1 z), .int .u64 (ww0 z)] 47)) = W5 at *
          obtain ⟨c0, c1, c2, c3, c4, c5, c6, c7, c8, c9, c10, c11⟩ := X4.cs12
          go_wp2_with fail
          refine (CQ _).mono ?_
          rintro e w6 ⟨rfl, hB⟩
          replace HB := HB.trans (hB.mono HB.size)
          replace R0 := R0.step hB
          replace X4 := X4.step hB
          clear hB
          clear CQ c0 c1 c2 c3 c4 c5 c6 c7 c8 c9 c10 c11
          clear X4
          have dl := R0.lt
          have o0 := R0.c 0 rfl; have q0 := R0.f 0 rfl; have o1 := R0.c 1 rfl; have q1 := R0.f 1 rfl; have o2 := R0.c 2 rfl; have q2 := R0.f 2 rfl; have o3 := R0.c 3 rfl; have q3 := R0.f 3 rfl; have o4 := R0.c 4 rfl; have q4 := R0.f 4 rfl; have o5 := R0.c 5 rfl; have q5 := R0.f 5 rfl; have o6 := R0.c 6 rfl; have q6 := R0.f 6 rfl; have o7 := R0.c 7 rfl; have q7 := R0.f 7 rfl; have o8 := R0.c 8 rfl; have q8 := R0.f 8 rfl; have o9 := R0.c 9 rfl; have q9 := R0.f 9 rfl; have o10 := R0.c 10 rfl; have q10 := R0.f 10 rfl; have o11 := R0.c 11 rfl; have q11 := R0.f 11 rfl
          go_wp2
          refine bodyPost_ret (v := .tuple #[.agg #[.int .u64 0, .int .u64 0, .int .u64 0, .int .u64 0, .int .u64 0, .int .u64 0, .int .u64 0, .int .u64 0, .int .u64 0, .int .u64 0, .int .u64 0, .int .u64 0], .bool false]) (by simp [results, Try.results28, go_sem, o0, o1, o2, o3, o4, o5, o6, o7, o8, o9, o10, o11]) rfl ?_
          refine ⟨by rw [HV.out], ?_⟩
          repeat' (refine Below.setCell ?_ (by simp; try omega) _)
          exact HB
        · have HV : Hid (rpV (btL s) = .tuple #[.agg #[.int .u64 (ww3 x), .int .u64 (ww2 x), .int .u64 (ww1 x), .int .u64 (ww0 x), .int .u64 (ww3 y), .int .u64 (ww2 y), .int .u64 (ww1 y), .int .u64 (ww0 y), .int .u64 (ww3 z), .int .u64 (ww2 z), .int .u64 (ww1 z), .int .u64 (ww0 z)], .bool true]) := HF rfl rfl rfl hb
          clear HA HBx HCy HE HF hb
          go_enter Try.func28, Try.ntmps28
          go_wp2_with fail
          generalize (w.alloc (Obj.cells #[.int .u64 0, .int .u64 0, .int .u64 0, .int .u64 0, .int .u64 0, .int .u64 0, .int .u64 0, .int .u64 0, .int .u64 0, .int .u64 0, .int .u64 0, .int .u64 0] 47)) = W0 at *
          refine (CU _).mono ?_
          rintro e w1 ⟨rfl, hB⟩
          replace HB := HB.trans (hB.mono HB.size)
          replace R0 := R0.step hB
          clear hB
          clear CU
          have X1 := Blk.new w1 [.int .u64 (ww3 z), .int .u64 (ww2 z), .int .u64 (ww1 z), .int .u64 (ww0 z)] 26 rfl
          rw [show ([.int .u64 (ww3 z), .int .u64 (ww2 z), .int .u64 (ww1 z), .int .u64 (ww0 z)] : List Value).toArray = #[.int .u64 (ww3 z), .int .u64 (ww2 z), .int .u64 (ww1 z), .int .u64 (ww0 z)] from rfl] at X1
          replace HB := HB.alloc HB.size (Obj.cells #[.int .u64 (ww3 z), .int .u64 (ww2 z), .int .u64 (ww1 z), .int .u64 (ww0 z)] 26)
          replace R0 := R0.alloc (Obj.cells #[.int .u64 (ww3 z), .int .u64 (ww2 z), .int .u64 (ww1 z), .int .u64 (ww0 z)] 26)
          go_wp2_with fail
          generalize w1.heap.size = g1 at *
          generalize (w1.alloc (Obj.cells #[.int .u64 (ww3 z), .int .u64 (ww2 z), .int .u64 (ww1 z), .int .u64 (ww0 z)] 26)) = W1 at *
          refine (CK _).mono ?_
          rintro e w2 ⟨rfl, hB⟩
          replace HB := HB.trans (hB.mono HB.size)
          replace R0 := R0.step hB
          replace X1 := X1.step hB
          clear hB
          clear CK
          go_wp2_with fail
          refine (CX _).mono ?_
          rintro e w3 ⟨rfl, hB⟩
          replace HB := HB.trans (hB.mono HB.size)
          replace R0 := R0.step hB
          replace X1 := X1.step hB
          clear hB
          clear CX
          have X2 := Blk.new w3 [.int .u64 (ww3 x), .int .u64 (ww2 x), .int .u64 (ww1 x), .int .u64 (ww0 x)] 26 rfl
          rw [show ([.int .u64 (ww3 x), .int .u64 (ww2 x), .int .u64 (ww1 x), .int .u64 (ww0 x)] : List Value).toArray = #[.int .u64 (ww3 x), .int .u64 (ww2 x), .int .u64 (ww1 x), .int .u64 (ww0 x)] from rfl] at X2
          replace HB := HB.alloc HB.size (Obj.cells #[.int .u64 (ww3 x), .int .u64 (ww2 x), .int .u64 (ww1 x), .int .u64 (ww0 x)] 26)
          replace R0 := R0.alloc (Obj.cells #[.int .u64 (ww3 x), .int .u64 (ww2 x), .int .u64 (ww1 x), .int .u64 (ww0 x)] 26)
          replace X1 := X1.alloc (Obj.cells #[.int .u64 (ww3 x), .int .u64 (ww2 x), .int .u64 (ww1 x), .int .u64 (ww0 x)] 26)
          go_wp2_with fail
          generalize w3.heap.size = g3 at *
          generalize (w3.alloc (Obj.cells #[.int .u64 (ww3 x), .int .u64 (ww2 x), .int .u64 (ww1 x), .int .u64 (ww0 x)] 26)) = W3 at *
          refine (CY _).mono ?_
          rintro e w4 ⟨rfl, hB⟩
          replace HB := HB.trans (hB.mono HB.size)
          replace R0 := R0.step hB
          replace X1 := X1.step hB
          replace X2 := X2.step hB
          clear hB
          clear CY
          have X3 := Blk.new w4 [.int .u64 (ww3 y), .int .u64 (ww2 y), .int .u64 (ww1 y), .int .u64 (ww0 y)] 26 rfl
          rw [show ([.int .u64 (ww3 y), .int .u64 (ww2 y), .int .u64 (ww1 y), .int .u64 (ww0 y)] : List Value).toArray = #[.int .u64 (ww3 y), .int .u64 (ww2 y), .int .u64 (ww1 y), .int .u64 (ww0 y)] from rfl] at X3
          replace HB := HB.alloc HB.size (Obj.cells #[.int .u64 (ww3 y), .int .u64 (ww2 y), .int .u64 (ww1 y), .int .u64 (ww0 y)] 26)
          replace R0 := R0.alloc (Obj.cells #[.int .u64 (ww3 y), .int .u64 (ww2 y), .int .u64 (ww1 y), .int .u64 (ww0 y)] 26)
          replace X1 := X1.alloc (Obj.cells #[.int .u64 (ww3 y), .int .u64 (ww2 y), .int .u64 (ww1 y), .int .u64 (ww0 y)] 26)
          replace X2 := X2.alloc (Obj.cells #[.int .u64 (ww3 y), .int .u64 (ww2 y), .int .u64 (ww1 y), .int .u64 (ww0 y)] 26)
          obtain ⟨c0, c1, c2, c3⟩ := X1.cs4
          obtain ⟨d0, d1, d2, d3⟩ := X2.cs4
          obtain ⟨e0, e1, e2, e3⟩ := X3.cs4
          go_upto_region 10 with fail
          clear c0 c1 c2 c3 d0 d1 d2 d3 e0 e1 e2 e3 X1 X2 X3
          have X4 := Blk.new (w4.alloc (Obj.cells #[.int .u64 (ww3 y), .int .u64 (ww2 y), .int .u64 (ww1 y), .int .u64 (ww0 y)] 26)) [.int .u64 (ww3 x), .int .u64 (ww2 x), .int .u64 (ww1 x), .int .u64 (ww0 x), .int .u64 (ww3 y), .int .u64 (ww2 y), .int .u64 (ww1 y), .int .u64 (ww0 y), .int .u64 (ww3 z), .int .u64 (ww2 z), .int .u64 (ww1 z), .int .u64 (ww0 z)] 47 (g := w4.heap.size + 1) (by simp)
          rw [show ([.int .u64 (ww3 x), .int .u64 (ww2 x), .int .u64 (ww1 x), .int .u64 (ww0 x), .int .u64 (ww3 y), .int .u64 (ww2 y), .int .u64 (ww1 y), .int .u64 (ww0 y), .int .u64 (ww3 z), .int .u64 (ww2 z), .int .u64 (ww1 z), .int .u64 (ww0 z)] : List Value).toArray = #[.int .u64 (ww3 x), .int .u64 (ww2 x), .int .u64 (ww1 x), .int .u64 (ww0 x), .int .u64 (ww3 y), .int .u64 (ww2 y), .int .u64 (ww1 y), .int .u64 (ww0 y), .int .u64 (ww3 z), .int .u64 (ww2 z), .int .u64 (ww1 z), .int .u64 (ww0 z)] from rfl] at X4
          replace HB := HB.alloc HB.size (Obj.cells #[.int .u64 (ww3 x), .int .u64 (ww2 x), .int .u64 (ww1 x), .int .u64 (ww0 x), .int .u64 (ww3 y), .int .u64 (ww2 y), .int .u64 (ww1 y), .int .u64 (ww0 y), .int .u64 (ww3 z), .int .u64 (ww2 z), .int .u64 (ww1 z), .int .u64 (ww0 z)] 47)
          replace R0 := R0.alloc (Obj.cells #[.int .u64 (ww3 x), .int .u64 (ww2 x), .int .u64 (ww1 x), .int .u64 (ww0 x), .int .u64 (ww3 y), .int .u64 (ww2 y), .int .u64 (ww1 y), .int .u64 (ww0 y), .int .u64 (ww3 z), .int .u64 (ww2 z), .int .u64 (ww1 z), .int .u64 (ww0 z)] 47)
          generalize w4.heap.size + 1 = g5 at *
          generalize ((w4.alloc (Obj.cells #[.int .u64 (ww3 y), .int .u64 (ww2 y), .int .u64 (ww1 y), .int .u64 (ww0 y)] 26)).alloc (Obj.cells #[.int .u64 (ww3 x), .int .u64 (ww2 x), .int .u64 (ww1 x), .int .u64 (ww0 x), .int .u64 (ww3 y), .int .u64 (ww2 y), .int .u64 (ww1 y), .int .u64 (ww0 y), .int .u64 (ww3 z), .int .u64 (ww2 z), .int .u64 (ww1 z), .int .u64 (ww0 z)] 47)) = W5 at *
          obtain ⟨c0, c1, c2, c3, c4, c5, c6, c7, c8, c9, c10, c11⟩ := X4.cs12
          go_wp2_with fail
          refine (CQ _).mono ?_
          rintro e w6 ⟨rfl, hB⟩
          replace HB := HB.trans (hB.mono HB.size)
          replace R0 := R0.step hB
          replace X4 := X4.step hB
          clear hB
          clear CQ c0 c1 c2 c3 c4 c5 c6 c7 c8 c9 c10 c11
          obtain ⟨c0, c1, c2, c3, c4, c5, c6, c7, c8, c9, c10, c11⟩ := X4.cs12
          have dl := R0.lt
          have o0 := R0.c 0 rfl; have q0 := R0.f 0 rfl; have o1 := R0.c 1 rfl; have q1 := R0.f 1 rfl; have o2 := R0.c 2 rfl; have q2 := R0.f 2 rfl; have o3 := R0.c 3 rfl; have q3 := R0.f 3 rfl; have o4 := R0.c 4 rfl; have q4 := R0.f 4 rfl; have o5 := R0.c 5 rfl; have q5 := R0.f 5 rfl; have o6 := R0.c 6 rfl; have q6 := R0.f 6 rfl; have o7 := R0.c 7 rfl; have q7 := R0.f 7 rfl; have o8 := R0.c 8 rfl; have q8 := R0.f 8 rfl; have o9 := R0.c 9 rfl; have q9 := R0.f 9 rfl; have o10 := R0.c 10 rfl; have q10 := R0.f 10 rfl; have o11 := R0.c 11 rfl; have q11 := R0.f 11 rfl
          go_wp2
          refine bodyPost_ret (v := .tuple #[.agg #[.int .u64 (ww3 x), .int .u64 (ww2 x), .int .u64 (ww1 x), .int .u64 (ww0 x), .int .u64 (ww3 y), .int .u64 (ww2 y), .int .u64 (ww1 y), .int .u64 (ww0 y), .int .u64 (ww3 z), .int .u64 (ww2 z), .int .u64 (ww1 z), .int .u64 (ww0 z)], .bool true]) (by simp [results, Try.results28, go_sem, o0, o1, o2, o3, o4, o5, o6, o7, o8, o9, o10, o11]) rfl ?_
          refine ⟨by rw [HV.out], ?_⟩
          repeat' (refine Below.setCell ?_ (by simp; try omega) _)
          exact HB
end Go.Proofs.Ytnnojeggjnddpaa
