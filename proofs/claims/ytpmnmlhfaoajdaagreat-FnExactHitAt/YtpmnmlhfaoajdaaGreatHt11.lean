/- Part 11 of the walks that the proof leans on. -/
import Derived.Test.YtpmnmlhfaoajdaaGreatHt10
import Derived.Test.YtpmnmlhfaoajdaaGreatHt8
import Derived.Deep.RegionHeld3
import Derived.Test.YtpmnmlhfaoajdaaGreatHt2
import Derived.Test.YtpmnmlhfaoajdaaGreatHt7
import Derived.SizedLaws
import Derived.Deep.Slices
import Derived.Deep.OwnRows
import Derived.Test.YtpmnmlhfaoajdaaGreatRows
import Derived.ProofKit
import Derived.Lib.SmallJoins
/- Where a segment stands over a point, whether the point lies on it, on which side it lies: the reckoning. -/
namespace Go.Proofs.YtpmnmlhfaoajdaaGreat
open Go.RowKit
theorem cmpZ_le {x y : Int} : cmpI x y ≤ 0 ↔ x ≤ y := by unfold cmpI; repeat' split <;> omega
theorem cmpZ_lt {x y : Int} : cmpI x y < 0 ↔ x < y := by unfold cmpI; repeat' split <;> omega
theorem cmpZ_gt {x y : Int} : cmpI x y > 0 ↔ y < x := by unfold cmpI; repeat' split <;> omega
theorem cmpZ_eq {x y : Int} : cmpI x y = 0 ↔ x = y := by unfold cmpI; repeat' split <;> omega
theorem ordZ_le (x y z u v t : Int) : ordI x y z u v t ≤ 0 ↔ x * t < u * z ∨ (x * t = u * z ∧ y * t ≤ v * z) := by
  unfold ordI
  by_cases h : cmpI (x * t) (u * z) = 0
  · rw [if_pos h, cmpZ_le]
    have := cmpZ_eq.1 h
    omega
  · rw [if_neg h, cmpZ_le]
    have : x * t ≠ u * z := fun e => h (cmpZ_eq.2 e)
    omega
theorem turn_lin (a b c d x y z : Int) : a * (d * z - 1 * y) - b * (c * z - 1 * x) + 1 * (c * y - d * x) = (c - a) * (y - b * z) - (d - b) * (x - a * z) := by grind
theorem turn_zero {a b c d x y z : Int} : turnI a b 1 c d 1 x y z = 0 ↔ (c - a) * (y - b * z) = (d - b) * (x - a * z) := by
  unfold turnI
  rw [cmpZ_eq, turn_lin]
  omega
theorem seg_less {a b c d : Int} (h : segOk a b c d = true) : a < c ∨ (a = c ∧ b < d) := by
  unfold segOk lessI at h
  simp only [Bool.and_eq_true, decide_eq_true_eq] at h
  exact h.2
theorem btw_seg {a b c d x y z : Int} (h : a < c ∨ (a = c ∧ b < d)) : btwS a b 1 c d 1 x y z = (decide (ordI a b 1 x y z ≤ 0) && decide (ordI x y z c d 1 ≤ 0) && decide (turnI a b 1 c d 1 x y z = 0)) := by
  have h0 : ¬ 0 < ordI a b 1 c d 1 := by
    have := (ordZ_le a b 1 c d 1).2 (by omega)
    omega
  unfold btwS
  rw [if_neg h0]
theorem prod_zero {p q : Int} (hp : p ≠ 0) (h : p * q = 0) : q = 0 := by
  rcases Int.mul_eq_zero.1 h with h' | h'
  · exact absurd h' hp
  · exact h'
theorem over_zero {a b c d x y z : Int} (h : a < c ∨ (a = c ∧ b < d)) : overJ a b c d x y z = 0 ↔ (ordI a b 1 x y z ≤ 0 ∧ ordI x y z c d 1 ≤ 0 ∧ turnI a b 1 c d 1 x y z = 0) := by
  rw [ordZ_le, ordZ_le]
  simp only [Int.mul_one]
  unfold overJ
  simp only [cmpZ_lt, cmpZ_gt, Int.mul_one]
  by_cases h1 : x < a * z
  · rw [if_pos h1]
    omega
  by_cases h2 : c * z < x
  · rw [if_neg h1, if_pos h2]
    omega
  rw [if_neg h1, if_neg h2]
  rcases h with h | ⟨h, h'⟩
  · rw [if_pos h]
    constructor
    · intro ht
      have ht' : turnI a b 1 c d 1 x y z = 0 := by omega
      have e := turn_zero.1 ht'
      refine ⟨?_, ?_, ht'⟩
      · by_cases hx : x = a * z
        · refine Or.inr ⟨hx.symm, ?_⟩
          rw [hx] at e
          have e2 : (c - a) * (y - b * z) = 0 := by rw [e]; simp
          have := prod_zero (by omega) e2
          omega
        · exact Or.inl (by omega)
      · by_cases hx : x = c * z
        · refine Or.inr ⟨hx, ?_⟩
          rw [hx] at e
          have e2 : (c - a) * (y - d * z) = 0 := by
            have : (c - a) * (y - d * z) = (c - a) * (y - b * z) - (d - b) * (c * z - a * z) := by grind
            omega
          have := prod_zero (by omega) e2
          omega
        · exact Or.inl (by omega)
    · rintro ⟨-, -, ht⟩
      omega
  · subst h
    rw [if_neg (by omega)]
    have hx : x = a * z := by omega
    have ht : turnI a b 1 a d 1 x y z = 0 := by
      rw [turn_zero, hx]
      simp
    by_cases h3 : y < b * z
    · rw [if_pos h3]
      omega
    by_cases h4 : d * z < y
    · rw [if_neg h3, if_pos h4]
      omega
    rw [if_neg h3, if_neg h4]
    constructor
    · intro _
      exact ⟨Or.inr ⟨by omega, by omega⟩, Or.inr ⟨by omega, by omega⟩, ht⟩
    · intro _
      rfl
end Go.Proofs.YtpmnmlhfaoajdaaGreat

/- The numbers of those of a row of segments on which a point lies. -/
namespace Go.Proofs.YtpmnmlhfaoajdaaGreat
open Go.RowKit
/-- The numbers of those of the first c that fulfil f. -/
def flL (f : Nat → Bool) (c : Nat) : List Int := ((List.range c).filter f).map fun (i : Nat) => (i : Int)
theorem flL_hit {f : Nat → Bool} {c : Nat} (h : f c = true) : flL f (c + 1) = flL f c ++ [(c : Int)] := by simp [flL, List.range_succ, List.filter_append, h]
theorem flL_miss {f : Nat → Bool} {c : Nat} (h : f c = false) : flL f (c + 1) = flL f c := by simp [flL, List.range_succ, List.filter_append, h]
theorem flL_len (f : Nat → Bool) (c : Nat) : (flL f c).length ≤ c := by
  unfold flL
  rw [List.length_map]
  exact Nat.le_trans (List.length_filter_le _ _) (by simp)
def onAt (x : Nat → Int) (px py pz : Int) (i : Nat) : Bool := btwS (x (i * 4)) (x (i * 4 + 1)) 1 (x (i * 4 + 2)) (x (i * 4 + 3)) 1 px py pz
def htR (n : Nat) (x : Nat → Int) (px py pz : Int) : List Int := if sgI n x = 0 ∧ ptB px py pz = true then flL (onAt x px py pz) n else []
/-- A row of numbers of its own. -/
def HitP (M : List Int) (w : World) (e : Ending) (w' : World) : Prop := ∃ v, e = .returned v ∧ NoOwn w' w.heap.size v M ∧ Below w.heap.size w w'
theorem over_btw {a b c d x y z : Int} (h : segOk a b c d = true) : (overJ a b c d x y z == 0) = btwS a b 1 c d 1 x y z := by
  have hl := seg_less h
  rw [btw_seg hl, Bool.eq_iff_iff, beq_iff_eq, over_zero hl]
  simp only [Bool.and_eq_true, decide_eq_true_eq, and_assoc]
theorem htR_len (n : Nat) (x : Nat → Int) (px py pz : Int) : (htR n x px py pz).length ≤ 1048576 := by
  unfold htR
  split
  · rename_i h
    have := (sgI_zero h.1).1
    have := flL_len (onAt x px py pz) n
    omega
  · simp
end Go.Proofs.YtpmnmlhfaoajdaaGreat

/- A region that draws its order, by a condition that every operation keeps, whichever comes up: no order is walked. -/
namespace Go.Proofs.YtpmnmlhfaoajdaaGreat
variable {P : Program} {ops : Array Oper} {Q : Exit → Act → World → Prop} {md : Region.Mode}
def open_ (l : Array Bool) : Nat := l.toList.countP (fun b => !b)
theorem open_set {l : Array Bool} {i : Nat} (h : l.getD i true = false) : open_ (l.setIfInBounds i true) + 1 = open_ l := by
  obtain ⟨xs⟩ := l
  have hi : i < xs.length := by
    rcases Nat.lt_or_ge i xs.length with h' | h'
    · exact h'
    · simp [Array.getD, Nat.not_lt.2 h'] at h
  have hv : xs[i] = false := by simpa [Array.getD, hi] using h
  have hp : 0 < xs.countP (fun b => !b) := List.countP_pos_iff.2 ⟨xs[i], List.getElem_mem hi, by simp [hv]⟩
  simp only [open_, List.setIfInBounds_toArray, List.countP_set hi, hv]
  simp
  omega
theorem wpAny_inv (J : Array Bool → Act → World → Prop) (hs : ∀ l a w i o, J l a w → l.getD i true = false → ops[i]? = some o → (∀ e ∈ o.after, Region.binds md e = true → l.getD e.on false = true) → wpOp P ops Q i (J (l.setIfInBounds i true)) a w)
    (hd : ∀ l a w, J l a w → Region.ready md ops l = [] → Q .normal a w) : ∀ (fuel : Nat) (l : Array Bool) (a : Act) (w : World), open_ l ≤ fuel → J l a w → wpAny P md ops Q fuel l a w := by
  intro fuel
  induction fuel with
  | zero =>
    intro l a w hf hJ
    have hr : Region.ready md ops l = [] := by
      rw [List.eq_nil_iff_forall_not_mem]
      intro i hi
      have := open_set (mem_ready.1 hi).1
      omega
    exact ⟨hr, hd l a w hJ hr⟩
  | succ fuel ih =>
    intro l a w hf hJ
    refine ⟨fun hr => hd l a w hJ hr, fun i hi => ?_⟩
    obtain ⟨h0, o, ho, hall⟩ := mem_ready.1 hi
    exact wpOp_mono (fun a' w' h' => ih _ a' w' (by have := open_set h0; omega) h') (hs l a w i o hJ h0 ho hall)
theorem wp_region_inv {id : Nat} {a : Act} {w : World} (hm : P.follows .mixedOrders = true) (J : Array Bool → Act → World → Prop)
    (h0 : J (Array.replicate ops.size false) a { w with drawn := w.drawn + 1 })
    (hs : ∀ l a w i o, J l a w → l.getD i true = false → ops[i]? = some o → (∀ e ∈ o.after, Region.binds .any e = true → l.getD e.on false = true) → wpOp P ops Q i (J (l.setIfInBounds i true)) a w)
    (hd : ∀ l a w, J l a w → Region.ready .any ops l = [] → Q .normal a w) : (Code.region id ops true).wp P Q a w :=
  wp_region_any hm (wpAny_inv J hs hd _ _ _ _ (by
    unfold open_
    refine Nat.le_trans List.countP_le_length ?_
    simp) h0)
/-- The operations of a list, each of which waits for none but those ahead of it. -/
def waits (md : Region.Mode) (ops : Array Oper) : List Nat → List Nat → Bool
  | _, [] => true
  | acc, i :: r => ((ops[i]?).map (fun o => o.after.all (fun e => !Region.binds md e || acc.contains e.on))).getD false && waits md ops (i :: acc) r
/-- Where none is ready, all of such a list have come up. -/
theorem listed_of {l : Array Bool} (hr : Region.ready md ops l = []) : ∀ (r acc : List Nat), (∀ k ∈ acc, l.getD k false = true) → waits md ops acc r = true → (∀ k ∈ r, k < l.size) → ∀ k ∈ r, l.getD k false = true
  | [], _, _, _, _ => fun k hk => by simp at hk
  | i :: r, acc, ha, hw, hz => by
    simp only [waits, Bool.and_eq_true] at hw
    obtain ⟨hw1, hw2⟩ := hw
    have hi : l.getD i false = true := by
      cases ho : ops[i]? with
      | none => rw [ho] at hw1; simp at hw1
      | some o =>
        rw [ho] at hw1
        have hall : ∀ e ∈ o.after, Region.binds md e = true → l.getD e.on false = true := fun e he hb => by
          have h2 : o.after.all (fun e => !Region.binds md e || acc.contains e.on) = true := by simpa using hw1
          rw [Array.all_eq_true'] at h2
          have h3 := h2 e he
          rw [hb] at h3
          exact ha _ (by simpa using h3)
        have hz' := hz i (by simp)
        by_cases hc : l.getD i true = false
        · have : i ∈ Region.ready md ops l := mem_ready.2 ⟨hc, o, ho, hall⟩
          rw [hr] at this
          simp at this
        · simpa [Array.getD, hz'] using hc
    intro k hk
    rcases List.mem_cons.1 hk with rfl | hk
    · exact hi
    · exact listed_of hr r (i :: acc) (fun k hk => by
        rcases List.mem_cons.1 hk with rfl | hk
        · exact hi
        · exact ha k hk) hw2 (fun k hk => hz k (by simp [hk])) k hk
/-- One operation that is not guarded: what it does when it is carried out. -/
theorem wpOp_of {i : Nat} {o : Oper} {a : Act} {w : World} {K : Act → World → Prop} (ho : ops[i]? = some o) (hg : o.guard = none) (h : o.wp P a w K Q) : wpOp P ops Q i K a w := by
  unfold wpOp
  simp only [ho]
  have hw : Region.wanted o (yielded ops a.tmps) = true := by unfold Region.wanted; rw [hg]
  rw [if_pos hw]
  exact .inl h
/-- A frame that differs from another one at the told slots alone is that one with these slots put. -/
theorem tmps_fold : ∀ (D : List Nat) (t s : Array Value), t.size = s.size → (∀ d, d ∉ D → t[d]? = s[d]?) → t = D.foldl (fun u d => u.setIfInBounds d (t.getD d undef)) s
  | [], t, s, _, h => Array.ext_getElem? (fun d => h d (by simp))
  | d :: D, t, s, hz, h => by
    rw [List.foldl_cons]
    refine tmps_fold D t _ (by simpa using hz) (fun e he => ?_)
    by_cases hed : e = d
    · subst hed
      rcases Nat.lt_or_ge e t.size with h' | h'
      · simp [Array.getD, h', ← hz]
      · simp [← hz, h']
    · rw [Array.getElem?_setIfInBounds_ne (fun hh => hed hh.symm)]
      exact h e (by simp [hed, he])
theorem put_getD_ne {a : Act} {d e : Nat} {v : Value} (h : d ≠ e) : (a.put (some d) v).tmps.getD e undef = a.tmps.getD e undef := by
  simp [Act.put, Array.getD_eq_getD_getElem?, Array.getElem?_setIfInBounds_ne h]
theorem put_getD_same {a : Act} {d : Nat} {v : Value} (h : d < a.tmps.size) : (a.put (some d) v).tmps.getD d undef = v := by
  simp [Act.put, Array.getD_eq_getD_getElem?, h]
end Go.Proofs.YtpmnmlhfaoajdaaGreat

/- Operations that are guarded, in a region that is taken by a condition. -/
namespace Go.Proofs.YtpmnmlhfaoajdaaGreat
variable {P : Program} {ops : Array Oper} {Q : Exit → Act → World → Prop}
end Go.Proofs.YtpmnmlhfaoajdaaGreat

/- A region that draws its order, by what each slot holds once its operation has come up: the general form. -/
namespace Go.Proofs.YtpmnmlhfaoajdaaGreat
open Go.RowKit
variable {P : Program} {ops : Array Oper}
/-- No slot is written by two operations. -/
def distS : List (Option Nat) → Bool
  | [] => true
  | none :: r => distS r
  | some d :: r => !(r.contains (some d)) && distS r
theorem distS_inj : ∀ (S : List (Option Nat)) (i j d : Nat), distS S = true → S[i]? = some (some d) → S[j]? = some (some d) → i = j
  | [], i, _, _, _, h, _ => by simp at h
  | o :: r, i, j, d, hd, hi, hj => by
    have hr : distS r = true := by
      cases o with
      | none => exact hd
      | some d' => simp only [distS, Bool.and_eq_true] at hd; exact hd.2
    have hno : ∀ k, o = some d → r[k]? = some (some d) → False := fun k ho hk => by
      subst ho
      simp only [distS, Bool.and_eq_true, Bool.not_eq_true'] at hd
      have hm : some d ∈ r := List.mem_of_getElem? hk
      rw [← List.contains_iff_mem, hd.1] at hm
      cases hm
    match i, j with
    | 0, 0 => rfl
    | 0, j + 1 => exact (hno j (by simpa using hi) (by simpa using hj)).elim
    | i + 1, 0 => exact (hno i (by simpa using hj) (by simpa using hi)).elim
    | i + 1, j + 1 => exact congrArg (· + 1) (distS_inj r i j d hr (by simpa using hi) (by simpa using hj))
/-- What every operation keeps. -/
def InvQ (B : Nat) (S : List (Option Nat)) (V : Nat → Value → World → Prop) (w0 : World) (a0 : Act) (l : Array Bool) (a : Act) (W : World) : Prop :=
  l.size = S.length ∧ a.tmps.size = a0.tmps.size ∧ a.defers = a0.defers ∧ (∀ e, some e ∉ S → a.tmps[e]? = a0.tmps[e]?) ∧ Below B w0 W ∧ (∀ j d, l.getD j false = true → S[j]? = some (some d) → V j (a.tmps.getD d undef) W) ∧ (∀ j, l.getD j false = true → S[j]? = some none → V j undef W)
theorem getD_set_q {l : Array Bool} {i j : Nat} (h : (l.setIfInBounds i true).getD j false = true) (hne : j ≠ i) : l.getD j false = true := by
  rw [getD_set_ne false (Ne.symm hne)] at h
  exact h
theorem InvQ.put {B : Nat} {S : List (Option Nat)} {V : Nat → Value → World → Prop} {w0 : World} {a0 : Act} {l : Array Bool} {a : Act} {W W' : World} (h : InvQ B S V w0 a0 l a W) (hS : distS S = true) (i d : Nat) (hi : S[i]? = some (some d)) (hlt : d < a0.tmps.size)
    (hW : Below B w0 W') (hT : ∀ j v, V j v W → V j v W') (v : Value) (hv : V i v W') : InvQ B S V w0 a0 (l.setIfInBounds i true) (a.put (some d) v) W' := by
  obtain ⟨h1, h2, h3, h4, h5, h6, h7⟩ := h
  refine ⟨by simpa using h1, by simpa [Act.put] using h2, h3, fun e he => ?_, hW, fun j d' hj hd' => ?_, fun j hj hn => ?_⟩
  · have hne : d ≠ e := fun hh => he (hh ▸ List.mem_of_getElem? hi)
    simp only [Act.put]
    rw [Array.getElem?_setIfInBounds_ne hne]
    exact h4 e he
  · by_cases hji : j = i
    · subst hji
      rw [hi] at hd'
      cases hd'
      rw [put_getD_same (by omega)]
      exact hv
    · have hne : d ≠ d' := fun hh => hji (distS_inj S j i d hS (hh ▸ hd') hi)
      rw [put_getD_ne hne]
      exact hT _ _ (h6 j d' (getD_set_q hj hji) hd')
  · have hji : j ≠ i := fun hh => by subst hh; rw [hi] at hn; cases hn
    exact hT _ _ (h7 j (getD_set_q hj hji) hn)
theorem wp_region_q {Q : Exit → Act → World → Prop} {id : Nat} {a0 : Act} {w0 : World} (hm : P.follows .mixedOrders = true) (B : Nat) (S : List (Option Nat)) (V : Nat → Value → World → Prop) (hSz : ops.size = S.length)
    (hs : ∀ (Q : Exit → Act → World → Prop) l a W i o, InvQ B S V w0 a0 l a W → l.getD i true = false → ops[i]? = some o → (∀ e ∈ o.after, Region.binds .any e = true → l.getD e.on false = true) → wpOp P ops Q i (InvQ B S V w0 a0 (l.setIfInBounds i true)) a W)
    (hd : ∀ l a W, InvQ B S V w0 a0 l a W → Region.ready .any ops l = [] → Q .normal a W) : (Code.region id ops true).wp P Q a0 w0 := by
  refine wp_region_inv hm (InvQ B S V w0 a0) ⟨by simpa using hSz, rfl, rfl, fun _ _ => rfl, (Below.refl _ w0).drew, fun j d hj => ?_, fun j hj => ?_⟩ (hs Q) hd
  all_goals
    exfalso
    rw [Array.getD_eq_getD_getElem?, Array.getElem?_replicate] at hj
    split at hj <;> simp at hj
/-- A block of so many cells. -/
def BlkN (W : World) (g n : Nat) : Prop := ∃ vs : List Value, vs.length = n ∧ Blk W g vs
theorem BlkN.step {W W' : World} {g n : Nat} (h : BlkN W g n) (hB : Below W.heap.size W W') : BlkN W' g n := by
  obtain ⟨vs, h1, h2⟩ := h
  exact ⟨vs, h1, h2.step hB⟩
theorem Blk.setA {W : World} {g : Nat} {vs : List Value} (h : Blk W g vs) (j : Nat) (u : Value) : Blk (W.setCell ⟨g, j, none⟩ u) g (vs.set j u) := by
  rcases Nat.lt_or_ge j vs.length with hj | hj
  · exact h.setI j hj u
  · refine ⟨by simpa [World.setCell] using h.1, fun i v hi => ?_⟩
    rw [List.set_eq_of_length_le hj] at hi
    have hne : i ≠ j := fun e => by
      subst e
      rw [List.getElem?_eq_none hj] at hi
      cases hi
    exact ⟨(World.cell?_setCell_other _ _ _ _ (by simp)).trans (h.c i hi), by simp [go_sem, h.f i hi]⟩
theorem BlkN.set {W : World} {g n : Nat} (h : BlkN W g n) (g' j : Nat) (u : Value) : BlkN (W.setCell ⟨g', j, none⟩ u) g n := by
  obtain ⟨vs, h1, h2⟩ := h
  by_cases hg : g = g'
  · subst hg
    exact ⟨vs.set j u, by simpa using h1, h2.setA j u⟩
  · exact ⟨vs, h1, h2.setO (p := ⟨g', j, none⟩) hg u⟩
end Go.Proofs.YtpmnmlhfaoajdaaGreat

/- Where a point lies: the drawn region of the document. -/
namespace Go.Proofs.YtpmnmlhfaoajdaaGreat
open Go.RowKit
def VhtO (A off n cap cx : Nat) (xa xb xc xd : Int) (rs1 rs2 rs3 : Bool) (ro1 ro2 ro3 : Option Addr) (rn1 rc1 rn2 rc2 rn3 rc3 : Nat) (r : Bool) (_B : Nat) : Nat → Value → World → Prop
  | 0, v, _ => v = .slice (some ⟨A, off, none⟩) n cap
  | 1, v, _ => v = .int .i64 (cx : Nat)
  | 2, v, _ => v = .pointer (some ⟨A, off + cx * 4, none⟩)
  | 3, v, _ => v = .agg #[.int .i64 xa, .int .i64 xb, .int .i64 xc, .int .i64 xd]
  | 4, v, _ => v = .agg #[.bool rs1, .slice ro1 rn1 rc1, .bool rs2, .slice ro2 rn2 rc2, .bool rs3, .slice ro3 rn3 rc3]
  | 5, v, _ => v = .bool r
  | _, _, _ => True
theorem VhtO.mono {A off n cap cx : Nat} {xa xb xc xd : Int} {rs1 rs2 rs3 : Bool} {ro1 ro2 ro3 : Option Addr} {rn1 rc1 rn2 rc2 rn3 rc3 : Nat} {r : Bool} {B j : Nat} {v : Value} {W W2 : World} (_hB : Below W.heap.size W W2) (h : VhtO A off n cap cx xa xb xc xd rs1 rs2 rs3 ro1 ro2 ro3 rn1 rc1 rn2 rc2 rn3 rc3 r B j v W) : VhtO A off n cap cx xa xb xc xd rs1 rs2 rs3 ro1 ro2 ro3 rn1 rc1 rn2 rc2 rn3 rc3 r B j v W2 := by
  unfold VhtO at *
  split <;> simp only at h <;> first | exact h | trivial
set_option maxRecDepth 100000 in
set_option maxHeartbeats 4000000 in
theorem htO {Q : Exit → Act → World → Prop} {A off n cap cx : Nat} {xa xb xc xd : Int} {rs1 rs2 rs3 : Bool} {ro1 ro2 ro3 : Option Addr} {rn1 rc1 rn2 rc2 rn3 rc3 : Nat} {r : Bool} {B1 : Nat}  {w0 : World} {a0 : Act} {idq : Nat} {t0 t1 t2 t3 t4 t5 : TypeId} {q0 q1 q2 q3 q4 q5 : String}
    (cn : (cx : Int) < (n : Int)) (hA : ∀ w', Below w0.heap.size w0 w' → Calls Tryz.prog 54 #[.agg #[.int .i64 xa, .int .i64 xb, .int .i64 xc, .int .i64 xd], .agg #[.bool rs1, .slice ro1 rn1 rc1, .bool rs2, .slice ro2 rn2 rc2, .bool rs3, .slice ro3 rn3 rc3]] w' (VP (.bool r) w')) (h0 : a0.tmps[0]? = some (.slice (some ⟨A, off, none⟩) n cap)) (h6 : a0.tmps[6]? = some (.int .i64 (cx : Nat))) (h3 : a0.tmps[3]? = some (.pointer (some ⟨B1, 0, none⟩))) (k0 : w0.cell? ⟨A, off + cx * 4, none⟩ = some (.int .i64 xa)) (l0 : (⟨A, off + cx * 4, none⟩ : Addr).block < w0.heap.size) (k1 : w0.cell? ⟨A, off + cx * 4 + 1, none⟩ = some (.int .i64 xb)) (l1 : (⟨A, off + cx * 4 + 1, none⟩ : Addr).block < w0.heap.size) (k2 : w0.cell? ⟨A, off + cx * 4 + 2, none⟩ = some (.int .i64 xc)) (l2 : (⟨A, off + cx * 4 + 2, none⟩ : Addr).block < w0.heap.size) (k3 : w0.cell? ⟨A, off + cx * 4 + 3, none⟩ = some (.int .i64 xd)) (l3 : (⟨A, off + cx * 4 + 3, none⟩ : Addr).block < w0.heap.size) (k4 : w0.cell? ⟨B1, 0, none⟩ = some (.bool rs1)) (l4 : (⟨B1, 0, none⟩ : Addr).block < w0.heap.size) (k5 : w0.cell? ⟨B1, 1, none⟩ = some (.slice ro1 rn1 rc1)) (l5 : (⟨B1, 1, none⟩ : Addr).block < w0.heap.size) (k6 : w0.cell? ⟨B1, 2, none⟩ = some (.bool rs2)) (l6 : (⟨B1, 2, none⟩ : Addr).block < w0.heap.size) (k7 : w0.cell? ⟨B1, 3, none⟩ = some (.slice ro2 rn2 rc2)) (l7 : (⟨B1, 3, none⟩ : Addr).block < w0.heap.size) (k8 : w0.cell? ⟨B1, 4, none⟩ = some (.bool rs3)) (l8 : (⟨B1, 4, none⟩ : Addr).block < w0.heap.size) (k9 : w0.cell? ⟨B1, 5, none⟩ = some (.slice ro3 rn3 rc3)) (l9 : (⟨B1, 5, none⟩ : Addr).block < w0.heap.size) (hz : a0.tmps.size = 25)
    (hQ : ∀ aq W, aq.tmps.size = a0.tmps.size → aq.defers = a0.defers → (∀ e, e ∉ ([14, 15, 16, 17, 18, 19] : List Nat) → aq.tmps[e]? = a0.tmps[e]?) → VhtO A off n cap cx xa xb xc xd rs1 rs2 rs3 ro1 ro2 ro3 rn1 rc1 rn2 rc2 rn3 rc3 r w0.heap.size 5 (aq.tmps.getD 19 undef) W → Below w0.heap.size w0 W → Q .normal aq W) :
    (Code.region idq #[{ dst := some 14, op := Op.move (Operand.tmp 0), type := t0, pos := q0, after := #[], guard := none },
    { dst := some 15, op := Op.move (Operand.tmp 6), type := t1, pos := q1, after := #[], guard := none },
    { dst := some 16, op := Op.indexAddr 31 (Operand.tmp 14) (Operand.tmp 15), type := t2, pos := q2, after := #[{ on := 0, ground := Ground.data }, { on := 1, ground := Ground.data }], guard := none },
    { dst := some 17, op := Op.load 63 (Operand.tmp 16), type := t3, pos := q3, after := #[{ on := 2, ground := Ground.data }], guard := none },
    { dst := some 18, op := Op.load 58 (Operand.tmp 3), type := t4, pos := q4, after := #[], guard := none },
    { dst := some 19, op := Op.call { callee := Callee.value (Operand.func 54), args := #[Operand.tmp 17, Operand.tmp 18], argTypes := #[63, 58] }, type := t5, pos := q5, after := #[{ on := 3, ground := Ground.data }, { on := 4, ground := Ground.data }], guard := none }] true).wp Tryz.prog Q a0 w0 := by
  have hS : distS [some 14, some 15, some 16, some 17, some 18, some 19] = true := rfl
  refine wp_region_q (by kernel_rfl) w0.heap.size [some 14, some 15, some 16, some 17, some 18, some 19] (VhtO A off n cap cx xa xb xc xd rs1 rs2 rs3 ro1 ro2 ro3 rn1 rc1 rn2 rc2 rn3 rc3 r w0.heap.size) rfl ?_ ?_
  · intro Q lq aq W iq oq hJ hl ho hall
    have hJ2 := hJ
    obtain ⟨z1, z2, z3, z4, z5, z6, z7⟩ := hJ
    have g0 : aq.tmps.getD 0 undef = .slice (some ⟨A, off, none⟩) n cap := by rw [Array.getD_eq_getD_getElem?, z4 0 (by decide), h0]; rfl
    have g6 : aq.tmps.getD 6 undef = .int .i64 (cx : Nat) := by rw [Array.getD_eq_getD_getElem?, z4 6 (by decide), h6]; rfl
    have g3 : aq.tmps.getD 3 undef = .pointer (some ⟨B1, 0, none⟩) := by rw [Array.getD_eq_getD_getElem?, z4 3 (by decide), h3]; rfl
    have c0 : W.cell? ⟨A, off + cx * 4, none⟩ = some (.int .i64 xa) := (z5.cell l0).trans k0
    have c1 : W.cell? ⟨A, off + cx * 4 + 1, none⟩ = some (.int .i64 xb) := (z5.cell l1).trans k1
    have c2 : W.cell? ⟨A, off + cx * 4 + 2, none⟩ = some (.int .i64 xc) := (z5.cell l2).trans k2
    have c3 : W.cell? ⟨A, off + cx * 4 + 3, none⟩ = some (.int .i64 xd) := (z5.cell l3).trans k3
    have c4 : W.cell? ⟨B1, 0, none⟩ = some (.bool rs1) := (z5.cell l4).trans k4
    have c5 : W.cell? ⟨B1, 1, none⟩ = some (.slice ro1 rn1 rc1) := (z5.cell l5).trans k5
    have c6 : W.cell? ⟨B1, 2, none⟩ = some (.bool rs2) := (z5.cell l6).trans k6
    have c7 : W.cell? ⟨B1, 3, none⟩ = some (.slice ro2 rn2 rc2) := (z5.cell l7).trans k7
    have c8 : W.cell? ⟨B1, 4, none⟩ = some (.bool rs3) := (z5.cell l8).trans k8
    have c9 : W.cell? ⟨B1, 5, none⟩ = some (.slice ro3 rn3 rc3) := (z5.cell l9).trans k9
    match iq, ho with
    | 0, ho =>
      cases ho
      refine wpOp_of rfl rfl ?_
      have hK := fun (v : Value) (W2 : World) hW hT hv => hJ2.put hS 0 14 rfl (by omega) (W' := W2) hW hT v hv
      clear ho hall hl hQ
      generalize InvQ _ _ _ w0 a0 (lq.setIfInBounds 0 true) = K at hK ⊢
      clear hJ2 hS z1 z2 z3 z4 z6 z7
      go_simp
      exact hK _ _ z5 (fun _ _ h => h) rfl
    | 1, ho =>
      cases ho
      refine wpOp_of rfl rfl ?_
      have hK := fun (v : Value) (W2 : World) hW hT hv => hJ2.put hS 1 15 rfl (by omega) (W' := W2) hW hT v hv
      clear ho hall hl hQ
      generalize InvQ _ _ _ w0 a0 (lq.setIfInBounds 1 true) = K at hK ⊢
      clear hJ2 hS z1 z2 z3 z4 z6 z7
      go_simp
      exact hK _ _ z5 (fun _ _ h => h) rfl
    | 2, ho =>
      cases ho
      refine wpOp_of rfl rfl ?_
      have f0 : (aq.tmps.getD 14 undef) = .slice (some ⟨A, off, none⟩) n cap := z6 0 14 (hall { on := 0, ground := Ground.data } (by simp) rfl) rfl
      have f1 : (aq.tmps.getD 15 undef) = .int .i64 (cx : Nat) := z6 1 15 (hall { on := 1, ground := Ground.data } (by simp) rfl) rfl
      have hK := fun (v : Value) (W2 : World) hW hT hv => hJ2.put hS 2 16 rfl (by omega) (W' := W2) hW hT v hv
      clear ho hall hl hQ
      generalize InvQ _ _ _ w0 a0 (lq.setIfInBounds 2 true) = K at hK ⊢
      clear hJ2 hS z1 z2 z3 z4 z6 z7
      go_simp
      exact hK _ _ z5 (fun _ _ h => h) rfl
    | 3, ho =>
      cases ho
      refine wpOp_of rfl rfl ?_
      have f2 : (aq.tmps.getD 16 undef) = .pointer (some ⟨A, off + cx * 4, none⟩) := z6 2 16 (hall { on := 2, ground := Ground.data } (by simp) rfl) rfl
      have hK := fun (v : Value) (W2 : World) hW hT hv => hJ2.put hS 3 17 rfl (by omega) (W' := W2) hW hT v hv
      clear ho hall hl hQ
      generalize InvQ _ _ _ w0 a0 (lq.setIfInBounds 3 true) = K at hK ⊢
      clear hJ2 hS z1 z2 z3 z4 z6 z7
      go_simp
      exact hK _ _ z5 (fun _ _ h => h) rfl
    | 4, ho =>
      cases ho
      refine wpOp_of rfl rfl ?_
      have hK := fun (v : Value) (W2 : World) hW hT hv => hJ2.put hS 4 18 rfl (by omega) (W' := W2) hW hT v hv
      clear ho hall hl hQ
      generalize InvQ _ _ _ w0 a0 (lq.setIfInBounds 4 true) = K at hK ⊢
      clear hJ2 hS z1 z2 z3 z4 z6 z7
      go_simp
      exact hK _ _ z5 (fun _ _ h => h) rfl
    | 5, ho =>
      cases ho
      refine wpOp_of rfl rfl ?_
      have f3 : (aq.tmps.getD 17 undef) = .agg #[.int .i64 xa, .int .i64 xb, .int .i64 xc, .int .i64 xd] := z6 3 17 (hall { on := 3, ground := Ground.data } (by simp) rfl) rfl
      have f4 : (aq.tmps.getD 18 undef) = .agg #[.bool rs1, .slice ro1 rn1 rc1, .bool rs2, .slice ro2 rn2 rc2, .bool rs3, .slice ro3 rn3 rc3] := z6 4 18 (hall { on := 4, ground := Ground.data } (by simp) rfl) rfl
      have hK := fun (v : Value) (W2 : World) hW hT hv => hJ2.put hS 5 19 rfl (by omega) (W' := W2) hW hT v hv
      clear ho hall hl hQ
      generalize InvQ _ _ _ w0 a0 (lq.setIfInBounds 5 true) = K at hK ⊢
      clear hJ2 hS z1 z2 z3 z4 z6 z7
      go_simp
      refine (hA W z5).mono ?_
      rintro e v1 ⟨rfl, hBv⟩
      exact hK _ _ (z5.trans (hBv.mono z5.size)) (fun _ _ h => h.mono hBv) rfl
    | iq + 6, ho => simp at ho
  · intro lq aq W hJ hr
    obtain ⟨z1, z2, z3, z4, z5, z6, z7⟩ := hJ
    have hl := listed_of hr [0, 1, 2, 3, 4, 5] [] (by simp) (by kernel_rfl) (by rw [z1]; decide)
    exact hQ aq W z2 z3 (fun e he => z4 e (by simpa using he)) (z6 5 19 (hl 5 (by simp)) rfl) z5
end Go.Proofs.YtpmnmlhfaoajdaaGreat

/- Where a point lies: both sides. -/
namespace Go.Proofs.YtpmnmlhfaoajdaaGreat
open Go.RowKit
set_option maxRecDepth 100000 in
set_option maxHeartbeats 8000000 in
theorem l8On_any (ao : Option Addr) (n cap : Nat) (x : Nat → Int) (px py pz : Int) (rs1 rs2 rs3 : Bool) (ro1 ro2 ro3 : Option Addr) (rn1 rc1 rn2 rc2 rn3 rc3 : Nat) (rd1 rd2 rd3 : List Int) (h40 : n ≤ 40) (hall : ∀ i, i < n → segOk (x (i * 4)) (x (i * 4 + 1)) (x (i * 4 + 2)) (x (i * 4 + 3)) = true) (w : World) (hS : SegIn w ao n x) (Nr1 : IsNum w rs1 ro1 rn1 rc1 rd1 px 8) (Nr2 : IsNum w rs2 ro2 rn2 rc2 rd2 py 8) (Nr3 : IsNum w rs3 ro3 rn3 rc3 rd3 pz 8) :
    Calls Tryz.prog 24 #[.slice ao n cap, .agg #[.bool rs1, .slice ro1 rn1 rc1, .bool rs2, .slice ro2 rn2 rc2, .bool rs3, .slice ro3 rn3 rc3]] w (HitP (flL (onAt x px py pz) n) w) := by
  have T0 : ArgsB w (w.alloc (.cells #[.bool rs1, .slice ro1 rn1 rc1, .bool rs2, .slice ro2 rn2 rc2, .bool rs3, .slice ro3 rn3 rc3] 58)) [[.bool rs1, .slice ro1 rn1 rc1, .bool rs2, .slice ro2 rn2 rc2, .bool rs3, .slice ro3 rn3 rc3]] := ar1 _ _ w
  have HS : Hid (SegIn w ao n x) := hS
  have HA : Hid (∀ i, i < n → segOk (x (i * 4)) (x (i * 4 + 1)) (x (i * 4 + 2)) (x (i * 4 + 3)) = true) := hall
  have hnI : (n : Int) ≤ 40 := by omega
  have HON : Hid (∀ c, onAt x px py pz c = btwS (x (c * 4)) (x (c * 4 + 1)) 1 (x (c * 4 + 2)) (x (c * 4 + 3)) 1 px py pz) := fun _ => rfl
  revert HON
  generalize onAt x px py pz = F
  intro HON
  obtain ⟨i0, hi, hz0, hz1, hz2⟩ := info_parts Tryz.infoNo
  clear hS hall
  go_enter Tryz.func24, Tryz.ntmps24
  go_wp2_with fail
  have hWs : (w.alloc (.cells #[.bool rs1, .slice ro1 rn1 rc1, .bool rs2, .slice ro2 rn2 rc2, .bool rs3, .slice ro3 rn3 rc3] 58)).heap.size = w.heap.size + 1 := by simp
  generalize w.alloc (.cells #[.bool rs1, .slice ro1 rn1 rc1, .bool rs2, .slice ro2 rn2 rc2, .bool rs3, .slice ro3 rn3 rc3] 58) = W at *
  have WL : w.heap.size < W.heap.size := (T0.b 0 rfl).lt
  go_loopw [5, 6] (fun o i wr => ∃ c : Nat, c ≤ n ∧ i = .int .i64 c ∧ wr.ownsRow (w.heap.size + 1) 2 1 o (flL F c).length ((flL F c).map (Value.int .i64)) ∧ ArgsB w wr [[.bool rs1, .slice ro1 rn1 rc1, .bool rs2, .slice ro2 rn2 rc2, .bool rs3, .slice ro3 rn3 rc3]]) (fun _ i _ => n - (intOf i).toNat)
  case atStart => exact ⟨0, by omega, rfl, by have O := World.ownsRow_made (e := 2) (size := 1) W #[] 0 WL (by decide) rfl; rw [hWs] at O; exact O, T0.alloc _⟩
  case round =>
        clear T0 WL hWs
        obtain ⟨c, hc, rfl, hown, T0⟩ := hrel
        have HBw := T0.below
        have hlen := flL_len F c
        by_cases hcn : c < n
        · obtain ⟨A, off, rfl, hA, hcell⟩ := HS.out c hcn
          have e0 : ∀ o, wr.cell? ⟨A, o, none⟩ = w.cell? ⟨A, o, none⟩ := fun o => HBw.cell (p := ⟨A, o, none⟩) hA
          have q0 := (e0 _).trans (hcell 0 (by omega)); have q1 := (e0 _).trans (hcell 1 (by omega)); have q2 := (e0 _).trans (hcell 2 (by omega)); have q3 := (e0 _).trans (hcell 3 (by omega))
          simp only [Nat.add_zero] at q0
          have hcI : (c : Int) < n := by omega
          have hA' : A < wr.heap.size := Nat.lt_of_lt_of_le hA HBw.size
          obtain ⟨i1, i2, i3, i4⟩ := in6_seg (HA.out c hcn)
          have X0 : Blk _ w.heap.size _ := T0.b 0 rfl
          have MB : ∀ w', Below wr.heap.size wr w' → Calls Tryz.prog 54 #[.agg #[.int .i64 (x (c * 4)), .int .i64 (x (c * 4 + 1)), .int .i64 (x (c * 4 + 2)), .int .i64 (x (c * 4 + 3))], .agg #[.bool rs1, .slice ro1 rn1 rc1, .bool rs2, .slice ro2 rn2 rc2, .bool rs3, .slice ro3 rn3 rc3]] w' (VP (.bool (F c)) w') := fun w' hB => by
            have HX := HBw.trans (hB.mono HBw.size)
            rw [HON.out]
            exact l4On_any rs1 rs2 rs3 ro1 ro2 ro3 rn1 rc1 rn2 rc2 rn3 rc3 rd1 rd2 rd3 _ _ _ _ px py pz i1 i2 i3 i4 w' (Nr1.below HX) (Nr2.below HX) (Nr3.below HX)
          have hl1 := X0.lt
          go_upto_region 5 with fail
          refine htO (A := A) (off := off) (n := n) (cap := cap) (cx := c) (B1 := w.heap.size) hcI MB rfl rfl rfl q0 hA' q1 hA' q2 hA' q3 hA' (X0.c 0 rfl) hl1 (X0.c 1 rfl) hl1 (X0.c 2 rfl) hl1 (X0.c 3 rfl) hl1 (X0.c 4 rfl) hl1 (X0.c 5 rfl) hl1 rfl ?_
          rintro ⟨tm, df⟩ w3 hz hdf hoff hV hB1
          simp only at hz hdf hoff hV
          subst hdf
          have htm := tmps_fold [14, 15, 16, 17, 18, 19] tm _ hz hoff
          simp only [List.foldl, List.setIfInBounds_toArray, List.set_cons_zero, List.set_cons_succ] at htm
          clear hz hoff
          have hV2 : tm.getD 19 undef = .bool (F c) := hV
          rw [hV2] at htm
          clear hV hV2
          generalize tm.getD 14 undef = sl0, tm.getD 15 undef = sl1, tm.getD 16 undef = sl2, tm.getD 17 undef = sl3, tm.getD 18 undef = sl4 at htm
          subst htm
          have TN := T0.step hB1
          have hs3 := hB1.size
          have hsw : w.heap.size + 1 ≤ wr.heap.size := hl1
          have HO3 : w3.ownsRow (w.heap.size + 1) 2 1 u5 (flL F c).length ((flL F c).map (Value.int .i64)) := own_step hown hB1
          clear MB q0 q1 q2 q3 hB1 hown T0 X0 hl1 hcell e0 hA hA' i1 i2 i3 i4 HBw
          cases hk : F c
          · have HL : Hid (flL F (c + 1) = flL F c) := flL_miss hk
            clear hk
            go_wp2
            go_roundw
            case rel => exact ⟨c + 1, by omega, by go_num, by rw [HL.out]; exact HO3, TN⟩
            case measure => simp [intOf]; omega
          · have HL : Hid (flL F (c + 1) = flL F c ++ [(c : Int)]) := flL_hit hk
            clear hk
            go_wp2_with (at_builtin; refine wpList_append_own _ rfl _ _ 29 rfl (w.heap.size + 1) 2 i0 (.int .i64 0) 1 8 Tryz.underlying29 hi hz0 hz1 hz2 rfl (by decide) _ _ _ rfl (HO3.alloc _) ⟨w3.heap.size, 0, none⟩ 1 1 [.int .i64 (c : Int)] rfl rfl (cell_one_new _ _ _) (one_cell _ _) (by unfold maxLen; omega) (by omega) (by simp; omega) ?_)
            intro v' w4 hown2 hgrow2 hnn
            have R1 : w4.ownsRow (w.heap.size + 1) 2 1 v' (flL F (c + 1)).length ((flL F (c + 1)).map (Value.int .i64)) := by
              rw [HL.out, List.map_append, List.length_append]
              simpa using hown2
            have T4 := argsB_grown (TN.alloc _) (by simp; omega) hgrow2 (fun j hj => (HO3.lt j hj).1)
            clear hown2 hgrow2 hnn HO3 TN
            go_wp2
            go_roundw
            case rel => exact ⟨c + 1, by omega, by go_num, R1, T4⟩
            case measure => simp [intOf]; omega
        · obtain rfl : c = n := by omega
          have HN := (NoOwn.of hown).mono (b := w.heap.size) (by omega)
          have HNH : Hid (NoOwn wr w.heap.size u5 (flL F c)) := HN
          clear HN hown T0 HON
          go_wp2
          go_ret
          exact ⟨_, rfl, HNH.out, HBw⟩
set_option maxRecDepth 100000 in
set_option maxHeartbeats 8000000 in
theorem specHitAt_any (ao : Option Addr) (n cap : Nat) (x : Nat → Int) (px py pz : Int) (tx : told px = true) (ty : told py = true) (tz : told pz = true) (w : World) (hS : SegIn w ao n x) : Calls Tryz.prog 6 #[.slice ao n cap, PV px py pz] w (HitP (htR n x px py pz) w) := by
  have T0 : ArgsB w (w.alloc (.cells #[.int .u64 (ww3 px), .int .u64 (ww2 px), .int .u64 (ww1 px), .int .u64 (ww0 px), .int .u64 (ww3 py), .int .u64 (ww2 py), .int .u64 (ww1 py), .int .u64 (ww0 py), .int .u64 (ww3 pz), .int .u64 (ww2 pz), .int .u64 (ww1 pz), .int .u64 (ww0 pz)] 35)) [[.int .u64 (ww3 px), .int .u64 (ww2 px), .int .u64 (ww1 px), .int .u64 (ww0 px), .int .u64 (ww3 py), .int .u64 (ww2 py), .int .u64 (ww1 py), .int .u64 (ww0 py), .int .u64 (ww3 pz), .int .u64 (ww2 pz), .int .u64 (ww1 pz), .int .u64 (ww0 pz)]] := ar1 _ _ w
  have HS : Hid (SegIn w ao n x) := hS
  clear hS
  go_enter Tryz.func6, Tryz.ntmps6
  go_wp2_with fail
  generalize w.alloc (.cells #[.int .u64 (ww3 px), .int .u64 (ww2 px), .int .u64 (ww1 px), .int .u64 (ww0 px), .int .u64 (ww3 py), .int .u64 (ww2 py), .int .u64 (ww1 py), .int .u64 (ww0 py), .int .u64 (ww3 pz), .int .u64 (ww2 pz), .int .u64 (ww1 pz), .int .u64 (ww0 pz)] 35) = W at *
  refine (l7Ok_any ao n cap x _ (HS.out.step T0.below)).mono ?_
  rintro e w1 ⟨rfl, hB⟩
  replace T0 := T0.step hB
  clear hB
  by_cases hsg : sgI n x = 0
  · rw [decide_eq_true hsg]
    have X0 : Blk _ w.heap.size _ := T0.b 0 rfl; obtain ⟨k0, k1, k2, k3, k4, k5, k6, k7, k8, k9, k10, k11⟩ := X0.cs12
    go_wp2_with fail
    refine (specPointOk_det px py pz tx ty tz _).mono ?_
    rintro e w2 ⟨rfl, hB⟩
    clear k0 k1 k2 k3 k4 k5 k6 k7 k8 k9 k10 k11 X0
    replace T0 := T0.step hB
    clear hB
    cases hbx : ptB px py pz
    · have HO : Hid (htR n x px py pz = []) := by show _ = _; unfold htR; rw [if_neg (by simp [hbx])]
      have HB := T0.below
      clear T0 hsg hbx
      go_wp2
      go_ret
      exact ⟨_, rfl, by rw [HO.out]; exact .inl ⟨rfl, rfl⟩, HB⟩
    · have HO : Hid (htR n x px py pz = flL (onAt x px py pz) n) := by show _ = _; unfold htR; rw [if_pos ⟨hsg, hbx⟩]
      obtain ⟨h40, hall⟩ := sgI_zero hsg
      have HA : Hid (∀ i, i < n → segOk (x (i * 4)) (x (i * 4 + 1)) (x (i * 4 + 2)) (x (i * 4 + 3)) = true) := hall
      have X0 : Blk _ w.heap.size _ := T0.b 0 rfl; obtain ⟨k0, k1, k2, k3, k4, k5, k6, k7, k8, k9, k10, k11⟩ := X0.cs12
      clear hall hbx hsg
      go_wp2_with fail
      refine (l3Of_det px py pz tx ty tz _).mono ?_
      rintro e w3 ⟨rs1, ro1, rn1, rc1, rd1, rs2, ro2, rn2, rc2, rd2, rs3, ro3, rn3, rc3, rd3, rfl, Nr1, Nr2, Nr3, hB⟩
      clear k0 k1 k2 k3 k4 k5 k6 k7 k8 k9 k10 k11 X0
      replace T0 := T0.step hB
      clear hB
      go_wp2_with fail
      refine (l8On_any ao n cap x px py pz rs1 rs2 rs3 ro1 ro2 ro3 rn1 rc1 rn2 rc2 rn3 rc3 rd1 rd2 rd3 h40 HA.out _ (HS.out.step T0.below) Nr1 Nr2 Nr3).mono ?_
      rintro e w4 ⟨v, rfl, NO, hB⟩
      have HB := T0.below.trans (hB.mono T0.below.size)
      have N2 := NO.mono (b := w.heap.size) T0.below.size
      clear Nr1 Nr2 Nr3 T0 hB NO
      go_wp2
      go_ret
      exact ⟨_, rfl, by rw [HO.out]; exact N2, HB⟩
  · have HO : Hid (htR n x px py pz = []) := by show _ = _; unfold htR; rw [if_neg (by simp [hsg])]
    rw [decide_eq_false hsg]
    have HB := T0.below
    clear T0 hsg
    go_wp2
    go_ret
    exact ⟨_, rfl, by rw [HO.out]; exact .inl ⟨rfl, rfl⟩, HB⟩
set_option maxRecDepth 100000 in
set_option maxHeartbeats 8000000 in
theorem implHitAt_any (ao : Option Addr) (n cap : Nat) (x : Nat → Int) (px py pz : Int) (tx : told px = true) (ty : told py = true) (tz : told pz = true) (w : World) (hS : SegIn w ao n x) : Calls Tryz.prog 9 #[.slice ao n cap, PV px py pz] w (HitP (htR n x px py pz) w) := by
  have T0 : ArgsB w (w.alloc (.cells #[.int .u64 (ww3 px), .int .u64 (ww2 px), .int .u64 (ww1 px), .int .u64 (ww0 px), .int .u64 (ww3 py), .int .u64 (ww2 py), .int .u64 (ww1 py), .int .u64 (ww0 py), .int .u64 (ww3 pz), .int .u64 (ww2 pz), .int .u64 (ww1 pz), .int .u64 (ww0 pz)] 35)) [[.int .u64 (ww3 px), .int .u64 (ww2 px), .int .u64 (ww1 px), .int .u64 (ww0 px), .int .u64 (ww3 py), .int .u64 (ww2 py), .int .u64 (ww1 py), .int .u64 (ww0 py), .int .u64 (ww3 pz), .int .u64 (ww2 pz), .int .u64 (ww1 pz), .int .u64 (ww0 pz)]] := ar1 _ _ w
  have HS : Hid (SegIn w ao n x) := hS
  clear hS
  go_enter Tryz.func9, Tryz.ntmps9
  go_wp2_with fail
  generalize w.alloc (.cells #[.int .u64 (ww3 px), .int .u64 (ww2 px), .int .u64 (ww1 px), .int .u64 (ww0 px), .int .u64 (ww3 py), .int .u64 (ww2 py), .int .u64 (ww1 py), .int .u64 (ww0 py), .int .u64 (ww3 pz), .int .u64 (ww2 pz), .int .u64 (ww1 pz), .int .u64 (ww0 pz)] 35) = W at *
  refine (implSegsFault_any ao n cap x _ (HS.out.step T0.below)).mono ?_
  rintro e w1 ⟨rfl, hB⟩
  replace T0 := T0.step hB
  clear hB
  by_cases hsg : sgI n x = 0
  · rw [hsg]
    have X0 : Blk _ w.heap.size _ := T0.b 0 rfl; obtain ⟨k0, k1, k2, k3, k4, k5, k6, k7, k8, k9, k10, k11⟩ := X0.cs12
    go_wp2_with fail
    refine (pright_det px py pz tx ty tz _).mono ?_
    rintro e w2 ⟨rfl, hB⟩
    clear k0 k1 k2 k3 k4 k5 k6 k7 k8 k9 k10 k11 X0
    replace T0 := T0.step hB
    clear hB
    cases hbx : ptB px py pz
    · have HO : Hid (htR n x px py pz = []) := by show _ = _; unfold htR; rw [if_neg (by simp [hbx])]
      have HB := T0.below
      clear T0 hsg hbx
      go_wp2
      go_ret
      exact ⟨_, rfl, by rw [HO.out]; exact .inl ⟨rfl, rfl⟩, HB⟩
    · have HO : Hid (htR n x px py pz = flL (onAt x px py pz) n) := by show _ = _; unfold htR; rw [if_pos ⟨hsg, hbx⟩]
      obtain ⟨h40, hall⟩ := sgI_zero hsg
      obtain ⟨_, s1, s2, s3⟩ := ptB_small hbx
      have HA : Hid (∀ i, i < n → segOk (x (i * 4)) (x (i * 4 + 1)) (x (i * 4 + 2)) (x (i * 4 + 3)) = true) := hall
      have hnI : (n : Int) ≤ 40 := by omega
      have HON : Hid (∀ c, c < n → onAt x px py pz c = (overJ (x (c * 4)) (x (c * 4 + 1)) (x (c * 4 + 2)) (x (c * 4 + 3)) px py pz == 0)) := fun c hc => (over_btw (hall c hc)).symm
      revert HON HO
      generalize onAt x px py pz = F
      intro HO HON
      obtain ⟨i0, hi, hz0, hz1, hz2⟩ := info_parts Tryz.infoNo
      clear hall hbx hsg
      go_wp2_with fail
      go_loopw [5, 18] (fun o i wr => ∃ c : Nat, c ≤ n ∧ i = .int .i64 c ∧ wr.ownsRow (w.heap.size + 1) 2 1 o (flL F c).length ((flL F c).map (Value.int .i64)) ∧ ArgsB w wr [[.int .u64 (ww3 px), .int .u64 (ww2 px), .int .u64 (ww1 px), .int .u64 (ww0 px), .int .u64 (ww3 py), .int .u64 (ww2 py), .int .u64 (ww1 py), .int .u64 (ww0 py), .int .u64 (ww3 pz), .int .u64 (ww2 pz), .int .u64 (ww1 pz), .int .u64 (ww0 pz)]]) (fun _ i _ => n - (intOf i).toNat)
      case atStart => exact ⟨0, by omega, rfl, World.ownsRow_nil _ _ _ _, T0⟩
      case round =>
        clear T0
        obtain ⟨c, hc, rfl, hown, T0⟩ := hrel
        have HBw := T0.below
        have hlen := flL_len F c
        by_cases hcn : c < n
        · obtain ⟨A, off, rfl, hA, hcell⟩ := HS.out c hcn
          have e0 : ∀ o, wr.cell? ⟨A, o, none⟩ = w.cell? ⟨A, o, none⟩ := fun o => HBw.cell (p := ⟨A, o, none⟩) hA
          have q0 := (e0 _).trans (hcell 0 (by omega)); have q1 := (e0 _).trans (hcell 1 (by omega)); have q2 := (e0 _).trans (hcell 2 (by omega)); have q3 := (e0 _).trans (hcell 3 (by omega))
          simp only [Nat.add_zero] at q0
          have hcI : (c : Int) < n := by omega
          have hA' : A < wr.heap.size := Nat.lt_of_lt_of_le hA HBw.size
          obtain ⟨i1, i2, i3, i4⟩ := in6_seg (HA.out c hcn)
          have X0 : Blk _ w.heap.size _ := T0.b 0 rfl; obtain ⟨k0, k1, k2, k3, k4, k5, k6, k7, k8, k9, k10, k11⟩ := X0.cs12
          have MB := overAt_det (x (c * 4)) (x (c * 4 + 1)) (x (c * 4 + 2)) (x (c * 4 + 3)) px py pz i1 i2 i3 i4 s1 s2 s3
          have HF : Hid (F c = (overJ (x (c * 4)) (x (c * 4 + 1)) (x (c * 4 + 2)) (x (c * 4 + 3)) px py pz == 0)) := HON.out c hcn
          revert HF MB
          generalize overJ (x (c * 4)) (x (c * 4 + 1)) (x (c * 4 + 2)) (x (c * 4 + 3)) px py pz = J
          intro MB HF
          have hl1 := X0.lt
          clear i1 i2 i3 i4 hcell e0
          go_wp2_with fail
          refine (MB _).mono ?_
          rintro e w3 ⟨rfl, hB⟩
          have hB1 : Below wr.heap.size wr w3 := ((Below.refl _ wr).alloc (Nat.le_refl _) _).trans (hB.mono (by simp))
          have TN := T0.step hB1
          have hs3 := hB1.size
          have hsw : w.heap.size + 1 ≤ wr.heap.size := hl1
          have HO3 : w3.ownsRow (w.heap.size + 1) 2 1 u5 (flL F c).length ((flL F c).map (Value.int .i64)) := own_step hown hB1
          clear MB hB k0 k1 k2 k3 k4 k5 k6 k7 k8 k9 k10 k11 X0 q0 q1 q2 q3 hA hA' hB1 hown T0 hl1 HBw
          have HFo := HF.out
          clear HF
          cases hk : F c
          · have hj : (J == 0) = false := by rw [← HFo, hk]
            have HL : Hid (flL F (c + 1) = flL F c) := flL_miss hk
            clear hk HFo
            go_wp2
            go_roundw
            case rel => exact ⟨c + 1, by omega, by go_num, by rw [HL.out]; exact HO3, TN⟩
            case measure => simp [intOf]; omega
          · have hj : J = 0 := by rw [hk] at HFo; exact beq_iff_eq.1 HFo.symm
            have HL : Hid (flL F (c + 1) = flL F c ++ [(c : Int)]) := flL_hit hk
            clear hk HFo
            subst hj
            go_wp2_with (at_builtin; refine wpList_append_own _ rfl _ _ 29 rfl (w.heap.size + 1) 2 i0 (.int .i64 0) 1 8 Tryz.underlying29 hi hz0 hz1 hz2 rfl (by decide) _ _ _ rfl (HO3.alloc _) ⟨w3.heap.size, 0, none⟩ 1 1 [.int .i64 (c : Int)] rfl rfl (cell_one_new _ _ _) (one_cell _ _) (by unfold maxLen; omega) (by omega) (by simp; omega) ?_)
            intro v' w4 hown2 hgrow2 hnn
            have R1 : w4.ownsRow (w.heap.size + 1) 2 1 v' (flL F (c + 1)).length ((flL F (c + 1)).map (Value.int .i64)) := by
              rw [HL.out, List.map_append, List.length_append]
              simpa using hown2
            have T4 := argsB_grown (TN.alloc _) (by simp; omega) hgrow2 (fun j hj => (HO3.lt j hj).1)
            clear hown2 hgrow2 hnn HO3 TN
            go_wp2
            go_roundw
            case rel => exact ⟨c + 1, by omega, by go_num, R1, T4⟩
            case measure => simp [intOf]; omega
        · obtain rfl : c = n := by omega
          have HN := (NoOwn.of hown).mono (b := w.heap.size) (by omega)
          have HNH : Hid (NoOwn wr w.heap.size u5 (flL F c)) := HN
          clear HN hown T0 HON
          go_wp2
          go_ret
          exact ⟨_, rfl, by rw [HO.out]; exact HNH.out, HBw⟩
  · have HO : Hid (htR n x px py pz = []) := by show _ = _; unfold htR; rw [if_neg (by simp [hsg])]
    have hne : (sgI n x != 0) = true := by simp; omega
    have HB := T0.below
    revert hne
    generalize sgI n x = o
    intro hne
    clear T0 hsg
    go_wp2
    go_ret
    exact ⟨_, rfl, by rw [HO.out]; exact .inl ⟨rfl, rfl⟩, HB⟩
end Go.Proofs.YtpmnmlhfaoajdaaGreat

/- Segments that meet a box: the law. -/
namespace Go.Proofs.YtpmnmlhfaoajdaaGreat
open Go.RowKit
set_option maxRecDepth 100000 in
set_option maxHeartbeats 2000000 in
theorem toSegS2_any (ao : Option Addr) (n cap : Nat) (x : Nat → Int) (hn : n ≤ 1048576) (w : World) (hS : SegIn w ao n x) : Calls Tryz.prog 7 #[.slice ao n cap] w (fun e w' => ∃ g, e = .returned (.slice (some ⟨g, 0, none⟩) n n) ∧ w.heap.size ≤ g ∧ w'.rowIs g 63 (n * 4) (fun i => .int .i64 (x i)) ∧ Below w.heap.size w w') := by
  have MK := make_segs n hn
  have HS : Hid (SegIn w ao n x) := hS
  clear hS
  go_enter Tryz.func7, Tryz.ntmps7
  go_wp2_with fail
  have R0 := row_made w n 63
  have B0 : Below w.heap.size w (w.alloc (.cells (madeCells #[.int .i64 0, .int .i64 0, .int .i64 0, .int .i64 0] (n * 4)) 63)) := (Below.refl _ _).alloc (Nat.le_refl _) _
  generalize w.alloc (.cells (madeCells #[.int .i64 0, .int .i64 0, .int .i64 0, .int .i64 0] (n * 4)) 63) = W1 at *
  have hnI : (n : Int) ≤ 1048576 := by omega
  clear MK
  go_loopw [4] (fun i wr => ∃ c : Nat, c ≤ n ∧ i = .int .i64 c ∧ wr.rowIs w.heap.size 63 (n * 4) (cpF x c) ∧ Below w.heap.size w wr) (fun i _ => n - (intOf i).toNat)
  case atStart => exact ⟨0, by omega, rfl, R0.congr (fun i _ => by unfold cpF; simp), B0⟩
  case round =>
    clear R0 B0
    obtain ⟨c, hc, rfl, R, HB⟩ := hrel
    by_cases hcn : c < n
    · obtain ⟨A, off, rfl, hA, hcell⟩ := HS.out c hcn
      have e0 : ∀ o, wr.cell? ⟨A, o, none⟩ = w.cell? ⟨A, o, none⟩ := fun o => HB.cell (p := ⟨A, o, none⟩) hA
      have q0 := (e0 _).trans (hcell 0 (by omega)); have q1 := (e0 _).trans (hcell 1 (by omega)); have q2 := (e0 _).trans (hcell 2 (by omega)); have q3 := (e0 _).trans (hcell 3 (by omega))
      simp only [Nat.add_zero] at q0
      have hcI : (c : Int) < n := by omega
      clear hcell e0
      go_wp2_with fail
      refine (toSeg_any (x (c * 4)) (x (c * 4 + 1)) (x (c * 4 + 2)) (x (c * 4 + 3)) _).mono ?_
      rintro e w1 ⟨rfl, hB⟩
      replace R := row_step R hB
      replace HB := HB.trans (hB.mono HB.size)
      have o0 := R.cell (i := c * 4) (by omega); have o1 := R.cell (i := c * 4 + 1) (by omega); have o2 := R.cell (i := c * 4 + 2) (by omega); have o3 := R.cell (i := c * 4 + 3) (by omega)
      have f0 := R.frozen (c * 4); have f1 := R.frozen (c * 4 + 1); have f2 := R.frozen (c * 4 + 2); have f3 := R.frozen (c * 4 + 3)
      have RN := cp_step R hcn
      have HN : Below w.heap.size w ((((w1.setCell ⟨w.heap.size, c * 4, none⟩ (.int .i64 (x (c * 4)))).setCell ⟨w.heap.size, c * 4 + 1, none⟩ (.int .i64 (x (c * 4 + 1)))).setCell ⟨w.heap.size, c * 4 + 2, none⟩ (.int .i64 (x (c * 4 + 2)))).setCell ⟨w.heap.size, c * 4 + 3, none⟩ (.int .i64 (x (c * 4 + 3)))) := (((HB.setCell (by simp) _).setCell (by simp) _).setCell (by simp) _).setCell (by simp) _
      clear hB q0 q1 q2 q3 hA R HB
      go_wp2
      go_roundw
      case rel => exact ⟨c + 1, by omega, by go_num, RN, HN⟩
      case measure => simp [intOf]; omega
    · obtain rfl : c = n := by omega
      have RN : wr.rowIs w.heap.size 63 (c * 4) (fun i => .int .i64 (x i)) := R.congr (fun i hi => by unfold cpF; rw [if_pos hi])
      clear R HS
      go_wp2
      go_ret
      exact ⟨_, rfl, Nat.le_refl _, RN, HB⟩
theorem NoOwn.lt {w : World} {base : Nat} {v : Value} {L : List Int} (h : NoOwn w base v L) {g : Nat} (hg : v.ownBlock = some g) : base ≤ g ∧ g < w.heap.size := by
  rcases h with ⟨h1, _⟩ | ⟨g', cap, f, h1, h2, h3, h4, h5⟩
  · subst h1; cases hg
  · subst h1; cases hg; exact ⟨h2, h4.lt⟩
theorem argsB_other {w W W' : World} {vss : List (List Value)} {h : Option Nat} (A : ArgsB w W vss) (k : OtherB h W W') (hr : ∀ g, h = some g → w.heap.size + vss.length ≤ g) : ArgsB w W' vss := by
  refine ⟨k.2.2 w (fun g hg => by have := hr g hg; omega) A.1, fun j vs hj => k.blk (fun e => ?_) (A.2 j vs hj)⟩
  have := (List.getElem?_eq_some_iff.1 hj).1
  have := hr _ e.symm
  omega
theorem eqNo_own {v v' : Value} {L : List Int} {b b' : Nat} (hn : L.length ≤ 1048576) (w : World) (h : NoOwn w b v L) (h' : NoOwn w b' v' L) : Calls Tryz.prog 10 #[v, v'] w (BoolP true w) := by
  obtain ⟨ao, cap, rfl, hI⟩ := h.in
  obtain ⟨bo, cap', rfl, hI'⟩ := h'.in
  exact eqNoS_any ao bo L.length cap cap' _ hn w hI hI'
end Go.Proofs.YtpmnmlhfaoajdaaGreat

/- Where a point lies: the law. -/
namespace Go.Proofs.YtpmnmlhfaoajdaaGreat
open Go.RowKit
theorem hc_cells {px py pz : Int} {w W : World} (h : ArgsB w W [[.int .u64 (ww3 px), .int .u64 (ww2 px), .int .u64 (ww1 px), .int .u64 (ww0 px), .int .u64 (ww3 py), .int .u64 (ww2 py), .int .u64 (ww1 py), .int .u64 (ww0 py), .int .u64 (ww3 pz), .int .u64 (ww2 pz), .int .u64 (ww1 pz), .int .u64 (ww0 pz)]]) : (fun w' => w'.cell? ⟨w.heap.size, 0, none⟩ = some (.int .u64 (ww3 px)) ∧ w'.cell? ⟨w.heap.size, 1, none⟩ = some (.int .u64 (ww2 px)) ∧ w'.cell? ⟨w.heap.size, 2, none⟩ = some (.int .u64 (ww1 px)) ∧ w'.cell? ⟨w.heap.size, 3, none⟩ = some (.int .u64 (ww0 px)) ∧ w'.cell? ⟨w.heap.size, 4, none⟩ = some (.int .u64 (ww3 py)) ∧ w'.cell? ⟨w.heap.size, 5, none⟩ = some (.int .u64 (ww2 py)) ∧ w'.cell? ⟨w.heap.size, 6, none⟩ = some (.int .u64 (ww1 py)) ∧ w'.cell? ⟨w.heap.size, 7, none⟩ = some (.int .u64 (ww0 py)) ∧ w'.cell? ⟨w.heap.size, 8, none⟩ = some (.int .u64 (ww3 pz)) ∧ w'.cell? ⟨w.heap.size, 9, none⟩ = some (.int .u64 (ww2 pz)) ∧ w'.cell? ⟨w.heap.size, 10, none⟩ = some (.int .u64 (ww1 pz)) ∧ w'.cell? ⟨w.heap.size, 11, none⟩ = some (.int .u64 (ww0 pz))) W := (h.b 0 rfl).cs12
set_option maxRecDepth 100000 in
set_option maxHeartbeats 8000000 in
theorem lawHitAt_any (ao : Option Addr) (n cap : Nat) (x : Nat → Int) (px py pz : Int) (tx : told px = true) (ty : told py = true) (tz : told pz = true) (hn : n ≤ 9223372036854775807) (w : World) (hS : n ≤ 1048576 → SegIn w ao n x) : Calls Tryz.prog 3 #[.slice ao n cap, PV px py pz] w (BoolP true w) := by
  have SZ := szSegS_any ao n cap hn
  have T0 : ArgsB w (w.alloc (.cells #[.int .u64 (ww3 px), .int .u64 (ww2 px), .int .u64 (ww1 px), .int .u64 (ww0 px), .int .u64 (ww3 py), .int .u64 (ww2 py), .int .u64 (ww1 py), .int .u64 (ww0 py), .int .u64 (ww3 pz), .int .u64 (ww2 pz), .int .u64 (ww1 pz), .int .u64 (ww0 pz)] 27)) [[.int .u64 (ww3 px), .int .u64 (ww2 px), .int .u64 (ww1 px), .int .u64 (ww0 px), .int .u64 (ww3 py), .int .u64 (ww2 py), .int .u64 (ww1 py), .int .u64 (ww0 py), .int .u64 (ww3 pz), .int .u64 (ww2 pz), .int .u64 (ww1 pz), .int .u64 (ww0 pz)]] := ar1 _ _ w
  go_enter Tryz.func3, Tryz.ntmps3
  by_cases hs : n ≤ 1048576
  · rw [if_pos hs] at SZ
    have HS : Hid (SegIn w ao n x) := hS hs
    have hsI : (n : Int) ≤ 1048576 := by omega
    have TS := fun w => toSegS2_any ao n cap x hs w
    have TP := toPoint_det px py pz
    have HL : Hid ((htR n x px py pz).length ≤ 1048576) := htR_len n x px py pz
    have SW := fun ao' w h => specHitAt_any ao' n n x px py pz tx ty tz w h
    have IW := fun ao' w h => implHitAt_any ao' n n x px py pz tx ty tz w h
    revert SW IW HL
    generalize htR n x px py pz = L
    intro HL SW IW
    clear hS tx ty tz
    go_wp2_with fail
    generalize (w.alloc (.cells #[.int .u64 (ww3 px), .int .u64 (ww2 px), .int .u64 (ww1 px), .int .u64 (ww0 px), .int .u64 (ww3 py), .int .u64 (ww2 py), .int .u64 (ww1 py), .int .u64 (ww0 py), .int .u64 (ww3 pz), .int .u64 (ww2 pz), .int .u64 (ww1 pz), .int .u64 (ww0 pz)] 27)) = W at *
    refine (SZ _).mono ?_
    rintro e w1 ⟨rfl, hB⟩
    replace T0 := T0.step hB
    clear hB SZ
    have CH : Below w1.heap.size w1 w1 := Below.refl _ _
    go_upto_region 5 with fail
    go_region_held3 (fun w' => w'.cell? ⟨w.heap.size, 0, none⟩ = some (.int .u64 (ww3 px)) ∧ w'.cell? ⟨w.heap.size, 1, none⟩ = some (.int .u64 (ww2 px)) ∧ w'.cell? ⟨w.heap.size, 2, none⟩ = some (.int .u64 (ww1 px)) ∧ w'.cell? ⟨w.heap.size, 3, none⟩ = some (.int .u64 (ww0 px)) ∧ w'.cell? ⟨w.heap.size, 4, none⟩ = some (.int .u64 (ww3 py)) ∧ w'.cell? ⟨w.heap.size, 5, none⟩ = some (.int .u64 (ww2 py)) ∧ w'.cell? ⟨w.heap.size, 6, none⟩ = some (.int .u64 (ww1 py)) ∧ w'.cell? ⟨w.heap.size, 7, none⟩ = some (.int .u64 (ww0 py)) ∧ w'.cell? ⟨w.heap.size, 8, none⟩ = some (.int .u64 (ww3 pz)) ∧ w'.cell? ⟨w.heap.size, 9, none⟩ = some (.int .u64 (ww2 pz)) ∧ w'.cell? ⟨w.heap.size, 10, none⟩ = some (.int .u64 (ww1 pz)) ∧ w'.cell? ⟨w.heap.size, 11, none⟩ = some (.int .u64 (ww0 pz))) (first | (with_reducible exact hc_cells T0) | (with_reducible exact hc_cells T0.drew))
      (first
        | (go_at_call 7; refine (TS _ (by first | (with_reducible exact HS.out.step T0.below) | (with_reducible exact HS.out.step T0.drew.below))).mono ?_; rintro e wa ⟨ga, rfl, la, Ra, hB⟩; (first | (have T1 := T0.step hB) | (have T1 := T0.drew.step hB)); clear T0; have T0 := T1; clear T1; (first | (have CH1 := CH.trans (hB.mono CH.size)) | (have CH1 := CH.drew.trans (hB.mono CH.drew.size))); clear CH; have CH := CH1; clear CH1; clear hB)
        | (go_at_call 8; refine (TP _).mono ?_; rintro e wb ⟨rfl, hB⟩; (have Ra2 := row_step Ra hB; clear Ra; have Ra := Ra2; clear Ra2); (first | (have T1 := T0.step hB) | (have T1 := T0.drew.step hB)); clear T0; have T0 := T1; clear T1; (first | (have CH1 := CH.trans (hB.mono CH.size)) | (have CH1 := CH.drew.trans (hB.mono CH.drew.size))); clear CH; have CH := CH1; clear CH1; clear hB)
        | (go_at_call 6; refine (SW _ _ (segIn_row Ra)).mono ?_; rintro e wD ⟨v1, rfl, Na0, hB⟩; (have Ra2 := row_step Ra hB; clear Ra; have Ra := Ra2; clear Ra2); (first | (have Na := Na0.mono (b := w1.heap.size) CH.size) | (have Na := Na0.mono (b := w1.heap.size) CH.drew.size)); clear Na0; (first | (have T1 := T0.step hB) | (have T1 := T0.drew.step hB)); clear T0; have T0 := T1; clear T1; (first | (have CH1 := CH.trans (hB.mono CH.size)) | (have CH1 := CH.drew.trans (hB.mono CH.drew.size))); clear CH; have CH := CH1; clear CH1; clear hB))
    have N1 : NoOwn wD 0 v1 L := Na.mono (Nat.zero_le _)
    have o1 : Hid (∀ g, v1.ownBlock = some g → g < wD.heap.size) := fun g hg => (Na.lt hg).2
    have hw : w.heap.size + 1 ≤ wD.heap.size := (T0.b 0 rfl).lt
    clear Na Ra la CH SW
    go_wp2_with fail
    refine (TS _ (HS.out.step T0.below)).mono ?_
    rintro e w2 ⟨g2, rfl, l2, R2, hB⟩
    have d2 := hB.size
    replace T0 := T0.step hB
    replace N1 := N1.step hB
    clear hB
    have z2 := R2.lt
    have X0 : Blk _ w.heap.size _ := T0.b 0 rfl; obtain ⟨k0, k1, k2, k3, k4, k5, k6, k7, k8, k9, k10, k11⟩ := X0.cs12
    go_wp2_with fail
    refine (TP _).mono ?_
    rintro e w2b ⟨rfl, hB⟩
    have d2b := hB.size
    clear k0 k1 k2 k3 k4 k5 k6 k7 k8 k9 k10 k11 X0
    replace T0 := T0.step hB
    replace N1 := N1.step hB
    replace R2 := row_step R2 hB
    clear hB
    go_wp2_with fail
    refine (IW _ _ (segIn_row R2)).mono ?_
    rintro e w3 ⟨v2, rfl, N2, hB⟩
    have d3 := hB.size
    replace T0 := T0.step hB
    replace N1 := N1.step hB
    replace R2 := row_step R2 hB
    clear hB
    go_wp2_with fail
    refine (eqNo_own HL.out _ N2 N1).mono ?_
    rintro e w4 ⟨rfl, hB⟩
    replace T0 := T0.step hB
    replace N1 := N1.step hB
    replace N2 := N2.step hB
    replace R2 := row_step R2 hB
    clear hB
    go_wp2_with fail
    refine (TS _ (HS.out.step T0.below)).mono ?_
    rintro e w5 ⟨g5, rfl, l5, R5, hB⟩
    replace T0 := T0.step hB
    replace N1 := N1.step hB
    replace N2 := N2.step hB
    replace R2 := row_step R2 hB
    clear hB
    go_wp2_with fail
    refine (eqSegS_any _ _ n n n x hs _ (segIn_row R2) (segIn_row R5)).mono ?_
    rintro e w6 ⟨rfl, hB⟩
    clear R5 l5
    replace T0 := T0.step hB
    replace N1 := N1.step hB
    replace N2 := N2.step hB
    replace R2 := row_step R2 hB
    clear hB
    go_wp2_with fail
    refine (markSegS_any g2 n _ hs _ R2 (fun i _ => ⟨_, rfl⟩)).mono ?_
    rintro e w7 ⟨rfl, KM⟩
    replace T0 := argsB_other T0 KM (fun g hg => by cases hg; simp; omega)
    replace N1 := KM.own N1 (fun g hg e => by have e2 := Option.some.inj e; have := o1.out g hg; omega)
    replace N2 := KM.own N2 (fun g hg e => by have e2 := Option.some.inj e; have := (N2.lt hg).1; omega)
    clear KM R2
    have hk1 : ¬ ((n : Int) * 4 + 1 < 0) := by omega
    go_wp2_with fail
    refine (eqNo_own HL.out _ N2 N1).mono ?_
    rintro e w8 ⟨rfl, hB⟩
    replace T0 := T0.step hB
    replace N1 := N1.step hB
    replace N2 := N2.step hB
    clear hB
    go_wp2_with fail
    have ob := fun g hg => (N2.lt (g := g) hg).1
    refine (markNoS_any v2 L _ HL.out _ N2).mono ?_
    rintro e w9 ⟨rfl, N2', KM⟩
    replace T0 := argsB_other T0 KM (fun g hg => by have := ob g hg; simp; omega)
    replace N1 := KM.own N1 (fun g hg e => by have := o1.out g hg; have := ob g e.symm; omega)
    clear KM N2 ob
    have N2 := N2'
    clear N2' o1 l2 hw d2 d2b z2 d3
    have hk2 : ¬ ((L.length : Int) + 1 < 0) := by omega
    have hk3 : (((L.length : Int) + 1) != ((L.length : Int) + 1)) = false := by simp
    go_wp2_with fail
    refine (heldNoS_any v2 L.length _ HL.out _ N2).mono ?_
    rintro e w10 ⟨rfl, hB⟩
    replace T0 := T0.step hB
    replace N1 := N1.step hB
    replace N2 := N2.step hB
    clear hB
    have CH : Below w10.heap.size w10 w10 := Below.refl _ _
    go_upto_region 24 with fail
    go_region_held3 (fun w' => w'.cell? ⟨w.heap.size, 0, none⟩ = some (.int .u64 (ww3 px)) ∧ w'.cell? ⟨w.heap.size, 1, none⟩ = some (.int .u64 (ww2 px)) ∧ w'.cell? ⟨w.heap.size, 2, none⟩ = some (.int .u64 (ww1 px)) ∧ w'.cell? ⟨w.heap.size, 3, none⟩ = some (.int .u64 (ww0 px)) ∧ w'.cell? ⟨w.heap.size, 4, none⟩ = some (.int .u64 (ww3 py)) ∧ w'.cell? ⟨w.heap.size, 5, none⟩ = some (.int .u64 (ww2 py)) ∧ w'.cell? ⟨w.heap.size, 6, none⟩ = some (.int .u64 (ww1 py)) ∧ w'.cell? ⟨w.heap.size, 7, none⟩ = some (.int .u64 (ww0 py)) ∧ w'.cell? ⟨w.heap.size, 8, none⟩ = some (.int .u64 (ww3 pz)) ∧ w'.cell? ⟨w.heap.size, 9, none⟩ = some (.int .u64 (ww2 pz)) ∧ w'.cell? ⟨w.heap.size, 10, none⟩ = some (.int .u64 (ww1 pz)) ∧ w'.cell? ⟨w.heap.size, 11, none⟩ = some (.int .u64 (ww0 pz))) (first | (with_reducible exact hc_cells T0) | (with_reducible exact hc_cells T0.drew))
      (first
        | (go_at_call 7; refine (TS _ (by first | (with_reducible exact HS.out.step T0.below) | (with_reducible exact HS.out.step T0.drew.below))).mono ?_; rintro e wa ⟨ga, rfl, la, Ra, hB⟩; (first | (have T1 := T0.step hB) | (have T1 := T0.drew.step hB)); clear T0; have T0 := T1; clear T1; (first | (have CH1 := CH.trans (hB.mono CH.size)) | (have CH1 := CH.drew.trans (hB.mono CH.drew.size))); clear CH; have CH := CH1; clear CH1; clear hB)
        | (go_at_call 8; refine (TP _).mono ?_; rintro e wb ⟨rfl, hB⟩; (have Ra2 := row_step Ra hB; clear Ra; have Ra := Ra2; clear Ra2); (first | (have T1 := T0.step hB) | (have T1 := T0.drew.step hB)); clear T0; have T0 := T1; clear T1; (first | (have CH1 := CH.trans (hB.mono CH.size)) | (have CH1 := CH.drew.trans (hB.mono CH.drew.size))); clear CH; have CH := CH1; clear CH1; clear hB)
        | (go_at_call 9; refine (IW _ _ (segIn_row Ra)).mono ?_; rintro e w11 ⟨v3, rfl, Na0, hB⟩; (have Ra2 := row_step Ra hB; clear Ra; have Ra := Ra2; clear Ra2); (first | (have Na := Na0.mono (b := w10.heap.size) CH.size) | (have Na := Na0.mono (b := w10.heap.size) CH.drew.size)); clear Na0; (first | (have T1 := T0.step hB) | (have T1 := T0.drew.step hB)); clear T0; have T0 := T1; clear T1; (first | (have CH1 := CH.trans (hB.mono CH.size)) | (have CH1 := CH.drew.trans (hB.mono CH.drew.size))); clear CH; have CH := CH1; clear CH1; clear hB))
    replace N1 := N1.step CH
    replace N2 := N2.step CH
    have N3 := Na
    clear Na Ra la CH
    clear IW TS
    go_wp2_with fail
    refine (eqNo_own HL.out _ N3 N1).mono ?_
    rintro e w12 ⟨rfl, hB⟩
    clear N3
    replace T0 := T0.step hB
    replace N1 := N1.step hB
    replace N2 := N2.step hB
    clear hB
    go_wp2_with fail
    refine (heldNoS_any v2 L.length _ HL.out _ N2).mono ?_
    rintro e w13 ⟨rfl, hB⟩
    replace T0 := T0.step hB
    clear hB
    have HB := T0.below
    clear N1 N2 T0
    go_wp2
    go_ret
    exact ⟨rfl, HB⟩
  · rw [if_neg hs] at SZ
    clear hS
    go_wp2_with fail
    generalize (w.alloc (.cells #[.int .u64 (ww3 px), .int .u64 (ww2 px), .int .u64 (ww1 px), .int .u64 (ww0 px), .int .u64 (ww3 py), .int .u64 (ww2 py), .int .u64 (ww1 py), .int .u64 (ww0 py), .int .u64 (ww3 pz), .int .u64 (ww2 pz), .int .u64 (ww1 pz), .int .u64 (ww0 pz)] 27)) = W at *
    refine (SZ _).mono ?_
    rintro e w1 ⟨rfl, hB⟩
    have HB := (T0.step hB).below
    clear SZ T0 hB
    go_wp2
    go_ret
    exact ⟨rfl, HB⟩
end Go.Proofs.YtpmnmlhfaoajdaaGreat

/- How spots and segments read as data, beside points: opened and shut. -/
namespace Go.Proofs.YtpmnmlhfaoajdaaGreat
open Go.ChangeShapes Go.WideShapes Go.ChangeAt Go.RowKit Go.Joins
theorem Tryz.cellsSpot : Tryz.prog.cellsOf 65 = 2 := by kernel_rfl
theorem Tryz.cellsSeg : Tryz.prog.cellsOf 67 = 4 := by kernel_rfl
abbrev Wf (x : Int) : Prop := (Lit.int .i64 x).wf = true
abbrev SpD {H : Type} (x y : Int) : DataW H := .agg [.lit (.int .i64 x), .lit (.int .i64 y)]
theorem trod_spot {H : Type} {enc : TypeId × Value → H} {w : World} {base : Nat} {spare : TypeId → Bool} {held : Bool} {n : Nat} {c0 c1 : Value} {y : DataW H × List MemPlace} (h : DataW.trod enc Tryz.prog w base spare held n 65 [c0, c1] = some y) :
    ∃ a b : Int, c0 = .int .i64 a ∧ c1 = .int .i64 b ∧ y = (SpD a b, []) ∧ Wf a ∧ Wf b := by
  obtain ⟨y0, y1, m, hx, _, h0, h1⟩ := trod_struct2 Tryz.underlying65 h
  obtain ⟨a, e0, rfl, wa⟩ := DataW.trod_int Tryz.underlying2 h0
  obtain ⟨b, e1, rfl, wb⟩ := DataW.trod_int Tryz.underlying2 h1
  have k : Tryz.prog.cellsOf 2 = 1 := by kernel_rfl
  simp [k] at e0 e1
  exact ⟨a, b, e0, e1, hx, wa, wb⟩
end Go.Proofs.YtpmnmlhfaoajdaaGreat

/- How a row of segments reads as data. -/
namespace Go.Proofs.YtpmnmlhfaoajdaaGreat
open Go.ChangeShapes Go.WideShapes Go.ChangeAt Go.RowKit Go.Joins
theorem Tryz.laidOut : laidOutB Tryz.prog = true := by kernel_rfl
/-- The numbers of a row of segments, one behind the other. -/
def flat4 (q : Nat → Int × Int × Int × Int) (k : Nat) : Int := if k % 4 = 0 then (q (k / 4)).1 else if k % 4 = 1 then (q (k / 4)).2.1 else if k % 4 = 2 then (q (k / 4)).2.2.1 else (q (k / 4)).2.2.2
theorem segs_of {H : Type} {enc : TypeId × Value → H} {W : World} {a : Addr} {len m n : Nat} {D : Nat → DataW H} {Pl : Nat → List MemPlace} (hl : len ≤ m)
    (hx : ∀ i, i < m → ∃ cs', W.cells? 0 (a.add (i * Tryz.prog.cellsOf 67)) (Tryz.prog.cellsOf 67) = some cs' ∧ DataW.trod enc Tryz.prog W 0 (fun _ => true) true n 67 cs' = some (D i, Pl i))
    (hlt : ∀ x ∈ MemPlace.row a (m * Tryz.prog.cellsOf 67), x.block < W.heap.size) : ∃ x : Nat → Int, SegIn W (some a) len x := by
  rw [Tryz.cellsSeg] at hx hlt
  have each : ∀ i, i < m → ∃ q : Int × Int × Int × Int, W.cell? (a.add (i * 4)) = some (.int .i64 q.1) ∧ W.cell? (a.add (i * 4 + 1)) = some (.int .i64 q.2.1) ∧ W.cell? (a.add (i * 4 + 2)) = some (.int .i64 q.2.2.1) ∧ W.cell? (a.add (i * 4 + 3)) = some (.int .i64 q.2.2.2) := by
    intro i hi
    obtain ⟨cs', h1, h2⟩ := hx i hi
    obtain ⟨_, hlen, hcell⟩ := World.cells?_some h1
    match cs', hlen with
    | [v0, v1, v2, v3], _ =>
      have e0 := hcell 0 (by omega); have e1 := hcell 1 (by omega); have e2 := hcell 2 (by omega); have e3 := hcell 3 (by omega)
      rw [Go.Deep.add_add] at e0 e1 e2 e3
      obtain ⟨y0, y1, k, hy, _, g0, g1⟩ := trod_struct2 Tryz.underlying67 h2
      simp [Tryz.cellsSpot] at g0 g1
      obtain ⟨p, q, rfl, rfl, -, -, -⟩ := trod_spot g0
      obtain ⟨r, s, rfl, rfl, -, -, -⟩ := trod_spot g1
      exact ⟨(p, q, r, s), by simpa using e0, by simpa using e1, by simpa using e2, by simpa using e3⟩
  obtain ⟨q, hq⟩ := Go.Deep.choose_lt each
  obtain ⟨ab, ao, spot⟩ := a
  refine ⟨flat4 q, fun i hi => ?_⟩
  have hspot : spot = none := by simpa [Addr.add] using World.cell?_spot (hq 0 (by omega)).1
  subst hspot
  obtain ⟨c0, c1, c2, c3⟩ := hq i (by omega)
  rw [Addr.add_lit] at c0 c1 c2 c3
  refine ⟨ab, ao, rfl, hlt (.cell ab (ao + i * 4)) (by simp only [MemPlace.row, List.mem_map, List.mem_range]; exact ⟨i * 4, by omega, rfl⟩), fun j hj => ?_⟩
  unfold flat4
  have hd : (i * 4 + j) / 4 = i := by omega
  have hm : (i * 4 + j) % 4 = j := by omega
  rw [hd, hm]
  rcases (show j = 0 ∨ j = 1 ∨ j = 2 ∨ j = 3 by omega) with rfl | rfl | rfl | rfl
  · simpa using c0
  · simpa [Nat.add_assoc] using c1
  · simpa [Nat.add_assoc] using c2
  · simpa [Nat.add_assoc] using c3
end Go.Proofs.YtpmnmlhfaoajdaaGreat

/- Rows of spots, and rings of them: how they lie, copied, held against one another, counted. -/
namespace Go.Proofs.YtpmnmlhfaoajdaaGreat
open Go.RowKit
abbrev Ps := Nat → Int × Int
/-- n spots lie behind a slice's address. -/
def SpIn (w : World) (ao : Option Addr) (n : Nat) (p : Ps) : Prop :=
  ∀ i, i < n → ∃ A off, ao = some ⟨A, off, none⟩ ∧ A < w.heap.size ∧ w.cell? ⟨A, off + i * 2, none⟩ = some (.int .i64 (p i).1) ∧ w.cell? ⟨A, off + i * 2 + 1, none⟩ = some (.int .i64 (p i).2)
theorem SpIn.step {w w' : World} {ao : Option Addr} {n : Nat} {p : Ps} (h : SpIn w ao n p) (hB : Below w.heap.size w w') : SpIn w' ao n p := fun i hi => by
  obtain ⟨A, off, e, hA, h0, h1⟩ := h i hi
  exact ⟨A, off, e, Nat.lt_of_lt_of_le hA hB.size, (hB.cell (p := ⟨A, off + i * 2, none⟩) hA).trans h0, (hB.cell (p := ⟨A, off + i * 2 + 1, none⟩) hA).trans h1⟩
theorem SpIn.drew {w : World} {ao : Option Addr} {n : Nat} {p : Ps} (h : SpIn w ao n p) : SpIn w.drew ao n p := h
end Go.Proofs.YtpmnmlhfaoajdaaGreat

/- How a row of segments, and a row of spots, read as data. -/
namespace Go.Proofs.YtpmnmlhfaoajdaaGreat
open Go.ChangeShapes Go.WideShapes Go.ChangeAt Go.RowKit Go.Joins
set_option maxRecDepth 100000 in
theorem open_segs {H : Type} {enc : TypeId × Value → H} {W : World} {base : Nat} {v : Value} {d : DataW H} {pl : List MemPlace} (ok : Value.okWide Tryz.prog W .any base 22 v) (h : DataW.Trod enc Tryz.prog W 0 (fun _ => true) true 22 v d pl) (hlt : ∀ x ∈ pl, x.block < W.heap.size) :
    ∃ ao n cap p, v = .slice ao n cap ∧ n ≤ 9223372036854775807 ∧ SegIn W ao n p := by
  obtain ⟨a0, len, cap, rfl⟩ := okWide_slice Tryz.underlying22 ok
  obtain ⟨fuel, hf⟩ := h
  rcases Go.Deep.open_slice Tryz.underlying22 hf with ⟨hcs, -⟩ | ⟨a', len', cap', m', n', D', Pl', hcs, _, hl', hm', hz', hx', hel'⟩
  · simp [Value.cells] at hcs
    obtain ⟨rfl, rfl, rfl⟩ := hcs
    exact ⟨none, 0, 0, fun _ => 0, rfl, Nat.zero_le _, fun i hi => absurd hi (Nat.not_lt_zero _)⟩
  · simp [Value.cells] at hcs
    obtain ⟨rfl, rfl, rfl⟩ := hcs
    simp only [Prod.mk.injEq] at hx'
    obtain ⟨rfl, rfl⟩ := hx'
    simp only [if_true] at hz'
    obtain ⟨p, hp⟩ := segs_of (len := len) (by omega) hel' (fun y hy => hlt y (List.mem_append_left _ hy))
    exact ⟨some a', len, cap, p, rfl, by have := hm'; simp [maxLen] at this; omega, hp⟩
end Go.Proofs.YtpmnmlhfaoajdaaGreat

/- What the row of a law asks of the program as a whole, each by itself. -/
namespace Go.Proofs.YtpmnmlhfaoajdaaGreat
open Go.ChangeShapes Go.WideShapes Go.ChangeAt Go.RowKit Go.Joins
theorem jn_laid : laidOutB Tryz.pinned.checked.prog = true := by kernel_rfl
theorem jn_maps : mapsRowed Tryz.pinned.checked.prog = true := by kernel_rfl
theorem jn_enter : Tryz.pinned.checked.prog.mayEnter = true := by kernel_rfl
theorem jn_heard : Tryz.pinned.checked.prog.stopsHeard = true := by kernel_rfl
end Go.Proofs.YtpmnmlhfaoajdaaGreat
