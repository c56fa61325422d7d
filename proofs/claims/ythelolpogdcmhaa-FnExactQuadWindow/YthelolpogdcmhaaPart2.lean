/- Part 2 of the walks that the proof leans on. -/
import Derived.Test.YthelolpogdcmhaaPart1
import Derived.Deep.RegionHeld3
namespace Go.Proofs.Ythelolpogdcmhaa
open Go.RowKit
structure QD where
 m : Nat
 N : Nat
 I : Nat → Int
 S : Nat → Int × Int × Int × Int
 X : Nat → Int
 Y : Nat → Int
 Z : Nat → Int
 T : Nat → Bool
 L : Nat → Nat
 E : Nat → Nat → Int
def hitQ (Q : QD) (x y s : Int) (i : Nat) : Bool := hitB (Q.S i).1 (Q.S i).2.1 (Q.S i).2.2.1 (Q.S i).2.2.2 x y (x + s) (y + s)
def flQ (Q : QD) (l : List Nat) (x y s : Int) : List Nat := l.filter (hitQ Q x y s)
def idL (Q : QD) (l : List Nat) : List Int := l.map Q.I
def blL (Q : QD) (at_ : Nat) : List Int := (List.range (Q.L at_)).map (Q.E at_)
def leafB (Q : QD) (at_ : Nat) (x y s : Int) : Bool := decide (blL Q at_ = idL Q (flQ Q (List.range Q.m) x y s))
def baseB (Q : QD) (at_ : Nat) (x y s : Int) : Bool := decide (at_ < Q.N ∧ Q.X at_ = x ∧ Q.Y at_ = y ∧ Q.Z at_ = s)
def kX (x h : Int) (k : Nat) : Int := x + ((k % 2 : Nat) : Int) * h
def kY (y h : Int) (k : Nat) : Int := y + ((k / 2 : Nat) : Int) * h
def kp (f : Nat → Int → Int → Option Nat) (at_ : Nat) (x y h : Int) : Nat → Option Nat
 | 0 => some at_
 | k + 1 => (kp f at_ x y h k).bind fun a => f a (kX x h k) (kY y h k)
def qrd (Q : QD) : Nat → Nat → Int → Int → Int → Option Nat
 | 0, at_, x, y, s => if baseB Q at_ x y s = true ∧ Q.T at_ = false ∧ leafB Q at_ x y s = true then some (at_ + 1) else none
 | d + 1, at_, x, y, s => if baseB Q at_ x y s = true then (if Q.T at_ = true then (if Q.L at_ = 0 then kp (fun a x y => qrd Q d a x y (s / 2)) (at_ + 1) x y (s / 2) 4 else none) else if leafB Q at_ x y s = true then some (at_ + 1) else none) else none
def mrd (Q : QD) : Nat → Nat → Int → Int → Int → Option Nat
 | 0, at_, x, y, s => if baseB Q at_ x y s = true ∧ Q.T at_ = false then some (at_ + 1) else none
 | d + 1, at_, x, y, s => if baseB Q at_ x y s = true then (if Q.T at_ = true then (if Q.L at_ = 0 then kp (fun a x y => mrd Q d a x y (s / 2)) (at_ + 1) x y (s / 2) 4 else none) else some (at_ + 1)) else none
def rtB (Q : QD) : Nat → Nat → Int → Int → Int → Bool
 | 0, at_, x, y, s => leafB Q at_ x y s
 | d + 1, at_, x, y, s => if Q.T at_ = true then (List.range 4).all (fun k => match kp (fun a x y => mrd Q d a x y (s / 2)) (at_ + 1) x y (s / 2) k with | some a => rtB Q d a (kX x (s / 2) k) (kY y (s / 2) k) (s / 2) | none => true) else leafB Q at_ x y s
theorem kp_both {f g : Nat → Int → Int → Option Nat} {r : Nat → Int → Int → Bool} (h : ∀ a x y e, f a x y = some e ↔ g a x y = some e ∧ r a x y = true) (at_ : Nat) (x y s : Int) : ∀ k e, kp f at_ x y s k = some e ↔ kp g at_ x y s k = some e ∧ ∀ j, j < k → ∀ a, kp g at_ x y s j = some a → r a (kX x s j) (kY y s j) = true
 | 0, e => ⟨fun h0 => ⟨h0, fun j hj => absurd hj (by omega)⟩, fun h0 => h0.1⟩
 | k + 1, e => by
   show (kp f at_ x y s k).bind _ = some e ↔ (kp g at_ x y s k).bind _ = some e ∧ _
   simp only [Option.bind_eq_some_iff]
   constructor
   · rintro ⟨a, h1, h2⟩
     obtain ⟨h3, h4⟩ := (kp_both h at_ x y s k a).1 h1
     obtain ⟨h5, h6⟩ := (h _ _ _ _).1 h2
     refine ⟨⟨a, h3, h5⟩, fun j hj b hb => ?_⟩
     rcases Nat.lt_or_ge j k with hjk | hjk
     · exact h4 j hjk b hb
     · obtain rfl : j = k := by omega
       rw [h3] at hb
       cases hb
       exact h6
   · rintro ⟨⟨a, h1, h2⟩, h3⟩
     exact ⟨a, (kp_both h at_ x y s k a).2 ⟨h1, fun j hj => h3 j (by omega)⟩, (h _ _ _ _).2 ⟨h2, h3 k (by omega) a h1⟩⟩
theorem qrd_both (Q : QD) : ∀ d at_ x y s e, qrd Q d at_ x y s = some e ↔ mrd Q d at_ x y s = some e ∧ rtB Q d at_ x y s = true
 | 0, at_, x, y, s, e => by
   unfold qrd mrd rtB
   by_cases h1 : baseB Q at_ x y s = true ∧ Q.T at_ = false
   · rw [if_pos h1]
     by_cases h2 : leafB Q at_ x y s = true
     · rw [if_pos ⟨h1.1, h1.2, h2⟩]; simp [h2]
     · rw [if_neg (fun h => h2 h.2.2)]; simp [h2]
   · rw [if_neg h1, if_neg (fun h => h1 ⟨h.1, h.2.1⟩)]; simp
 | d + 1, at_, x, y, s, e => by
   unfold qrd mrd rtB
   by_cases h1 : baseB Q at_ x y s = true
   · rw [if_pos h1, if_pos h1]
     by_cases h2 : Q.T at_ = true
     · rw [if_pos h2, if_pos h2, if_pos h2]
       by_cases h3 : Q.L at_ = 0
       · rw [if_pos h3, if_pos h3, kp_both (g := fun a x y => mrd Q d a x y (s / 2)) (r := fun a x y => rtB Q d a x y (s / 2)) (fun a x y e => qrd_both Q d a x y (s / 2) e)]
         refine and_congr_right fun _ => ?_
         rw [List.all_eq_true]
         constructor
         · intro h k hk
           have hk := List.mem_range.1 hk
           split
           · rename_i a ha; exact h k hk a ha
           · rfl
         · intro h k hk a ha
           have := h k (List.mem_range.2 hk)
           rw [ha] at this
           exact this
       · rw [if_neg h3, if_neg h3]; simp
     · rw [if_neg h2, if_neg h2, if_neg h2]
       by_cases h3 : leafB Q at_ x y s = true
       · rw [if_pos h3]; simp [h3]
       · rw [if_neg h3]; simp [h3]
   · rw [if_neg h1, if_neg h1]; simp
theorem kid_in {x y s : Int} (hs : 0 ≤ s) {k : Nat} (hk : k < 4) : x ≤ kX x (s / 2) k ∧ y ≤ kY y (s / 2) k ∧ kX x (s / 2) k + s / 2 ≤ x + s ∧ kY y (s / 2) k + s / 2 ≤ y + s := by
 unfold kX kY
 rcases (show k = 0 ∨ k = 1 ∨ k = 2 ∨ k = 3 by omega) with h | h | h | h <;> subst h <;> simp <;> omega
theorem hit_kid {Q : QD} {x y s : Int} (hs : 0 ≤ s) {k : Nat} (hk : k < 4) {i : Nat} (h : hitQ Q (kX x (s / 2) k) (kY y (s / 2) k) (s / 2) i = true) : hitQ Q x y s i = true := by
 obtain ⟨h1, h2, h3, h4⟩ := kid_in (x := x) (y := y) hs hk
 exact hit_wider h1 h2 h3 h4 (by omega) (by omega) h
theorem fl_kid {Q : QD} {x y s : Int} (hs : 0 ≤ s) {k : Nat} (hk : k < 4) (l : List Nat) : flQ Q (flQ Q l x y s) (kX x (s / 2) k) (kY y (s / 2) k) (s / 2) = flQ Q l (kX x (s / 2) k) (kY y (s / 2) k) (s / 2) := by
 unfold flQ
 rw [List.filter_filter]
 congr 1
 funext i
 cases h : hitQ Q (kX x (s / 2) k) (kY y (s / 2) k) (s / 2) i
 · rfl
 · rw [hit_kid hs hk h]; rfl
theorem turn_at (a b c d P Q : Int) : turnSp a b c d P Q = (c - a) * (Q - b) - (d - b) * (P - a) := by
 unfold turnSp
 grind
theorem mul_le {p q r : Int} (hp : 0 ≤ p) (h : q ≤ r) : p * q ≤ p * r := Int.mul_le_mul_of_nonneg_left h hp
theorem mul_ge {p q r : Int} (hp : p ≤ 0) (h : q ≤ r) : p * r ≤ p * q := Int.mul_le_mul_of_nonpos_left hp h
theorem ends_up {a b c d x y u v : Int} (hac : a ≤ c) (hbd : b ≤ d) (hxu : x ≤ u) (hyv : y ≤ v) (h : hitB a b c d x y u v = true) : 0 ≤ turnSp a b c d x v ∧ turnSp a b c d u y ≤ 0 ∧ x ≤ c ∧ a ≤ u ∧ y ≤ d ∧ b ≤ v := by
 unfold hitB at h
 simp only [Bool.and_eq_true, Bool.not_eq_true', lefts4, rights4] at h
 obtain ⟨h1, h2, h3⟩ := h
 unfold boxOut at h1
 rw [decide_eq_false_iff_not] at h1
 have e1 := mul_le (p := c - a) (show 0 ≤ c - a by omega) (show y - b ≤ v - b by omega)
 have e2 := mul_le (p := d - b) (show 0 ≤ d - b by omega) (show x - a ≤ u - a by omega)
 simp only [turn_at] at h2 h3 ⊢
 refine ⟨?_, ?_, by omega, by omega, by omega, by omega⟩
 · rcases h2 with h2 | h2 | h2 | h2 <;> omega
 · rcases h3 with h3 | h3 | h3 | h3 <;> omega
theorem ends_down {a b c d x y u v : Int} (hac : a ≤ c) (hbd : d ≤ b) (hxu : x ≤ u) (hyv : y ≤ v) (h : hitB a b c d x y u v = true) : 0 ≤ turnSp a b c d u v ∧ turnSp a b c d x y ≤ 0 ∧ x ≤ c ∧ a ≤ u ∧ y ≤ b ∧ d ≤ v := by
 unfold hitB at h
 simp only [Bool.and_eq_true, Bool.not_eq_true', lefts4, rights4] at h
 obtain ⟨h1, h2, h3⟩ := h
 unfold boxOut at h1
 rw [decide_eq_false_iff_not] at h1
 have e1 := mul_le (p := c - a) (show 0 ≤ c - a by omega) (show y - b ≤ v - b by omega)
 have e2 := mul_ge (p := d - b) (show d - b ≤ 0 by omega) (show x - a ≤ u - a by omega)
 simp only [turn_at] at h2 h3 ⊢
 refine ⟨?_, ?_, by omega, by omega, by omega, by omega⟩
 · rcases h2 with h2 | h2 | h2 | h2 <;> omega
 · rcases h3 with h3 | h3 | h3 | h3 <;> omega
theorem hit_up {a b c d x y u v : Int} (h1 : 0 ≤ turnSp a b c d x v) (h2 : turnSp a b c d u y ≤ 0) (h3 : x ≤ c) (h4 : a ≤ u) (h5 : y ≤ d) (h6 : b ≤ v) : hitB a b c d x y u v = true := by
 unfold hitB
 simp only [Bool.and_eq_true, Bool.not_eq_true', lefts4, rights4]
 refine ⟨?_, ?_, ?_⟩
 · unfold boxOut
   rw [decide_eq_false_iff_not]
   omega
 · exact .inr (.inr (.inl h1))
 · exact .inr (.inr (.inr h2))
theorem hit_down {a b c d x y u v : Int} (h1 : 0 ≤ turnSp a b c d u v) (h2 : turnSp a b c d x y ≤ 0) (h3 : x ≤ c) (h4 : a ≤ u) (h5 : y ≤ b) (h6 : d ≤ v) : hitB a b c d x y u v = true := by
 unfold hitB
 simp only [Bool.and_eq_true, Bool.not_eq_true', lefts4, rights4]
 refine ⟨?_, ?_, ?_⟩
 · unfold boxOut
   rw [decide_eq_false_iff_not]
   omega
 · exact .inr (.inl h1)
 · exact .inl h2
theorem hit_partX {a b c d x y u v X : Int} (hac : a ≤ c) (h1 : x ≤ X) (h2 : X ≤ u) (hyv : y ≤ v) (h : hitB a b c d x y u v = true) : hitB a b c d x y X v = true ∨ hitB a b c d X y u v = true := by
 rcases Int.le_total b d with hq | hq
 · obtain ⟨t1, t2, k1, k2, k3, k4⟩ := ends_up hac hq (by omega) hyv h
   by_cases hl : turnSp a b c d X y ≤ 0 ∧ a ≤ X
   · exact .inl (hit_up t1 hl.1 k1 hl.2 k3 k4)
   · refine .inr ?_
     have e1 := mul_le (p := c - a) (show 0 ≤ c - a by omega) (show y - b ≤ v - b by omega)
     by_cases ha : a ≤ X
     · have hT : ¬ turnSp a b c d X y ≤ 0 := fun e => hl ⟨e, ha⟩
       refine hit_up ?_ t2 ?_ k2 k3 k4
       · simp only [turn_at] at hT ⊢; omega
       · apply Classical.byContradiction
         intro hc
         have e2 := mul_le (p := c - a) (show 0 ≤ c - a by omega) (show y - b ≤ d - b by omega)
         have e3 := mul_le (p := d - b) (show 0 ≤ d - b by omega) (show c - a ≤ X - a by omega)
         have e4 : (c - a) * (d - b) = (d - b) * (c - a) := Int.mul_comm _ _
         simp only [turn_at] at hT
         omega
     · refine hit_up ?_ t2 (by omega) k2 k3 k4
       have e2 := mul_nn (p := c - a) (q := v - b) (by omega) (by omega)
       have e3 := mul_np (p := d - b) (q := X - a) (by omega) (by omega)
       simp only [turn_at]
       omega
 · obtain ⟨t1, t2, k1, k2, k3, k4⟩ := ends_down hac hq (by omega) hyv h
   by_cases hl : 0 ≤ turnSp a b c d X v ∧ a ≤ X
   · exact .inl (hit_down hl.1 t2 k1 hl.2 k3 k4)
   · refine .inr ?_
     have e1 := mul_le (p := c - a) (show 0 ≤ c - a by omega) (show y - b ≤ v - b by omega)
     by_cases ha : a ≤ X
     · have hT : ¬ 0 ≤ turnSp a b c d X v := fun e => hl ⟨e, ha⟩
       refine hit_down t1 ?_ ?_ k2 k3 k4
       · simp only [turn_at] at hT ⊢; omega
       · apply Classical.byContradiction
         intro hc
         have e2 := mul_le (p := c - a) (show 0 ≤ c - a by omega) (show d - b ≤ v - b by omega)
         have e3 := mul_ge (p := d - b) (show d - b ≤ 0 by omega) (show c - a ≤ X - a by omega)
         have e4 : (c - a) * (d - b) = (d - b) * (c - a) := Int.mul_comm _ _
         simp only [turn_at] at hT
         omega
     · refine hit_down t1 ?_ (by omega) k2 k3 k4
       have e2 := mul_np (p := c - a) (q := y - b) (by omega) (by omega)
       have e3 := mul_pp (p := d - b) (q := X - a) (by omega) (by omega)
       simp only [turn_at]
       omega
theorem hit_partY {a b c d x y u v Y : Int} (hac : a ≤ c) (hxu : x ≤ u) (h1 : y ≤ Y) (h2 : Y ≤ v) (h : hitB a b c d x y u v = true) : hitB a b c d x y u Y = true ∨ hitB a b c d x Y u v = true := by
 rcases Int.le_total b d with hq | hq
 · obtain ⟨t1, t2, k1, k2, k3, k4⟩ := ends_up hac hq hxu (by omega) h
   by_cases hl : 0 ≤ turnSp a b c d x Y ∧ b ≤ Y
   · exact .inl (hit_up hl.1 t2 k1 k2 k3 hl.2)
   · refine .inr ?_
     have e1 := mul_le (p := d - b) (show 0 ≤ d - b by omega) (show x - a ≤ u - a by omega)
     by_cases hb : b ≤ Y
     · have hT : ¬ 0 ≤ turnSp a b c d x Y := fun e => hl ⟨e, hb⟩
       refine hit_up t1 ?_ k1 k2 ?_ k4
       · simp only [turn_at] at hT ⊢; omega
       · apply Classical.byContradiction
         intro hc
         have e2 := mul_le (p := c - a) (show 0 ≤ c - a by omega) (show d - b ≤ Y - b by omega)
         have e3 := mul_le (p := d - b) (show 0 ≤ d - b by omega) (show x - a ≤ c - a by omega)
         have e4 : (c - a) * (d - b) = (d - b) * (c - a) := Int.mul_comm _ _
         simp only [turn_at] at hT
         omega
     · refine hit_up t1 ?_ k1 k2 (by omega) k4
       have e2 := mul_np (p := c - a) (q := Y - b) (by omega) (by omega)
       have e3 := mul_nn (p := d - b) (q := u - a) (by omega) (by omega)
       simp only [turn_at]
       omega
 · obtain ⟨t1, t2, k1, k2, k3, k4⟩ := ends_down hac hq hxu (by omega) h
   by_cases hl : 0 ≤ turnSp a b c d u Y ∧ d ≤ Y
   · exact .inl (hit_down hl.1 t2 k1 k2 k3 hl.2)
   · refine .inr ?_
     have e1 := mul_ge (p := d - b) (show d - b ≤ 0 by omega) (show x - a ≤ u - a by omega)
     by_cases hd : d ≤ Y
     · have hT : ¬ 0 ≤ turnSp a b c d u Y := fun e => hl ⟨e, hd⟩
       refine hit_down t1 ?_ k1 k2 ?_ k4
       · simp only [turn_at] at hT ⊢; omega
       · apply Classical.byContradiction
         intro hc
         have e2 := mul_nn (p := c - a) (q := Y - b) (by omega) (by omega)
         have e3 := mul_pn (p := d - b) (q := u - a) (by omega) (by omega)
         simp only [turn_at] at hT
         omega
     · refine hit_down t1 ?_ k1 k2 (by omega) k4
       have e2 := mul_le (p := c - a) (show 0 ≤ c - a by omega) (show Y - b ≤ d - b by omega)
       have e3 := mul_ge (p := d - b) (show d - b ≤ 0 by omega) (show x - a ≤ c - a by omega)
       have e4 : (c - a) * (d - b) = (d - b) * (c - a) := Int.mul_comm _ _
       simp only [turn_at]
       omega
end Go.Proofs.Ythelolpogdcmhaa
namespace Go.Proofs.Ythelolpogdcmhaa
variable {P : Program} {ops : Array Oper} {Q : Exit → Act → World → Prop} {md : Region.Mode}
def open_ (l : Array Bool) : Nat := l.toList.countP (fun b => !b)
theorem open_set {l : Array Bool} {i : Nat} (h : l.getD i true = false) : open_ (l.setIfInBounds i true) + 1 = open_ l := by
 obtain ⟨xs⟩ := l
 have hi : i < xs.length := by
   rcases Nat.lt_or_ge i xs.length with h' | h'
   · exact h'
   · simp [Array.getD, Nat.not_lt.2 h'] at h
 have hv : xs[i] = false := by simpa [Array.getD, hi] using h
 have hp : 0 < xs.countP (fun b => !b) := List.countP_pos_iff.2 ⟨xs[i], List.getElem_mem hi, by simp [hv]⟩
 simp only [open_, List.setIfInBounds_toArray, List.countP_set hi, hv]
 simp
 omega
theorem wpAny_inv (J : Array Bool → Act → World → Prop) (hs : ∀ l a w i o, J l a w → l.getD i true = false → ops[i]? = some o → (∀ e ∈ o.after, Region.binds md e = true → l.getD e.on false = true) → wpOp P ops Q i (J (l.setIfInBounds i true)) a w)
   (hd : ∀ l a w, J l a w → Region.ready md ops l = [] → Q .normal a w) : ∀ (fuel : Nat) (l : Array Bool) (a : Act) (w : World), open_ l ≤ fuel → J l a w → wpAny P md ops Q fuel l a w := by
 intro fuel
 induction fuel with
 | zero =>
   intro l a w hf hJ
   have hr : Region.ready md ops l = [] := by
     rw [List.eq_nil_iff_forall_not_mem]
     intro i hi
     have := open_set (mem_ready.1 hi).1
     omega
   exact ⟨hr, hd l a w hJ hr⟩
 | succ fuel ih =>
   intro l a w hf hJ
   refine ⟨fun hr => hd l a w hJ hr, fun i hi => ?_⟩
   obtain ⟨h0, o, ho, hall⟩ := mem_ready.1 hi
   exact wpOp_mono (fun a' w' h' => ih _ a' w' (by have := open_set h0; omega) h') (hs l a w i o hJ h0 ho hall)
theorem wp_region_inv {id : Nat} {a : Act} {w : World} (hm : P.follows .mixedOrders = true) (J : Array Bool → Act → World → Prop)
   (h0 : J (Array.replicate ops.size false) a { w with drawn := w.drawn + 1 })
   (hs : ∀ l a w i o, J l a w → l.getD i true = false → ops[i]? = some o → (∀ e ∈ o.after, Region.binds .any e = true → l.getD e.on false = true) → wpOp P ops Q i (J (l.setIfInBounds i true)) a w)
   (hd : ∀ l a w, J l a w → Region.ready .any ops l = [] → Q .normal a w) : (Code.region id ops true).wp P Q a w :=
 wp_region_any hm (wpAny_inv J hs hd _ _ _ _ (by
   unfold open_
   refine Nat.le_trans List.countP_le_length ?_
   simp) h0)
def waits (md : Region.Mode) (ops : Array Oper) : List Nat → List Nat → Bool
 | _, [] => true
 | acc, i :: r => ((ops[i]?).map (fun o => o.after.all (fun e => !Region.binds md e || acc.contains e.on))).getD false && waits md ops (i :: acc) r
theorem listed_of {l : Array Bool} (hr : Region.ready md ops l = []) : ∀ (r acc : List Nat), (∀ k ∈ acc, l.getD k false = true) → waits md ops acc r = true → (∀ k ∈ r, k < l.size) → ∀ k ∈ r, l.getD k false = true
 | [], _, _, _, _ => fun k hk => by simp at hk
 | i :: r, acc, ha, hw, hz => by
   simp only [waits, Bool.and_eq_true] at hw
   obtain ⟨hw1, hw2⟩ := hw
   have hi : l.getD i false = true := by
     cases ho : ops[i]? with
     | none => rw [ho] at hw1; simp at hw1
     | some o =>
       rw [ho] at hw1
       have hall : ∀ e ∈ o.after, Region.binds md e = true → l.getD e.on false = true := fun e he hb => by
         have h2 : o.after.all (fun e => !Region.binds md e || acc.contains e.on) = true := by simpa using hw1
         rw [Array.all_eq_true'] at h2
         have h3 := h2 e he
         rw [hb] at h3
         exact ha _ (by simpa using h3)
       have hz' := hz i (by simp)
       by_cases hc : l.getD i true = false
       · have : i ∈ Region.ready md ops l := mem_ready.2 ⟨hc, o, ho, hall⟩
         rw [hr] at this
         simp at this
       · simpa [Array.getD, hz'] using hc
   intro k hk
   rcases List.mem_cons.1 hk with rfl | hk
   · exact hi
   · exact listed_of hr r (i :: acc) (fun k hk => by
       rcases List.mem_cons.1 hk with rfl | hk
       · exact hi
       · exact ha k hk) hw2 (fun k hk => hz k (by simp [hk])) k hk
theorem wpOp_of {i : Nat} {o : Oper} {a : Act} {w : World} {K : Act → World → Prop} (ho : ops[i]? = some o) (hg : o.guard = none) (h : o.wp P a w K Q) : wpOp P ops Q i K a w := by
 unfold wpOp
 simp only [ho]
 have hw : Region.wanted o (yielded ops a.tmps) = true := by unfold Region.wanted; rw [hg]
 rw [if_pos hw]
 exact .inl h
theorem tmps_fold : ∀ (D : List Nat) (t s : Array Value), t.size = s.size → (∀ d, d ∉ D → t[d]? = s[d]?) → t = D.foldl (fun u d => u.setIfInBounds d (t.getD d undef)) s
 | [], t, s, _, h => Array.ext_getElem? (fun d => h d (by simp))
 | d :: D, t, s, hz, h => by
   rw [List.foldl_cons]
   refine tmps_fold D t _ (by simpa using hz) (fun e he => ?_)
   by_cases hed : e = d
   · subst hed
     rcases Nat.lt_or_ge e t.size with h' | h'
     · simp [Array.getD, h', ← hz]
     · simp [← hz, h']
   · rw [Array.getElem?_setIfInBounds_ne (fun hh => hed hh.symm)]
     exact h e (by simp [hed, he])
theorem put_getD_ne {a : Act} {d e : Nat} {v : Value} (h : d ≠ e) : (a.put (some d) v).tmps.getD e undef = a.tmps.getD e undef := by
 simp [Act.put, Array.getD_eq_getD_getElem?, Array.getElem?_setIfInBounds_ne h]
theorem put_getD_same {a : Act} {d : Nat} {v : Value} (h : d < a.tmps.size) : (a.put (some d) v).tmps.getD d undef = v := by
 simp [Act.put, Array.getD_eq_getD_getElem?, h]
end Go.Proofs.Ythelolpogdcmhaa
namespace Go.Proofs.Ythelolpogdcmhaa
variable {P : Program} {ops : Array Oper} {Q : Exit → Act → World → Prop}
theorem yielded_of {j d : Nat} {o : Oper} {t : Array Value} {b : Bool} (ho : ops[j]? = some o) (hd : o.dst = some d) (ht : t.getD d undef = .bool b) : yielded ops t j = some b := by
 have h : t[d]? = some (.bool b) := by
   rcases Nat.lt_or_ge d t.size with h | h
   · simpa [Array.getD, h] using ht
   · simp [Array.getD, Nat.not_lt.2 h, undef] at ht
 unfold yielded
 rw [ho]
 simp only [Option.bind_some, hd]
 rw [h]
theorem wpOp_off {i k d : Nat} {b : Bool} {o ok : Oper} {a : Act} {w : World} {K : Act → World → Prop} (ho : ops[i]? = some o) (hg : o.guard = some (k, b)) (hk : ops[k]? = some ok) (hd : ok.dst = some d) (ht : a.tmps.getD d undef = .bool (!b)) (h : K (a.put o.dst undef) w) : wpOp P ops Q i K a w := by
 unfold wpOp
 simp only [ho]
 have hw : Region.wanted o (yielded ops a.tmps) = false := by
   unfold Region.wanted
   rw [hg]
   simp only [yielded_of hk hd ht]
   cases b <;> rfl
 rw [hw]
 exact h
theorem wpOp_on {i k d : Nat} {b : Bool} {o ok : Oper} {a : Act} {w : World} {K : Act → World → Prop} (ho : ops[i]? = some o) (hg : o.guard = some (k, b)) (hk : ops[k]? = some ok) (hd : ok.dst = some d) (ht : a.tmps.getD d undef = .bool b) (h : o.wp P a w K Q) : wpOp P ops Q i K a w := by
 unfold wpOp
 simp only [ho]
 have hw : Region.wanted o (yielded ops a.tmps) = true := by
   unfold Region.wanted
   rw [hg]
   simp only [yielded_of hk hd ht]
   cases b <;> rfl
 rw [if_pos hw]
 exact .inl h
end Go.Proofs.Ythelolpogdcmhaa
namespace Go.Proofs.Ythelolpogdcmhaa
open Go.RowKit
variable {P : Program} {ops : Array Oper}
def distS : List (Option Nat) → Bool
 | [] => true
 | none :: r => distS r
 | some d :: r => !(r.contains (some d)) && distS r
theorem distS_inj : ∀ (S : List (Option Nat)) (i j d : Nat), distS S = true → S[i]? = some (some d) → S[j]? = some (some d) → i = j
 | [], i, _, _, _, h, _ => by simp at h
 | o :: r, i, j, d, hd, hi, hj => by
   have hr : distS r = true := by
     cases o with
     | none => exact hd
     | some d' => simp only [distS, Bool.and_eq_true] at hd; exact hd.2
   have hno : ∀ k, o = some d → r[k]? = some (some d) → False := fun k ho hk => by
     subst ho
     simp only [distS, Bool.and_eq_true, Bool.not_eq_true'] at hd
     have hm : some d ∈ r := List.mem_of_getElem? hk
     rw [← List.contains_iff_mem, hd.1] at hm
     cases hm
   match i, j with
   | 0, 0 => rfl
   | 0, j + 1 => exact (hno j (by simpa using hi) (by simpa using hj)).elim
   | i + 1, 0 => exact (hno i (by simpa using hj) (by simpa using hi)).elim
   | i + 1, j + 1 => exact congrArg (· + 1) (distS_inj r i j d hr (by simpa using hi) (by simpa using hj))
def InvQ (B : Nat) (S : List (Option Nat)) (V : Nat → Value → World → Prop) (w0 : World) (a0 : Act) (l : Array Bool) (a : Act) (W : World) : Prop :=
 l.size = S.length ∧ a.tmps.size = a0.tmps.size ∧ a.defers = a0.defers ∧ (∀ e, some e ∉ S → a.tmps[e]? = a0.tmps[e]?) ∧ Below B w0 W ∧ (∀ j d, l.getD j false = true → S[j]? = some (some d) → V j (a.tmps.getD d undef) W) ∧ (∀ j, l.getD j false = true → S[j]? = some none → V j undef W)
theorem getD_set_q {l : Array Bool} {i j : Nat} (h : (l.setIfInBounds i true).getD j false = true) (hne : j ≠ i) : l.getD j false = true := by
 rw [getD_set_ne false (Ne.symm hne)] at h
 exact h
theorem InvQ.put {B : Nat} {S : List (Option Nat)} {V : Nat → Value → World → Prop} {w0 : World} {a0 : Act} {l : Array Bool} {a : Act} {W W' : World} (h : InvQ B S V w0 a0 l a W) (hS : distS S = true) (i d : Nat) (hi : S[i]? = some (some d)) (hlt : d < a0.tmps.size)
   (hW : Below B w0 W') (hT : ∀ j v, V j v W → V j v W') (v : Value) (hv : V i v W') : InvQ B S V w0 a0 (l.setIfInBounds i true) (a.put (some d) v) W' := by
 obtain ⟨h1, h2, h3, h4, h5, h6, h7⟩ := h
 refine ⟨by simpa using h1, by simpa [Act.put] using h2, h3, fun e he => ?_, hW, fun j d' hj hd' => ?_, fun j hj hn => ?_⟩
 · have hne : d ≠ e := fun hh => he (hh ▸ List.mem_of_getElem? hi)
   simp only [Act.put]
   rw [Array.getElem?_setIfInBounds_ne hne]
   exact h4 e he
 · by_cases hji : j = i
   · subst hji
     rw [hi] at hd'
     cases hd'
     rw [put_getD_same (by omega)]
     exact hv
   · have hne : d ≠ d' := fun hh => hji (distS_inj S j i d hS (hh ▸ hd') hi)
     rw [put_getD_ne hne]
     exact hT _ _ (h6 j d' (getD_set_q hj hji) hd')
 · have hji : j ≠ i := fun hh => by subst hh; rw [hi] at hn; cases hn
   exact hT _ _ (h7 j (getD_set_q hj hji) hn)
theorem InvQ.world {B : Nat} {S : List (Option Nat)} {V : Nat → Value → World → Prop} {w0 : World} {a0 : Act} {l : Array Bool} {a : Act} {W W' : World} (h : InvQ B S V w0 a0 l a W) (i : Nat) (hi : S[i]? = some none)
   (hW : Below B w0 W') (hT : ∀ j v, V j v W → V j v W') (hv : V i undef W') : InvQ B S V w0 a0 (l.setIfInBounds i true) a W' := by
 obtain ⟨h1, h2, h3, h4, h5, h6, h7⟩ := h
 refine ⟨by simpa using h1, h2, h3, h4, hW, fun j d hj hd => ?_, fun j hj hn => ?_⟩
 · have hji : j ≠ i := fun hh => by subst hh; rw [hi] at hd; cases hd
   exact hT _ _ (h6 j d (getD_set_q hj hji) hd)
 · by_cases hji : j = i
   · subst hji; exact hv
   · exact hT _ _ (h7 j (getD_set_q hj hji) hn)
theorem wp_region_q {Q : Exit → Act → World → Prop} {id : Nat} {a0 : Act} {w0 : World} (hm : P.follows .mixedOrders = true) (B : Nat) (S : List (Option Nat)) (V : Nat → Value → World → Prop) (hSz : ops.size = S.length)
   (hs : ∀ (Q : Exit → Act → World → Prop) l a W i o, InvQ B S V w0 a0 l a W → l.getD i true = false → ops[i]? = some o → (∀ e ∈ o.after, Region.binds .any e = true → l.getD e.on false = true) → wpOp P ops Q i (InvQ B S V w0 a0 (l.setIfInBounds i true)) a W)
   (hd : ∀ l a W, InvQ B S V w0 a0 l a W → Region.ready .any ops l = [] → Q .normal a W) : (Code.region id ops true).wp P Q a0 w0 := by
 refine wp_region_inv hm (InvQ B S V w0 a0) ⟨by simpa using hSz, rfl, rfl, fun _ _ => rfl, (Below.refl _ w0).drew, fun j d hj => ?_, fun j hj => ?_⟩ (hs Q) hd
 all_goals
   exfalso
   rw [Array.getD_eq_getD_getElem?, Array.getElem?_replicate] at hj
   split at hj <;> simp at hj
end Go.Proofs.Ythelolpogdcmhaa
namespace Go.Proofs.Ythelolpogdcmhaa
open Go.RowKit
theorem getD_tf {l : Array Bool} {i : Nat} (h : l.getD i true = false) : l.getD i false = false := by
 rw [Array.getD_eq_getD_getElem?] at *
 cases hh : l[i]? with
 | none => rw [hh] at h; cases h
 | some b => rw [hh] at h; exact h
theorem getD_set_neq {l : Array Bool} {i j : Nat} (h : i ≠ j) : (l.setIfInBounds i true).getD j false = l.getD j false := by
 simp [Array.getD_eq_getD_getElem?, Array.getElem?_setIfInBounds_ne h]
theorem getD_set_eq {l : Array Bool} {i : Nat} (h : l.getD i true = false) : (l.setIfInBounds i true).getD i false = true := by
 rw [Array.getD_eq_getD_getElem?] at *
 cases hh : l[i]? with
 | none => rw [hh] at h; cases h
 | some b => simp [(Array.getElem?_eq_some_iff.1 hh).1]
theorem ownA_step {w w' : World} {base n : Nat} {e : TypeId} {size : Nat} {v : Value} {xs : List Value} (h : w.ownsRow base e size v n xs) (hB : Below w.heap.size w w') : w'.ownsRow base e size v n xs := by
 rcases h with ⟨h0, h1 | ⟨g, cap, cur, h1, h2, h3, h4⟩⟩
 · exact ⟨h0, .inl h1⟩
 · refine ⟨h0, .inr ⟨g, cap, cur, h1, h2, ?_, h4⟩⟩
   rw [hB.block g (Array.getElem?_eq_some_iff.1 h3).1]
   exact h3
theorem replD (n j : Nat) : (Array.replicate n false).getD j false = false := by
 rw [Array.getD_eq_getD_getElem?, Array.getElem?_replicate]
 split <;> rfl
end Go.Proofs.Ythelolpogdcmhaa
namespace Go.Proofs.Ythelolpogdcmhaa
variable {P : Program} {ops : Array Oper} {Q : Exit → Act → World → Prop}
theorem yielded_un {j d : Nat} {o : Oper} {t : Array Value} (ho : ops[j]? = some o) (hd : o.dst = some d) (ht : t.getD d undef = undef) : yielded ops t j = none := by
 unfold yielded
 rw [ho]
 simp only [Option.bind_some, hd]
 rcases Nat.lt_or_ge d t.size with h | h
 · have h2 : t[d]? = some undef := by simpa [Array.getD, h] using ht
   rw [h2]
   rfl
 · have h2 : t[d]? = none := by simp [h]
   rw [h2]
theorem wpOp_offu {i k d : Nat} {b : Bool} {o ok : Oper} {a : Act} {w : World} {K : Act → World → Prop} (ho : ops[i]? = some o) (hg : o.guard = some (k, b)) (hk : ops[k]? = some ok) (hd : ok.dst = some d) (ht : a.tmps.getD d undef = undef) (h : K (a.put o.dst undef) w) : wpOp P ops Q i K a w := by
 unfold wpOp
 simp only [ho]
 have hw : Region.wanted o (yielded ops a.tmps) = false := by
   unfold Region.wanted
   rw [hg]
   simp only [yielded_un hk hd ht]
   cases b <;> rfl
 rw [hw]
 exact h
end Go.Proofs.Ythelolpogdcmhaa
namespace Go.Proofs.Ythelolpogdcmhaa
open Go.RowKit
def StV (n iz A : Nat) (os : List Value) (G D : World → Prop) (lz : Array Bool) (W : World) : Prop :=
 (lz.getD iz false = true → ∀ j, j < n → lz.getD j false = true) ∧ (lz.getD iz false = false → Blk W A os ∧ G W) ∧ (lz.getD iz false = true → D W)
theorem StV.start {n m iz A : Nat} {os : List Value} {G D : World → Prop} {W : World} (h : Blk W A os ∧ G W) : StV n iz A os G D (Array.replicate m false) W :=
 ⟨(fun h => by rw [replD] at h; cases h), fun _ => h, (fun h => by rw [replD] at h; cases h)⟩
theorem StV.off {n iz A : Nat} {os : List Value} {G D : World → Prop} {lz : Array Bool} {W : World} (h : StV n iz A os G D lz W) {i : Nat} (hi : i < n) (hl : lz.getD i true = false) : lz.getD iz false = false := by
 cases hh : lz.getD iz false with
 | false => rfl
 | true => have := h.1 hh i hi; rw [getD_tf hl] at this; cases this
theorem StV.quiet {n iz A : Nat} {os : List Value} {G D : World → Prop} {lz : Array Bool} {W W2 : World} (h : StV n iz A os G D lz W) (i : Nat) (hi : i < n) (hl : lz.getD i true = false) (h3 : i ≠ iz) (hw : Blk W A os → G W → Blk W2 A os ∧ G W2) : StV n iz A os G D (lz.setIfInBounds i true) W2 := by
 have hz := h.off hi hl
 obtain ⟨a1, a2, a3⟩ := h
 unfold StV
 rw [getD_set_neq h3]
 exact ⟨(fun h => by rw [hz] at h; cases h), fun h => hw (a2 h).1 (a2 h).2, (fun h => by rw [hz] at h; cases h)⟩
theorem StV.stored {n iz A : Nat} {os : List Value} {G D : World → Prop} {lz : Array Bool} {W2 : World} (hl : lz.getD iz true = false) (hall : ∀ j, j < n → j ≠ iz → lz.getD j false = true) (hD : D W2) : StV n iz A os G D (lz.setIfInBounds iz true) W2 := by
 unfold StV
 rw [getD_set_eq hl]
 refine ⟨fun _ j hj => ?_, (fun h => by cases h), fun _ => hD⟩
 by_cases hji : j = iz
 · subst hji; exact getD_set_eq hl
 · rw [getD_set_neq (Ne.symm hji)]; exact hall j hj hji
def VqdH (_R g : Nat) (x y s : Int) (_B : Nat) : Nat → Value → World → Prop
 | 0, v, _ => v = .pointer (some ⟨g, 0, none⟩)
 | 1, v, _ => v = .pointer (some ⟨g, 0, none⟩)
 | 2, v, _ => v = .pointer (some ⟨g, 0, none⟩)
 | 3, v, _ => v = .pointer (some ⟨g, 0, none⟩)
 | 4, v, _ => v = .int .i64 x
 | 5, v, _ => v = .pointer (some ⟨g, 0, none⟩)
 | 6, v, _ => v = .pointer (some ⟨g, 0, none⟩)
 | 7, v, _ => v = .pointer (some ⟨g, 2, none⟩)
 | 8, v, _ => v = .int .i64 s
 | 9, v, _ => v = .int .i64 (x + s)
 | 10, v, _ => v = .pointer (some ⟨g, 0, none⟩)
 | 11, v, _ => v = .pointer (some ⟨g, 0, none⟩)
 | 12, v, _ => v = .pointer (some ⟨g, 0, none⟩)
 | 13, v, _ => v = .pointer (some ⟨g, 1, none⟩)
 | 14, v, _ => v = .int .i64 y
 | 15, v, _ => v = .pointer (some ⟨g, 0, none⟩)
 | 16, v, _ => v = .pointer (some ⟨g, 0, none⟩)
 | 17, v, _ => v = .pointer (some ⟨g, 2, none⟩)
 | 18, v, _ => v = .int .i64 s
 | 19, v, _ => v = .int .i64 (y + s)
 | 20, v, _ => v = .agg #[.int .i64 (x + s), .int .i64 (y + s)]
 | _, _, _ => True
theorem VqdH.same {R g : Nat} {x y s : Int} {B j : Nat} {v : Value} {W W2 : World} (h : VqdH R g x y s B j v W) : VqdH R g x y s B j v W2 := by
 unfold VqdH at *
 split <;> simp only at h <;> first | exact h | trivial
def SqdH (R _g : Nat) (x y s : Int) (lz : Array Bool) (_az : Act) (W : World) : Prop := StV 22 21 R [.int .i64 0, .int .i64 0] (fun _ => True) (fun W => Blk W R [.int .i64 (x + s), .int .i64 (y + s)]) lz W
def JqdH (R g : Nat) (x y s : Int) (w0 : World) (a0 : Act) (lz : Array Bool) (az : Act) (W : World) : Prop := InvQ (R) [some 3, some 4, some 5, some 6, some 7, some 8, some 9, some 10, some 11, some 12, some 13, some 14, some 15, some 16, some 17, some 18, some 19, some 20, some 21, some 22, some 23, none] (VqdH R g x y s (R)) w0 a0 lz az W ∧ SqdH R g x y s lz az W
set_option maxRecDepth 100000 in
set_option maxHeartbeats 4000000 in
theorem qdH {Q : Exit → Act → World → Prop} {R g : Nat} {x y s : Int}  {w0 : World} {a0 : Act} {idq : Nat} {t0 t1 t2 t3 t4 t5 t6 t7 t8 t9 t10 t11 t12 t13 t14 t15 t16 t17 t18 t19 t20 t21 : TypeId} {q0 q1 q2 q3 q4 q5 q6 q7 q8 q9 q10 q11 q12 q13 q14 q15 q16 q17 q18 q19 q20 q21 : String}
   (hx1 : -1048576 ≤ x) (hx2 : x ≤ 1048576) (hy1 : -1048576 ≤ y) (hy2 : y ≤ 1048576) (hs1 : 0 ≤ s) (hs2 : s ≤ 2097152) (s0 : Blk w0.drew R [.int .i64 0, .int .i64 0]) (h0 : a0.tmps[0]? = some (.pointer (some ⟨g, 0, none⟩))) (h2 : a0.tmps[2]? = some (.pointer (some ⟨R, 0, none⟩))) (k0 : w0.cell? ⟨g, 0, none⟩ = some (.int .i64 x)) (l0 : (⟨g, 0, none⟩ : Addr).block < R) (k1 : w0.cell? ⟨g, 1, none⟩ = some (.int .i64 y)) (l1 : (⟨g, 1, none⟩ : Addr).block < R) (k2 : w0.cell? ⟨g, 2, none⟩ = some (.int .i64 s)) (l2 : (⟨g, 2, none⟩ : Addr).block < R) (hz : a0.tmps.size = 24)
   (hQ : ∀ aq W, aq.tmps.size = a0.tmps.size → aq.defers = a0.defers → (∀ e, e ∉ ([3, 4, 5, 6, 7, 8, 9, 10, 11, 12, 13, 14, 15, 16, 17, 18, 19, 20, 21, 22, 23] : List Nat) → aq.tmps[e]? = a0.tmps[e]?) → VqdH R g x y s (R) 21 undef W → Below (R) w0 W → (Blk W R [.int .i64 (x + s), .int .i64 (y + s)]) → Q .normal aq W) :
   (Code.region idq #[{ dst := some 3, op := Op.move (Operand.tmp 0), type := t0, pos := q0, after := #[], guard := none },
   { dst := some 4, op := Op.nilCheck (Operand.tmp 3), type := t1, pos := q1, after := #[{ on := 0, ground := Ground.data }], guard := none },
   { dst := some 5, op := Op.fieldAddr 99 (Operand.tmp 4) 0, type := t2, pos := q2, after := #[{ on := 1, ground := Ground.data }], guard := none },
   { dst := some 6, op := Op.fieldAddr 37 (Operand.tmp 5) 0, type := t3, pos := q3, after := #[{ on := 2, ground := Ground.data }], guard := none },
   { dst := some 7, op := Op.load 2 (Operand.tmp 6), type := t4, pos := q4, after := #[{ on := 3, ground := Ground.data }], guard := none },
   { dst := some 8, op := Op.move (Operand.tmp 0), type := t5, pos := q5, after := #[], guard := none },
   { dst := some 9, op := Op.nilCheck (Operand.tmp 8), type := t6, pos := q6, after := #[{ on := 5, ground := Ground.data }], guard := none },
   { dst := some 10, op := Op.fieldAddr 99 (Operand.tmp 9) 1, type := t7, pos := q7, after := #[{ on := 6, ground := Ground.data }], guard := none },
   { dst := some 11, op := Op.load 2 (Operand.tmp 10), type := t8, pos := q8, after := #[{ on := 7, ground := Ground.data }], guard := none },
   { dst := some 12, op := Op.binOp BinOp.add 2 (Operand.tmp 7) (Operand.tmp 11) 2, type := t9, pos := q9, after := #[{ on := 4, ground := Ground.data }, { on := 8, ground := Ground.data }], guard := none },
   { dst := some 13, op := Op.move (Operand.tmp 0), type := t10, pos := q10, after := #[], guard := none },
   { dst := some 14, op := Op.nilCheck (Operand.tmp 13), type := t11, pos := q11, after := #[{ on := 10, ground := Ground.data }], guard := none },
   { dst := some 15, op := Op.fieldAddr 99 (Operand.tmp 14) 0, type := t12, pos := q12, after := #[{ on := 11, ground := Ground.data }], guard := none },
   { dst := some 16, op := Op.fieldAddr 37 (Operand.tmp 15) 1, type := t13, pos := q13, after := #[{ on := 12, ground := Ground.data }], guard := none },
   { dst := some 17, op := Op.load 2 (Operand.tmp 16), type := t14, pos := q14, after := #[{ on := 13, ground := Ground.data }], guard := none },
   { dst := some 18, op := Op.move (Operand.tmp 0), type := t15, pos := q15, after := #[], guard := none },
   { dst := some 19, op := Op.nilCheck (Operand.tmp 18), type := t16, pos := q16, after := #[{ on := 15, ground := Ground.data }], guard := none },
   { dst := some 20, op := Op.fieldAddr 99 (Operand.tmp 19) 1, type := t17, pos := q17, after := #[{ on := 16, ground := Ground.data }], guard := none },
   { dst := some 21, op := Op.load 2 (Operand.tmp 20), type := t18, pos := q18, after := #[{ on := 17, ground := Ground.data }], guard := none },
   { dst := some 22, op := Op.binOp BinOp.add 2 (Operand.tmp 17) (Operand.tmp 21) 2, type := t19, pos := q19, after := #[{ on := 14, ground := Ground.data }, { on := 18, ground := Ground.data }], guard := none },
   { dst := some 23, op := Op.build 37 #[(0, Operand.tmp 12), (1, Operand.tmp 22)], type := t20, pos := q20, after := #[{ on := 9, ground := Ground.data }, { on := 19, ground := Ground.data }], guard := none },
   { dst := none, op := Op.store 37 (Operand.tmp 2) (Operand.tmp 23), type := t21, pos := q21, after := #[{ on := 20, ground := Ground.data }, { on := 0, ground := Ground.phase }, { on := 1, ground := Ground.phase }, { on := 2, ground := Ground.phase }, { on := 3, ground := Ground.phase }, { on := 4, ground := Ground.phase }, { on := 5, ground := Ground.phase }, { on := 6, ground := Ground.phase }, { on := 7, ground := Ground.phase }, { on := 8, ground := Ground.phase }, { on := 9, ground := Ground.phase }, { on := 10, ground := Ground.phase }, { on := 11, ground := Ground.phase }, { on := 12, ground := Ground.phase }, { on := 13, ground := Ground.phase }, { on := 14, ground := Ground.phase }, { on := 15, ground := Ground.phase }, { on := 16, ground := Ground.phase }, { on := 17, ground := Ground.phase }, { on := 18, ground := Ground.phase }, { on := 19, ground := Ground.phase }, { on := 20, ground := Ground.phase }], guard := none }] true).wp Try.prog Q a0 w0 := by
 have hS : distS [some 3, some 4, some 5, some 6, some 7, some 8, some 9, some 10, some 11, some 12, some 13, some 14, some 15, some 16, some 17, some 18, some 19, some 20, some 21, some 22, some 23, none] = true := rfl
 refine wp_region_inv (by kernel_rfl) (JqdH R g x y s w0 a0) ⟨⟨rfl, rfl, rfl, fun _ _ => rfl, (Below.refl _ w0).drew, fun j d hj => ?_, fun j hj => ?_⟩, StV.start ⟨s0, trivial⟩⟩ ?_ ?_
 · exfalso
   rw [Array.getD_eq_getD_getElem?, Array.getElem?_replicate] at hj
   split at hj <;> simp at hj
 · exfalso
   rw [Array.getD_eq_getD_getElem?, Array.getElem?_replicate] at hj
   split at hj <;> simp at hj
 · intro lq aq W iq oq ⟨hJ, hs⟩ hl ho hall
   have hJ2 := hJ
   obtain ⟨z1, z2, z3, z4, z5, z6, z7⟩ := hJ
   have g0 : aq.tmps.getD 0 undef = .pointer (some ⟨g, 0, none⟩) := by rw [Array.getD_eq_getD_getElem?, z4 0 (by decide), h0]; rfl
   have g2 : aq.tmps.getD 2 undef = .pointer (some ⟨R, 0, none⟩) := by rw [Array.getD_eq_getD_getElem?, z4 2 (by decide), h2]; rfl
   have c0 : W.cell? ⟨g, 0, none⟩ = some (.int .i64 x) := (z5.cell l0).trans k0
   have c1 : W.cell? ⟨g, 1, none⟩ = some (.int .i64 y) := (z5.cell l1).trans k1
   have c2 : W.cell? ⟨g, 2, none⟩ = some (.int .i64 s) := (z5.cell l2).trans k2
   match iq, ho with
   | 0, ho =>
     cases ho
     refine wpOp_of rfl rfl ?_
     have hq := fun (W2 : World) => hs.quiet (W2 := W2) 0 (by decide) hl (by decide)
     have hK := fun (v : Value) (W2 : World) hW hT hv (hs : SqdH R g x y s (lq.setIfInBounds 0 true) (aq.put (some 3) v) W2) => show (JqdH R g x y s w0 a0) (lq.setIfInBounds 0 true) (aq.put (some 3) v) W2 from ⟨hJ2.put hS 0 3 rfl (by omega) (W' := W2) hW hT v hv, hs⟩
     clear ho hall hl hQ
     generalize (JqdH R g x y s w0 a0) (lq.setIfInBounds 0 true) = K at hK ⊢
     clear hJ2 hS z1 z2 z3 z4 z6 z7
     go_simp
     exact hK _ _ z5 (fun _ _ h => h) rfl (hq _ (fun a b => ⟨a, b⟩))
   | 1, ho =>
     cases ho
     refine wpOp_of rfl rfl ?_
     have f0 : (aq.tmps.getD 3 undef) = .pointer (some ⟨g, 0, none⟩) := z6 0 3 (hall { on := 0, ground := Ground.data } (by simp) rfl) rfl
     have hq := fun (W2 : World) => hs.quiet (W2 := W2) 1 (by decide) hl (by decide)
     have hK := fun (v : Value) (W2 : World) hW hT hv (hs : SqdH R g x y s (lq.setIfInBounds 1 true) (aq.put (some 4) v) W2) => show (JqdH R g x y s w0 a0) (lq.setIfInBounds 1 true) (aq.put (some 4) v) W2 from ⟨hJ2.put hS 1 4 rfl (by omega) (W' := W2) hW hT v hv, hs⟩
     clear ho hall hl hQ
     generalize (JqdH R g x y s w0 a0) (lq.setIfInBounds 1 true) = K at hK ⊢
     clear hJ2 hS z1 z2 z3 z4 z6 z7
     go_simp
     exact hK _ _ z5 (fun _ _ h => h) rfl (hq _ (fun a b => ⟨a, b⟩))
   | 2, ho =>
     cases ho
     refine wpOp_of rfl rfl ?_
     have f1 : (aq.tmps.getD 4 undef) = .pointer (some ⟨g, 0, none⟩) := z6 1 4 (hall { on := 1, ground := Ground.data } (by simp) rfl) rfl
     have hq := fun (W2 : World) => hs.quiet (W2 := W2) 2 (by decide) hl (by decide)
     have hK := fun (v : Value) (W2 : World) hW hT hv (hs : SqdH R g x y s (lq.setIfInBounds 2 true) (aq.put (some 5) v) W2) => show (JqdH R g x y s w0 a0) (lq.setIfInBounds 2 true) (aq.put (some 5) v) W2 from ⟨hJ2.put hS 2 5 rfl (by omega) (W' := W2) hW hT v hv, hs⟩
     clear ho hall hl hQ
     generalize (JqdH R g x y s w0 a0) (lq.setIfInBounds 2 true) = K at hK ⊢
     clear hJ2 hS z1 z2 z3 z4 z6 z7
     go_simp
     exact hK _ _ z5 (fun _ _ h => h) rfl (hq _ (fun a b => ⟨a, b⟩))
   | 3, ho =>
     cases ho
     refine wpOp_of rfl rfl ?_
     have f2 : (aq.tmps.getD 5 undef) = .pointer (some ⟨g, 0, none⟩) := z6 2 5 (hall { on := 2, ground := Ground.data } (by simp) rfl) rfl
     have hq := fun (W2 : World) => hs.quiet (W2 := W2) 3 (by decide) hl (by decide)
     have hK := fun (v : Value) (W2 : World) hW hT hv (hs : SqdH R g x y s (lq.setIfInBounds 3 true) (aq.put (some 6) v) W2) => show (JqdH R g x y s w0 a0) (lq.setIfInBounds 3 true) (aq.put (some 6) v) W2 from ⟨hJ2.put hS 3 6 rfl (by omega) (W' := W2) hW hT v hv, hs⟩
     clear ho hall hl hQ
     generalize (JqdH R g x y s w0 a0) (lq.setIfInBounds 3 true) = K at hK ⊢
     clear hJ2 hS z1 z2 z3 z4 z6 z7
     go_simp
     exact hK _ _ z5 (fun _ _ h => h) rfl (hq _ (fun a b => ⟨a, b⟩))
   | 4, ho =>
     cases ho
     refine wpOp_of rfl rfl ?_
     have f3 : (aq.tmps.getD 6 undef) = .pointer (some ⟨g, 0, none⟩) := z6 3 6 (hall { on := 3, ground := Ground.data } (by simp) rfl) rfl
     have hq := fun (W2 : World) => hs.quiet (W2 := W2) 4 (by decide) hl (by decide)
     have hK := fun (v : Value) (W2 : World) hW hT hv (hs : SqdH R g x y s (lq.setIfInBounds 4 true) (aq.put (some 7) v) W2) => show (JqdH R g x y s w0 a0) (lq.setIfInBounds 4 true) (aq.put (some 7) v) W2 from ⟨hJ2.put hS 4 7 rfl (by omega) (W' := W2) hW hT v hv, hs⟩
     clear ho hall hl hQ
     generalize (JqdH R g x y s w0 a0) (lq.setIfInBounds 4 true) = K at hK ⊢
     clear hJ2 hS z1 z2 z3 z4 z6 z7
     go_simp
     exact hK _ _ z5 (fun _ _ h => h) rfl (hq _ (fun a b => ⟨a, b⟩))
   | 5, ho =>
     cases ho
     refine wpOp_of rfl rfl ?_
     have hq := fun (W2 : World) => hs.quiet (W2 := W2) 5 (by decide) hl (by decide)
     have hK := fun (v : Value) (W2 : World) hW hT hv (hs : SqdH R g x y s (lq.setIfInBounds 5 true) (aq.put (some 8) v) W2) => show (JqdH R g x y s w0 a0) (lq.setIfInBounds 5 true) (aq.put (some 8) v) W2 from ⟨hJ2.put hS 5 8 rfl (by omega) (W' := W2) hW hT v hv, hs⟩
     clear ho hall hl hQ
     generalize (JqdH R g x y s w0 a0) (lq.setIfInBounds 5 true) = K at hK ⊢
     clear hJ2 hS z1 z2 z3 z4 z6 z7
     go_simp
     exact hK _ _ z5 (fun _ _ h => h) rfl (hq _ (fun a b => ⟨a, b⟩))
   | 6, ho =>
     cases ho
     refine wpOp_of rfl rfl ?_
     have f5 : (aq.tmps.getD 8 undef) = .pointer (some ⟨g, 0, none⟩) := z6 5 8 (hall { on := 5, ground := Ground.data } (by simp) rfl) rfl
     have hq := fun (W2 : World) => hs.quiet (W2 := W2) 6 (by decide) hl (by decide)
     have hK := fun (v : Value) (W2 : World) hW hT hv (hs : SqdH R g x y s (lq.setIfInBounds 6 true) (aq.put (some 9) v) W2) => show (JqdH R g x y s w0 a0) (lq.setIfInBounds 6 true) (aq.put (some 9) v) W2 from ⟨hJ2.put hS 6 9 rfl (by omega) (W' := W2) hW hT v hv, hs⟩
     clear ho hall hl hQ
     generalize (JqdH R g x y s w0 a0) (lq.setIfInBounds 6 true) = K at hK ⊢
     clear hJ2 hS z1 z2 z3 z4 z6 z7
     go_simp
     exact hK _ _ z5 (fun _ _ h => h) rfl (hq _ (fun a b => ⟨a, b⟩))
   | 7, ho =>
     cases ho
     refine wpOp_of rfl rfl ?_
     have f6 : (aq.tmps.getD 9 undef) = .pointer (some ⟨g, 0, none⟩) := z6 6 9 (hall { on := 6, ground := Ground.data } (by simp) rfl) rfl
     have hq := fun (W2 : World) => hs.quiet (W2 := W2) 7 (by decide) hl (by decide)
     have hK := fun (v : Value) (W2 : World) hW hT hv (hs : SqdH R g x y s (lq.setIfInBounds 7 true) (aq.put (some 10) v) W2) => show (JqdH R g x y s w0 a0) (lq.setIfInBounds 7 true) (aq.put (some 10) v) W2 from ⟨hJ2.put hS 7 10 rfl (by omega) (W' := W2) hW hT v hv, hs⟩
     clear ho hall hl hQ
     generalize (JqdH R g x y s w0 a0) (lq.setIfInBounds 7 true) = K at hK ⊢
     clear hJ2 hS z1 z2 z3 z4 z6 z7
     go_simp
     exact hK _ _ z5 (fun _ _ h => h) rfl (hq _ (fun a b => ⟨a, b⟩))
   | 8, ho =>
     cases ho
     refine wpOp_of rfl rfl ?_
     have f7 : (aq.tmps.getD 10 undef) = .pointer (some ⟨g, 2, none⟩) := z6 7 10 (hall { on := 7, ground := Ground.data } (by simp) rfl) rfl
     have hq := fun (W2 : World) => hs.quiet (W2 := W2) 8 (by decide) hl (by decide)
     have hK := fun (v : Value) (W2 : World) hW hT hv (hs : SqdH R g x y s (lq.setIfInBounds 8 true) (aq.put (some 11) v) W2) => show (JqdH R g x y s w0 a0) (lq.setIfInBounds 8 true) (aq.put (some 11) v) W2 from ⟨hJ2.put hS 8 11 rfl (by omega) (W' := W2) hW hT v hv, hs⟩
     clear ho hall hl hQ
     generalize (JqdH R g x y s w0 a0) (lq.setIfInBounds 8 true) = K at hK ⊢
     clear hJ2 hS z1 z2 z3 z4 z6 z7
     go_simp
     exact hK _ _ z5 (fun _ _ h => h) rfl (hq _ (fun a b => ⟨a, b⟩))
   | 9, ho =>
     cases ho
     refine wpOp_of rfl rfl ?_
     have f4 : (aq.tmps.getD 7 undef) = .int .i64 x := z6 4 7 (hall { on := 4, ground := Ground.data } (by simp) rfl) rfl
     have f8 : (aq.tmps.getD 11 undef) = .int .i64 s := z6 8 11 (hall { on := 8, ground := Ground.data } (by simp) rfl) rfl
     have hq := fun (W2 : World) => hs.quiet (W2 := W2) 9 (by decide) hl (by decide)
     have hw : IntKind.i64.wrap (x + s) = x + s := by rw [IntKind.wrap_i64]; omega
     have hK := fun (v : Value) (W2 : World) hW hT hv (hs : SqdH R g x y s (lq.setIfInBounds 9 true) (aq.put (some 12) v) W2) => show (JqdH R g x y s w0 a0) (lq.setIfInBounds 9 true) (aq.put (some 12) v) W2 from ⟨hJ2.put hS 9 12 rfl (by omega) (W' := W2) hW hT v hv, hs⟩
     clear ho hall hl hQ
     generalize (JqdH R g x y s w0 a0) (lq.setIfInBounds 9 true) = K at hK ⊢
     clear hJ2 hS z1 z2 z3 z4 z6 z7
     go_simp
     exact hK _ _ z5 (fun _ _ h => h) rfl (hq _ (fun a b => ⟨a, b⟩))
   | 10, ho =>
     cases ho
     refine wpOp_of rfl rfl ?_
     have hq := fun (W2 : World) => hs.quiet (W2 := W2) 10 (by decide) hl (by decide)
     have hK := fun (v : Value) (W2 : World) hW hT hv (hs : SqdH R g x y s (lq.setIfInBounds 10 true) (aq.put (some 13) v) W2) => show (JqdH R g x y s w0 a0) (lq.setIfInBounds 10 true) (aq.put (some 13) v) W2 from ⟨hJ2.put hS 10 13 rfl (by omega) (W' := W2) hW hT v hv, hs⟩
     clear ho hall hl hQ
     generalize (JqdH R g x y s w0 a0) (lq.setIfInBounds 10 true) = K at hK ⊢
     clear hJ2 hS z1 z2 z3 z4 z6 z7
     go_simp
     exact hK _ _ z5 (fun _ _ h => h) rfl (hq _ (fun a b => ⟨a, b⟩))
   | 11, ho =>
     cases ho
     refine wpOp_of rfl rfl ?_
     have f10 : (aq.tmps.getD 13 undef) = .pointer (some ⟨g, 0, none⟩) := z6 10 13 (hall { on := 10, ground := Ground.data } (by simp) rfl) rfl
     have hq := fun (W2 : World) => hs.quiet (W2 := W2) 11 (by decide) hl (by decide)
     have hK := fun (v : Value) (W2 : World) hW hT hv (hs : SqdH R g x y s (lq.setIfInBounds 11 true) (aq.put (some 14) v) W2) => show (JqdH R g x y s w0 a0) (lq.setIfInBounds 11 true) (aq.put (some 14) v) W2 from ⟨hJ2.put hS 11 14 rfl (by omega) (W' := W2) hW hT v hv, hs⟩
     clear ho hall hl hQ
     generalize (JqdH R g x y s w0 a0) (lq.setIfInBounds 11 true) = K at hK ⊢
     clear hJ2 hS z1 z2 z3 z4 z6 z7
     go_simp
     exact hK _ _ z5 (fun _ _ h => h) rfl (hq _ (fun a b => ⟨a, b⟩))
   | 12, ho =>
     cases ho
     refine wpOp_of rfl rfl ?_
     have f11 : (aq.tmps.getD 14 undef) = .pointer (some ⟨g, 0, none⟩) := z6 11 14 (hall { on := 11, ground := Ground.data } (by simp) rfl) rfl
     have hq := fun (W2 : World) => hs.quiet (W2 := W2) 12 (by decide) hl (by decide)
     have hK := fun (v : Value) (W2 : World) hW hT hv (hs : SqdH R g x y s (lq.setIfInBounds 12 true) (aq.put (some 15) v) W2) => show (JqdH R g x y s w0 a0) (lq.setIfInBounds 12 true) (aq.put (some 15) v) W2 from ⟨hJ2.put hS 12 15 rfl (by omega) (W' := W2) hW hT v hv, hs⟩
     clear ho hall hl hQ
     generalize (JqdH R g x y s w0 a0) (lq.setIfInBounds 12 true) = K at hK ⊢
     clear hJ2 hS z1 z2 z3 z4 z6 z7
     go_simp
     exact hK _ _ z5 (fun _ _ h => h) rfl (hq _ (fun a b => ⟨a, b⟩))
   | 13, ho =>
     cases ho
     refine wpOp_of rfl rfl ?_
     have f12 : (aq.tmps.getD 15 undef) = .pointer (some ⟨g, 0, none⟩) := z6 12 15 (hall { on := 12, ground := Ground.data } (by simp) rfl) rfl
     have hq := fun (W2 : World) => hs.quiet (W2 := W2) 13 (by decide) hl (by decide)
     have hK := fun (v : Value) (W2 : World) hW hT hv (hs : SqdH R g x y s (lq.setIfInBounds 13 true) (aq.put (some 16) v) W2) => show (JqdH R g x y s w0 a0) (lq.setIfInBounds 13 true) (aq.put (some 16) v) W2 from ⟨hJ2.put hS 13 16 rfl (by omega) (W' := W2) hW hT v hv, hs⟩
     clear ho hall hl hQ
     generalize (JqdH R g x y s w0 a0) (lq.setIfInBounds 13 true) = K at hK ⊢
     clear hJ2 hS z1 z2 z3 z4 z6 z7
     go_simp
     exact hK _ _ z5 (fun _ _ h => h) rfl (hq _ (fun a b => ⟨a, b⟩))
   | 14, ho =>
     cases ho
     refine wpOp_of rfl rfl ?_
     have f13 : (aq.tmps.getD 16 undef) = .pointer (some ⟨g, 1, none⟩) := z6 13 16 (hall { on := 13, ground := Ground.data } (by simp) rfl) rfl
     have hq := fun (W2 : World) => hs.quiet (W2 := W2) 14 (by decide) hl (by decide)
     have hK := fun (v : Value) (W2 : World) hW hT hv (hs : SqdH R g x y s (lq.setIfInBounds 14 true) (aq.put (some 17) v) W2) => show (JqdH R g x y s w0 a0) (lq.setIfInBounds 14 true) (aq.put (some 17) v) W2 from ⟨hJ2.put hS 14 17 rfl (by omega) (W' := W2) hW hT v hv, hs⟩
     clear ho hall hl hQ
     generalize (JqdH R g x y s w0 a0) (lq.setIfInBounds 14 true) = K at hK ⊢
     clear hJ2 hS z1 z2 z3 z4 z6 z7
     go_simp
     exact hK _ _ z5 (fun _ _ h => h) rfl (hq _ (fun a b => ⟨a, b⟩))
   | 15, ho =>
     cases ho
     refine wpOp_of rfl rfl ?_
     have hq := fun (W2 : World) => hs.quiet (W2 := W2) 15 (by decide) hl (by decide)
     have hK := fun (v : Value) (W2 : World) hW hT hv (hs : SqdH R g x y s (lq.setIfInBounds 15 true) (aq.put (some 18) v) W2) => show (JqdH R g x y s w0 a0) (lq.setIfInBounds 15 true) (aq.put (some 18) v) W2 from ⟨hJ2.put hS 15 18 rfl (by omega) (W' := W2) hW hT v hv, hs⟩
     clear ho hall hl hQ
     generalize (JqdH R g x y s w0 a0) (lq.setIfInBounds 15 true) = K at hK ⊢
     clear hJ2 hS z1 z2 z3 z4 z6 z7
     go_simp
     exact hK _ _ z5 (fun _ _ h => h) rfl (hq _ (fun a b => ⟨a, b⟩))
   | 16, ho =>
     cases ho
     refine wpOp_of rfl rfl ?_
     have f15 : (aq.tmps.getD 18 undef) = .pointer (some ⟨g, 0, none⟩) := z6 15 18 (hall { on := 15, ground := Ground.data } (by simp) rfl) rfl
     have hq := fun (W2 : World) => hs.quiet (W2 := W2) 16 (by decide) hl (by decide)
     have hK := fun (v : Value) (W2 : World) hW hT hv (hs : SqdH R g x y s (lq.setIfInBounds 16 true) (aq.put (some 19) v) W2) => show (JqdH R g x y s w0 a0) (lq.setIfInBounds 16 true) (aq.put (some 19) v) W2 from ⟨hJ2.put hS 16 19 rfl (by omega) (W' := W2) hW hT v hv, hs⟩
     clear ho hall hl hQ
     generalize (JqdH R g x y s w0 a0) (lq.setIfInBounds 16 true) = K at hK ⊢
     clear hJ2 hS z1 z2 z3 z4 z6 z7
     go_simp
     exact hK _ _ z5 (fun _ _ h => h) rfl (hq _ (fun a b => ⟨a, b⟩))
   | 17, ho =>
     cases ho
     refine wpOp_of rfl rfl ?_
     have f16 : (aq.tmps.getD 19 undef) = .pointer (some ⟨g, 0, none⟩) := z6 16 19 (hall { on := 16, ground := Ground.data } (by simp) rfl) rfl
     have hq := fun (W2 : World) => hs.quiet (W2 := W2) 17 (by decide) hl (by decide)
     have hK := fun (v : Value) (W2 : World) hW hT hv (hs : SqdH R g x y s (lq.setIfInBounds 17 true) (aq.put (some 20) v) W2) => show (JqdH R g x y s w0 a0) (lq.setIfInBounds 17 true) (aq.put (some 20) v) W2 from ⟨hJ2.put hS 17 20 rfl (by omega) (W' := W2) hW hT v hv, hs⟩
     clear ho hall hl hQ
     generalize (JqdH R g x y s w0 a0) (lq.setIfInBounds 17 true) = K at hK ⊢
     clear hJ2 hS z1 z2 z3 z4 z6 z7
     go_simp
     exact hK _ _ z5 (fun _ _ h => h) rfl (hq _ (fun a b => ⟨a, b⟩))
   | 18, ho =>
     cases ho
     refine wpOp_of rfl rfl ?_
     have f17 : (aq.tmps.getD 20 undef) = .pointer (some ⟨g, 2, none⟩) := z6 17 20 (hall { on := 17, ground := Ground.data } (by simp) rfl) rfl
     have hq := fun (W2 : World) => hs.quiet (W2 := W2) 18 (by decide) hl (by decide)
     have hK := fun (v : Value) (W2 : World) hW hT hv (hs : SqdH R g x y s (lq.setIfInBounds 18 true) (aq.put (some 21) v) W2) => show (JqdH R g x y s w0 a0) (lq.setIfInBounds 18 true) (aq.put (some 21) v) W2 from ⟨hJ2.put hS 18 21 rfl (by omega) (W' := W2) hW hT v hv, hs⟩
     clear ho hall hl hQ
     generalize (JqdH R g x y s w0 a0) (lq.setIfInBounds 18 true) = K at hK ⊢
     clear hJ2 hS z1 z2 z3 z4 z6 z7
     go_simp
     exact hK _ _ z5 (fun _ _ h => h) rfl (hq _ (fun a b => ⟨a, b⟩))
   | 19, ho =>
     cases ho
     refine wpOp_of rfl rfl ?_
     have f14 : (aq.tmps.getD 17 undef) = .int .i64 y := z6 14 17 (hall { on := 14, ground := Ground.data } (by simp) rfl) rfl
     have f18 : (aq.tmps.getD 21 undef) = .int .i64 s := z6 18 21 (hall { on := 18, ground := Ground.data } (by simp) rfl) rfl
     have hq := fun (W2 : World) => hs.quiet (W2 := W2) 19 (by decide) hl (by decide)
     have hw : IntKind.i64.wrap (y + s) = y + s := by rw [IntKind.wrap_i64]; omega
     have hK := fun (v : Value) (W2 : World) hW hT hv (hs : SqdH R g x y s (lq.setIfInBounds 19 true) (aq.put (some 22) v) W2) => show (JqdH R g x y s w0 a0) (lq.setIfInBounds 19 true) (aq.put (some 22) v) W2 from ⟨hJ2.put hS 19 22 rfl (by omega) (W' := W2) hW hT v hv, hs⟩
     clear ho hall hl hQ
     generalize (JqdH R g x y s w0 a0) (lq.setIfInBounds 19 true) = K at hK ⊢
     clear hJ2 hS z1 z2 z3 z4 z6 z7
     go_simp
     exact hK _ _ z5 (fun _ _ h => h) rfl (hq _ (fun a b => ⟨a, b⟩))
   | 20, ho =>
     cases ho
     refine wpOp_of rfl rfl ?_
     have f9 : (aq.tmps.getD 12 undef) = .int .i64 (x + s) := z6 9 12 (hall { on := 9, ground := Ground.data } (by simp) rfl) rfl
     have f19 : (aq.tmps.getD 22 undef) = .int .i64 (y + s) := z6 19 22 (hall { on := 19, ground := Ground.data } (by simp) rfl) rfl
     have hq := fun (W2 : World) => hs.quiet (W2 := W2) 20 (by decide) hl (by decide)
     rw [Array.getD_eq_getD_getElem?] at f9 f19
     have hK := fun (v : Value) (W2 : World) hW hT hv (hs : SqdH R g x y s (lq.setIfInBounds 20 true) (aq.put (some 23) v) W2) => show (JqdH R g x y s w0 a0) (lq.setIfInBounds 20 true) (aq.put (some 23) v) W2 from ⟨hJ2.put hS 20 23 rfl (by omega) (W' := W2) hW hT v hv, hs⟩
     clear ho hall hl hQ
     generalize (JqdH R g x y s w0 a0) (lq.setIfInBounds 20 true) = K at hK ⊢
     clear hJ2 hS z1 z2 z3 z4 z6 z7
     go_simp
     exact hK _ _ z5 (fun _ _ h => h) rfl (hq _ (fun a b => ⟨a, b⟩))
   | 21, ho =>
     cases ho
     refine wpOp_of rfl rfl ?_
     have f20 : (aq.tmps.getD 23 undef) = .agg #[.int .i64 (x + s), .int .i64 (y + s)] := z6 20 23 (hall { on := 20, ground := Ground.data } (by simp) rfl) rfl
     have hq := fun (W2 : World) hD => StV.stored (n := 22) (iz := 21) (A := R) (os := [.int .i64 0, .int .i64 0]) (G := fun _ => True) (D := (fun W => Blk W R [.int .i64 (x + s), .int .i64 (y + s)])) (W2 := W2) hl (fun j hj hn => match j, hj, hn with | 0, _, _ => hall { on := 0, ground := Ground.phase } (by simp) rfl | 1, _, _ => hall { on := 1, ground := Ground.phase } (by simp) rfl | 2, _, _ => hall { on := 2, ground := Ground.phase } (by simp) rfl | 3, _, _ => hall { on := 3, ground := Ground.phase } (by simp) rfl | 4, _, _ => hall { on := 4, ground := Ground.phase } (by simp) rfl | 5, _, _ => hall { on := 5, ground := Ground.phase } (by simp) rfl | 6, _, _ => hall { on := 6, ground := Ground.phase } (by simp) rfl | 7, _, _ => hall { on := 7, ground := Ground.phase } (by simp) rfl | 8, _, _ => hall { on := 8, ground := Ground.phase } (by simp) rfl | 9, _, _ => hall { on := 9, ground := Ground.phase } (by simp) rfl | 10, _, _ => hall { on := 10, ground := Ground.phase } (by simp) rfl | 11, _, _ => hall { on := 11, ground := Ground.phase } (by simp) rfl | 12, _, _ => hall { on := 12, ground := Ground.phase } (by simp) rfl | 13, _, _ => hall { on := 13, ground := Ground.phase } (by simp) rfl | 14, _, _ => hall { on := 14, ground := Ground.phase } (by simp) rfl | 15, _, _ => hall { on := 15, ground := Ground.phase } (by simp) rfl | 16, _, _ => hall { on := 16, ground := Ground.phase } (by simp) rfl | 17, _, _ => hall { on := 17, ground := Ground.phase } (by simp) rfl | 18, _, _ => hall { on := 18, ground := Ground.phase } (by simp) rfl | 19, _, _ => hall { on := 19, ground := Ground.phase } (by simp) rfl | 20, _, _ => hall { on := 20, ground := Ground.data } (by simp) rfl | 21, _, hn => absurd rfl hn | j + 22, hj, _ => absurd hj (by omega)) hD
     have xR := (hs.2.1 (getD_tf hl)).1
     have rl := xR.lt
     have y0 := xR.c 0 rfl; have y1 := xR.c 1 rfl; have g0z := xR.f 0 rfl; have g1z := xR.f 1 rfl
     have hK := fun (W2 : World) hW hT hv (hs : SqdH R g x y s (lq.setIfInBounds 21 true) aq W2) => show (JqdH R g x y s w0 a0) (lq.setIfInBounds 21 true) aq W2 from ⟨hJ2.world 21 rfl (W' := W2) hW hT hv, hs⟩
     clear ho hall hl hQ
     generalize (JqdH R g x y s w0 a0) (lq.setIfInBounds 21 true) = K at hK ⊢
     clear hJ2 hS z1 z2 z3 z4 z6 z7
     have NB : Blk ((W.setCell ⟨R, 0, none⟩ (.int .i64 (x + s))).setCell ⟨R, 1, none⟩ (.int .i64 (y + s))) R [.int .i64 (x + s), .int .i64 (y + s)] := (xR.setI 0 (by decide) (.int .i64 (x + s))).setI 1 (by simp) (.int .i64 (y + s))
     have NL : Below R w0 ((W.setCell ⟨R, 0, none⟩ (.int .i64 (x + s))).setCell ⟨R, 1, none⟩ (.int .i64 (y + s))) := (z5.setCell (p := ⟨R, 0, none⟩) (Nat.le_refl R) _).setCell (p := ⟨R, 1, none⟩) (Nat.le_refl R) _
     clear xR
     go_simp
     exact hK _ NL (fun _ _ h => h.same) trivial (hq _ NB)
   | iq + 22, ho => simp at ho
 · intro lq aq W ⟨hJ, hs⟩ hr
   obtain ⟨z1, z2, z3, z4, z5, z6, z7⟩ := hJ
   have hl := listed_of hr [0, 1, 2, 3, 4, 5, 6, 7, 8, 9, 10, 11, 12, 13, 14, 15, 16, 17, 18, 19, 20, 21] [] (by simp) (by kernel_rfl) (by rw [z1]; decide)
   exact hQ aq W z2 z3 (fun e he => z4 e (by simpa using he)) (z7 21 (hl 21 (by simp)) rfl) z5 (hs.2.2 (hl 21 (by simp)))
abbrev BkB (w : World) (g : Nat) (x y s lv : Int) (ids kids : Value) : Prop := Blk w g [.int .i64 x, .int .i64 y, .int .i64 s, .int .i64 lv, ids, kids]
structure Sq (x y s : Int) : Prop where
 x1 : -1048576 ≤ x
 y1 : -1048576 ≤ y
 s1 : 0 ≤ s
 x2 : x + s ≤ 1048576
 y2 : y + s ≤ 1048576
set_option maxRecDepth 100000 in
set_option maxHeartbeats 4000000 in
theorem high_any (g : Nat) (x y s lv : Int) (ids kids : Value) (hq : Sq x y s) (w : World) (B0 : BkB w g x y s lv ids kids) : Calls Try.prog 46 #[.pointer (some ⟨g, 0, none⟩)] w (VP (Sp (x + s) (y + s)) w) := by
 have R0 : Blk (w.alloc (.cells #[.int .i64 0, .int .i64 0] 37)) w.heap.size [.int .i64 0, .int .i64 0] := Blk.new w [.int .i64 0, .int .i64 0] 37 rfl
 have HB : Below w.heap.size w (w.alloc (.cells #[.int .i64 0, .int .i64 0] 37)) := (Below.refl _ w).alloc (Nat.le_refl _) _
 have B1 : Blk (w.alloc (.cells #[.int .i64 0, .int .i64 0] 37)) g _ := B0.alloc _
 have hg : g < w.heap.size := B0.lt
 have q1 := hq.x1; have q2 := hq.y1; have q3 := hq.s1; have q4 := hq.x2; have q5 := hq.y2
 go_enter Try.func46, Try.ntmps46
 go_upto_region 1 with fail
 generalize (w.alloc (.cells #[.int .i64 0, .int .i64 0] 37)) = W1 at *
 refine qdH (R := w.heap.size) (g := g) (x := x) (y := y) (s := s) q1 (by omega) q2 (by omega) q3 (by omega) R0.drew rfl rfl (B1.c 0 rfl) hg (B1.c 1 rfl) hg (B1.c 2 rfl) hg rfl ?_
 rintro ⟨tm, df⟩ Wz hz hdf hoff _ hBz BR
 simp only at hz hdf hoff
 subst hdf
 have htm := tmps_fold [3, 4, 5, 6, 7, 8, 9, 10, 11, 12, 13, 14, 15, 16, 17, 18, 19, 20, 21, 22, 23] tm _ hz hoff
 simp only [List.foldl, List.setIfInBounds_toArray, List.set_cons_zero, List.set_cons_succ] at htm
 clear hz hoff
 generalize tm.getD 3 undef = u0, tm.getD 4 undef = u1, tm.getD 5 undef = u2, tm.getD 6 undef = u3, tm.getD 7 undef = u4, tm.getD 8 undef = u5, tm.getD 9 undef = u6, tm.getD 10 undef = u7, tm.getD 11 undef = u8, tm.getD 12 undef = u9, tm.getD 13 undef = u10, tm.getD 14 undef = u11, tm.getD 15 undef = u12, tm.getD 16 undef = u13, tm.getD 17 undef = u14, tm.getD 18 undef = u15, tm.getD 19 undef = u16, tm.getD 20 undef = u17, tm.getD 21 undef = u18, tm.getD 22 undef = u19, tm.getD 23 undef = u20 at htm
 subst htm
 have HBF := HB.trans hBz
 have m0 := BR.c 0 rfl; have m1 := BR.c 1 rfl
 clear R0 B1 HB hBz BR B0
 go_wp2
 refine bodyPost_ret (v := Sp (x + s) (y + s)) (by simp [results, Try.results46, go_sem, m0, m1]) rfl ?_
 exact ⟨rfl, HBF⟩
def VqdM (g : Nat) (a b c d x y s : Int) (_B : Nat) : Nat → Value → World → Prop
 | 0, v, _ => v = Sg a b c d
 | 1, v, _ => v = .pointer (some ⟨g, 0, none⟩)
 | 2, v, _ => v = .pointer (some ⟨g, 0, none⟩)
 | 3, v, _ => v = .pointer (some ⟨g, 0, none⟩)
 | 4, v, _ => v = Sp x y
 | 5, v, _ => v = .pointer (some ⟨g, 0, none⟩)
 | 6, v, _ => v = Sp (x + s) (y + s)
 | 7, v, _ => v = .bool (hitB a b c d x y (x + s) (y + s))
 | 8, v, _ => v = .bool (hitB a b c d x y (x + s) (y + s))
 | _, _, _ => True
theorem VqdM.mono {g : Nat} {a b c d x y s : Int} {B j : Nat} {v : Value} {W W2 : World} (_hB : Below W.heap.size W W2) (h : VqdM g a b c d x y s B j v W) : VqdM g a b c d x y s B j v W2 := by
 unfold VqdM at *
 split <;> simp only at h <;> first | exact h | trivial
set_option maxRecDepth 100000 in
set_option maxHeartbeats 4000000 in
theorem qdM {Q : Exit → Act → World → Prop} {g : Nat} {a b c d x y s : Int} {P : Nat} {lv : Int} {ids kids : Value} {w0 : World} {a0 : Act} {idq : Nat} {t0 t1 t2 t3 t4 t5 t6 t7 t8 : TypeId} {q0 q1 q2 q3 q4 q5 q6 q7 q8 : String}
   (hq : Sq x y s) (ia : In6 a) (ib : In6 b) (ic : In6 c) (id : In6 d) (hx : In6 x) (hy : In6 y) (hu : In6 (x + s)) (hv : In6 (y + s)) (hB0 : BkB w0 g x y s lv ids kids) (h0 : a0.tmps[0]? = some (.pointer (some ⟨g, 0, none⟩))) (h3 : a0.tmps[3]? = some (.pointer (some ⟨P, 0, none⟩))) (k0 : w0.cell? ⟨P, 0, none⟩ = some (.int .i64 a)) (l0 : (⟨P, 0, none⟩ : Addr).block < w0.heap.size) (k1 : w0.cell? ⟨P, 1, none⟩ = some (.int .i64 b)) (l1 : (⟨P, 1, none⟩ : Addr).block < w0.heap.size) (k2 : w0.cell? ⟨P, 2, none⟩ = some (.int .i64 c)) (l2 : (⟨P, 2, none⟩ : Addr).block < w0.heap.size) (k3 : w0.cell? ⟨P, 3, none⟩ = some (.int .i64 d)) (l3 : (⟨P, 3, none⟩ : Addr).block < w0.heap.size) (k4 : w0.cell? ⟨g, 0, none⟩ = some (.int .i64 x)) (l4 : (⟨g, 0, none⟩ : Addr).block < w0.heap.size) (k5 : w0.cell? ⟨g, 1, none⟩ = some (.int .i64 y)) (l5 : (⟨g, 1, none⟩ : Addr).block < w0.heap.size) (hz : a0.tmps.size = 13)
   (hQ : ∀ aq W, aq.tmps.size = a0.tmps.size → aq.defers = a0.defers → (∀ e, e ∉ ([5, 6, 7, 8, 9, 10, 11, 12, 4] : List Nat) → aq.tmps[e]? = a0.tmps[e]?) → VqdM g a b c d x y s w0.heap.size 8 (aq.tmps.getD 4 undef) W → Below w0.heap.size w0 W → Q .normal aq W) :
   (Code.region idq #[{ dst := some 5, op := Op.load 54 (Operand.tmp 3), type := t0, pos := q0, after := #[], guard := none },
   { dst := some 6, op := Op.move (Operand.tmp 0), type := t1, pos := q1, after := #[], guard := none },
   { dst := some 7, op := Op.nilCheck (Operand.tmp 6), type := t2, pos := q2, after := #[{ on := 1, ground := Ground.data }], guard := none },
   { dst := some 8, op := Op.fieldAddr 99 (Operand.tmp 7) 0, type := t3, pos := q3, after := #[{ on := 2, ground := Ground.data }], guard := none },
   { dst := some 9, op := Op.load 37 (Operand.tmp 8), type := t4, pos := q4, after := #[{ on := 3, ground := Ground.data }], guard := none },
   { dst := some 10, op := Op.move (Operand.tmp 0), type := t5, pos := q5, after := #[], guard := none },
   { dst := some 11, op := Op.call { callee := Callee.value (Operand.func 46), args := #[Operand.tmp 10], argTypes := #[63] }, type := t6, pos := q6, after := #[{ on := 5, ground := Ground.data }], guard := none },
   { dst := some 12, op := Op.call { callee := Callee.value (Operand.func 48), args := #[Operand.tmp 5, Operand.tmp 9, Operand.tmp 11], argTypes := #[54, 37, 37] }, type := t7, pos := q7, after := #[{ on := 0, ground := Ground.data }, { on := 4, ground := Ground.data }, { on := 6, ground := Ground.data }, { on := 6, ground := Ground.chain }], guard := none },
   { dst := some 4, op := Op.assign (Operand.tmp 12), type := t8, pos := q8, after := #[{ on := 7, ground := Ground.data }, { on := 7, ground := Ground.chain }, { on := 0, ground := Ground.phase }, { on := 1, ground := Ground.phase }, { on := 2, ground := Ground.phase }, { on := 3, ground := Ground.phase }, { on := 4, ground := Ground.phase }, { on := 5, ground := Ground.phase }, { on := 6, ground := Ground.phase }, { on := 7, ground := Ground.phase }], guard := none }] true).wp Try.prog Q a0 w0 := by
 have hS : distS [some 5, some 6, some 7, some 8, some 9, some 10, some 11, some 12, some 4] = true := rfl
 refine wp_region_q (by kernel_rfl) w0.heap.size [some 5, some 6, some 7, some 8, some 9, some 10, some 11, some 12, some 4] (VqdM g a b c d x y s w0.heap.size) rfl ?_ ?_
 · intro Q lq aq W iq oq hJ hl ho hall
   have hJ2 := hJ
   obtain ⟨z1, z2, z3, z4, z5, z6, z7⟩ := hJ
   have g0 : aq.tmps.getD 0 undef = .pointer (some ⟨g, 0, none⟩) := by rw [Array.getD_eq_getD_getElem?, z4 0 (by decide), h0]; rfl
   have g3 : aq.tmps.getD 3 undef = .pointer (some ⟨P, 0, none⟩) := by rw [Array.getD_eq_getD_getElem?, z4 3 (by decide), h3]; rfl
   have c0 : W.cell? ⟨P, 0, none⟩ = some (.int .i64 a) := (z5.cell l0).trans k0
   have c1 : W.cell? ⟨P, 1, none⟩ = some (.int .i64 b) := (z5.cell l1).trans k1
   have c2 : W.cell? ⟨P, 2, none⟩ = some (.int .i64 c) := (z5.cell l2).trans k2
   have c3 : W.cell? ⟨P, 3, none⟩ = some (.int .i64 d) := (z5.cell l3).trans k3
   have c4 : W.cell? ⟨g, 0, none⟩ = some (.int .i64 x) := (z5.cell l4).trans k4
   have c5 : W.cell? ⟨g, 1, none⟩ = some (.int .i64 y) := (z5.cell l5).trans k5
   match iq, ho with
   | 0, ho =>
     cases ho
     refine wpOp_of rfl rfl ?_
     have hK := fun (v : Value) (W2 : World) hW hT hv => hJ2.put hS 0 5 rfl (by omega) (W' := W2) hW hT v hv
     clear ho hall hl hQ
     generalize InvQ _ _ _ w0 a0 (lq.setIfInBounds 0 true) = K at hK ⊢
     clear hJ2 hS z1 z2 z3 z4 z6 z7
     go_simp
     exact hK _ _ z5 (fun _ _ h => h) rfl
   | 1, ho =>
     cases ho
     refine wpOp_of rfl rfl ?_
     have hK := fun (v : Value) (W2 : World) hW hT hv => hJ2.put hS 1 6 rfl (by omega) (W' := W2) hW hT v hv
     clear ho hall hl hQ
     generalize InvQ _ _ _ w0 a0 (lq.setIfInBounds 1 true) = K at hK ⊢
     clear hJ2 hS z1 z2 z3 z4 z6 z7
     go_simp
     exact hK _ _ z5 (fun _ _ h => h) rfl
   | 2, ho =>
     cases ho
     refine wpOp_of rfl rfl ?_
     have f1 : (aq.tmps.getD 6 undef) = .pointer (some ⟨g, 0, none⟩) := z6 1 6 (hall { on := 1, ground := Ground.data } (by simp) rfl) rfl
     have hK := fun (v : Value) (W2 : World) hW hT hv => hJ2.put hS 2 7 rfl (by omega) (W' := W2) hW hT v hv
     clear ho hall hl hQ
     generalize InvQ _ _ _ w0 a0 (lq.setIfInBounds 2 true) = K at hK ⊢
     clear hJ2 hS z1 z2 z3 z4 z6 z7
     go_simp
     exact hK _ _ z5 (fun _ _ h => h) rfl
   | 3, ho =>
     cases ho
     refine wpOp_of rfl rfl ?_
     have f2 : (aq.tmps.getD 7 undef) = .pointer (some ⟨g, 0, none⟩) := z6 2 7 (hall { on := 2, ground := Ground.data } (by simp) rfl) rfl
     have hK := fun (v : Value) (W2 : World) hW hT hv => hJ2.put hS 3 8 rfl (by omega) (W' := W2) hW hT v hv
     clear ho hall hl hQ
     generalize InvQ _ _ _ w0 a0 (lq.setIfInBounds 3 true) = K at hK ⊢
     clear hJ2 hS z1 z2 z3 z4 z6 z7
     go_simp
     exact hK _ _ z5 (fun _ _ h => h) rfl
   | 4, ho =>
     cases ho
     refine wpOp_of rfl rfl ?_
     have f3 : (aq.tmps.getD 8 undef) = .pointer (some ⟨g, 0, none⟩) := z6 3 8 (hall { on := 3, ground := Ground.data } (by simp) rfl) rfl
     have hK := fun (v : Value) (W2 : World) hW hT hv => hJ2.put hS 4 9 rfl (by omega) (W' := W2) hW hT v hv
     clear ho hall hl hQ
     generalize InvQ _ _ _ w0 a0 (lq.setIfInBounds 4 true) = K at hK ⊢
     clear hJ2 hS z1 z2 z3 z4 z6 z7
     go_simp
     exact hK _ _ z5 (fun _ _ h => h) rfl
   | 5, ho =>
     cases ho
     refine wpOp_of rfl rfl ?_
     have hK := fun (v : Value) (W2 : World) hW hT hv => hJ2.put hS 5 10 rfl (by omega) (W' := W2) hW hT v hv
     clear ho hall hl hQ
     generalize InvQ _ _ _ w0 a0 (lq.setIfInBounds 5 true) = K at hK ⊢
     clear hJ2 hS z1 z2 z3 z4 z6 z7
     go_simp
     exact hK _ _ z5 (fun _ _ h => h) rfl
   | 6, ho =>
     cases ho
     refine wpOp_of rfl rfl ?_
     have f5 : (aq.tmps.getD 10 undef) = .pointer (some ⟨g, 0, none⟩) := z6 5 10 (hall { on := 5, ground := Ground.data } (by simp) rfl) rfl
     have hK := fun (v : Value) (W2 : World) hW hT hv => hJ2.put hS 6 11 rfl (by omega) (W' := W2) hW hT v hv
     clear ho hall hl hQ
     generalize InvQ _ _ _ w0 a0 (lq.setIfInBounds 6 true) = K at hK ⊢
     clear hJ2 hS z1 z2 z3 z4 z6 z7
     go_simp
     refine (high_any g x y s lv ids kids hq W (hB0.step z5)).mono ?_
     rintro e v1 ⟨rfl, hBv⟩
     exact hK _ _ (z5.trans (hBv.mono z5.size)) (fun j v h => h.mono hBv) rfl
   | 7, ho =>
     cases ho
     refine wpOp_of rfl rfl ?_
     have f0 : (aq.tmps.getD 5 undef) = Sg a b c d := z6 0 5 (hall { on := 0, ground := Ground.data } (by simp) rfl) rfl
     have f4 : (aq.tmps.getD 9 undef) = Sp x y := z6 4 9 (hall { on := 4, ground := Ground.data } (by simp) rfl) rfl
     have f6 : (aq.tmps.getD 11 undef) = Sp (x + s) (y + s) := z6 6 11 (hall { on := 6, ground := Ground.data } (by simp) rfl) rfl
     have hK := fun (v : Value) (W2 : World) hW hT hv => hJ2.put hS 7 12 rfl (by omega) (W' := W2) hW hT v hv
     clear ho hall hl hQ
     generalize InvQ _ _ _ w0 a0 (lq.setIfInBounds 7 true) = K at hK ⊢
     clear hJ2 hS z1 z2 z3 z4 z6 z7
     go_simp
     refine (meetsBox_any a b c d x y (x + s) (y + s) ia ib ic id hx hy hu hv W).mono ?_
     rintro e v1 ⟨rfl, hBv⟩
     exact hK _ _ (z5.trans (hBv.mono z5.size)) (fun j v h => h.mono hBv) rfl
   | 8, ho =>
     cases ho
     refine wpOp_of rfl rfl ?_
     have f7 : (aq.tmps.getD 12 undef) = .bool (hitB a b c d x y (x + s) (y + s)) := z6 7 12 (hall { on := 7, ground := Ground.data } (by simp) rfl) rfl
     have hK := fun (v : Value) (W2 : World) hW hT hv => hJ2.put hS 8 4 rfl (by omega) (W' := W2) hW hT v hv
     clear ho hall hl hQ
     generalize InvQ _ _ _ w0 a0 (lq.setIfInBounds 8 true) = K at hK ⊢
     clear hJ2 hS z1 z2 z3 z4 z6 z7
     go_simp
     exact hK _ _ z5 (fun _ _ h => h) rfl
   | iq + 9, ho => simp at ho
 · intro lq aq W hJ hr
   obtain ⟨z1, z2, z3, z4, z5, z6, z7⟩ := hJ
   have hl := listed_of hr [0, 1, 2, 3, 4, 5, 6, 7, 8] [] (by simp) (by kernel_rfl) (by rw [z1]; decide)
   exact hQ aq W z2 z3 (fun e he => z4 e (by simpa using he)) (z6 8 4 (hl 8 (by simp)) rfl) z5
theorem Sq.in6 {x y s : Int} (h : Sq x y s) : In6 x ∧ In6 y ∧ In6 (x + s) ∧ In6 (y + s) := by
 have q1 := h.x1; have q2 := h.y1; have q3 := h.s1; have q4 := h.x2; have q5 := h.y2
 unfold In6
 omega
set_option maxRecDepth 100000 in
set_option maxHeartbeats 4000000 in
theorem meets_any (g : Nat) (x y s lv : Int) (ids kids : Value) (a b c d : Int) (hq : Sq x y s) (ia : In6 a) (ib : In6 b) (ic : In6 c) (id : In6 d) (w : World) (B0 : BkB w g x y s lv ids kids) : Calls Try.prog 80 #[.pointer (some ⟨g, 0, none⟩), Sg a b c d] w (VP (.bool (hitB a b c d x y (x + s) (y + s))) w) := by
 have R0 : Blk (w.alloc (.cells #[.int .i64 a, .int .i64 b, .int .i64 c, .int .i64 d] 54)) w.heap.size [.int .i64 a, .int .i64 b, .int .i64 c, .int .i64 d] := Blk.new w [.int .i64 a, .int .i64 b, .int .i64 c, .int .i64 d] 54 rfl
 have HB : Below w.heap.size w (w.alloc (.cells #[.int .i64 a, .int .i64 b, .int .i64 c, .int .i64 d] 54)) := (Below.refl _ w).alloc (Nat.le_refl _) _
 have B1 : BkB (w.alloc (.cells #[.int .i64 a, .int .i64 b, .int .i64 c, .int .i64 d] 54)) g x y s lv ids kids := B0.alloc _
 have hg := B1.lt
 have hr := R0.lt
 obtain ⟨q1, q2, q3, q4⟩ := hq.in6
 go_enter Try.func80, Try.ntmps80
 go_upto_region 1 with fail
 generalize (w.alloc (.cells #[.int .i64 a, .int .i64 b, .int .i64 c, .int .i64 d] 54)) = W1 at *
 refine qdM (P := w.heap.size) (g := g) (a := a) (b := b) (c := c) (d := d) (x := x) (y := y) (s := s) hq ia ib ic id q1 q2 q3 q4 B1 rfl rfl (R0.c 0 rfl) hr (R0.c 1 rfl) hr (R0.c 2 rfl) hr (R0.c 3 rfl) hr (B1.c 0 rfl) hg (B1.c 1 rfl) hg rfl ?_
 rintro ⟨tm, df⟩ Wz hz hdf hoff h4 hBz
 simp only at hz hdf hoff h4
 change tm.getD 4 undef = .bool (hitB a b c d x y (x + s) (y + s)) at h4
 subst hdf
 have htm := tmps_fold [5, 6, 7, 8, 9, 10, 11, 12, 4] tm _ hz hoff
 simp only [List.foldl, List.setIfInBounds_toArray, List.set_cons_zero, List.set_cons_succ, h4] at htm
 clear hz hoff
 generalize tm.getD 5 undef = u0, tm.getD 6 undef = u1, tm.getD 7 undef = u2, tm.getD 8 undef = u3, tm.getD 9 undef = u4, tm.getD 10 undef = u5, tm.getD 11 undef = u6, tm.getD 12 undef = u7 at htm
 clear h4
 subst htm
 have HBF := HB.trans (hBz.mono HB.size)
 clear R0 B1 HB hBz B0
 go_wp2
 go_ret
 exact ⟨rfl, HBF⟩
def ItIn (Q : QD) (w : World) (ao : Option Addr) (l : List Nat) : Prop :=
 ∀ j i, l[j]? = some i → ∃ A off, ao = some ⟨A, off, none⟩ ∧ A < w.heap.size ∧ w.cell? ⟨A, off + j * 5, none⟩ = some (.int .i64 (Q.I i)) ∧ w.cell? ⟨A, off + j * 5 + 1, none⟩ = some (.int .i64 (Q.S i).1) ∧ w.cell? ⟨A, off + j * 5 + 2, none⟩ = some (.int .i64 (Q.S i).2.1) ∧ w.cell? ⟨A, off + j * 5 + 3, none⟩ = some (.int .i64 (Q.S i).2.2.1) ∧ w.cell? ⟨A, off + j * 5 + 4, none⟩ = some (.int .i64 (Q.S i).2.2.2)
theorem ItIn.step {Q : QD} {w w' : World} {ao : Option Addr} {l : List Nat} (h : ItIn Q w ao l) (hB : Below w.heap.size w w') : ItIn Q w' ao l := fun j i hj => by
 obtain ⟨A, off, e, hA, c0, c1, c2, c3, c4⟩ := h j i hj
 exact ⟨A, off, e, Nat.lt_of_lt_of_le hA hB.size, (hB.cell (p := ⟨A, _, none⟩) hA).trans c0, (hB.cell (p := ⟨A, _, none⟩) hA).trans c1, (hB.cell (p := ⟨A, _, none⟩) hA).trans c2, (hB.cell (p := ⟨A, _, none⟩) hA).trans c3, (hB.cell (p := ⟨A, _, none⟩) hA).trans c4⟩
def it5 (Q : QD) (i : Nat) : List Value := [.int .i64 (Q.I i), .int .i64 (Q.S i).1, .int .i64 (Q.S i).2.1, .int .i64 (Q.S i).2.2.1, .int .i64 (Q.S i).2.2.2]
def itCs (Q : QD) (l : List Nat) : List Value := l.flatMap (it5 Q)
theorem itCs_app (Q : QD) (l : List Nat) (i : Nat) : itCs Q (l ++ [i]) = itCs Q l ++ it5 Q i := by simp [itCs]
theorem it5_one (Q : QD) (i : Nat) : ∀ u ∈ it5 Q i, u.oneCell' = true := by
 intro u hu
 simp only [it5, List.mem_cons, List.not_mem_nil, or_false] at hu
 rcases hu with rfl | rfl | rfl | rfl | rfl <;> rfl
theorem it5_new (Q : QD) (w : World) (i : Nat) (t : TypeId) : ∀ j v, (it5 Q i)[j]? = some v → (w.alloc (.cells (it5 Q i).toArray t)).cell? ((⟨w.heap.size, 0, none⟩ : Addr).add j) = some v := by
 intro j v hj
 rw [Addr.add_lit, Nat.zero_add]
 exact (Blk.new w (it5 Q i) t rfl).c j hj
theorem Try.infoItem : (Try.prog.info? 56).map (fun i => (i.zero, i.size, i.bytes)) = some (some (.agg #[.int .i64 0, .int .i64 0, .int .i64 0, .int .i64 0, .int .i64 0]), 5, 40) := by kernel_rfl
theorem info_item : ∃ i0, Try.prog.info? 56 = some i0 ∧ i0.zero = some (.agg #[.int .i64 0, .int .i64 0, .int .i64 0, .int .i64 0, .int .i64 0]) ∧ i0.size = 5 ∧ i0.bytes = 40 := by
 obtain ⟨i, hi, hz⟩ := Option.map_eq_some_iff.1 Try.infoItem
 simp only [Prod.mk.injEq] at hz
 exact ⟨i, hi, hz.1, hz.2.1, hz.2.2⟩
theorem fl_more (Q : QD) (l : List Nat) (x y s : Int) {c i : Nat} (h : l[c]? = some i) : flQ Q (l.take (c + 1)) x y s = flQ Q (l.take c) x y s ++ (if hitQ Q x y s i = true then [i] else []) := by
 unfold flQ
 rw [List.take_add_one, h, List.filter_append]
 congr 1
 simp only [Option.toList_some, List.filter_cons, List.filter_nil]
def Its6 (Q : QD) (l : List Nat) : Prop := ∀ i ∈ l, In6 (Q.S i).1 ∧ In6 (Q.S i).2.1 ∧ In6 (Q.S i).2.2.1 ∧ In6 (Q.S i).2.2.2
set_option maxRecDepth 100000 in
set_option maxHeartbeats 4000000 in
theorem meeting_any (Q : QD) (g : Nat) (x y s lv : Int) (ids kids : Value) (ao : Option Addr) (cap : Nat) (l : List Nat) (hq : Sq x y s) (h6 : Its6 Q l) (hl : l.length ≤ 1048576) (w : World) (B0 : BkB w g x y s lv ids kids) (hS : ItIn Q w ao l) : Calls Try.prog 63 #[.pointer (some ⟨g, 0, none⟩), .slice ao l.length cap] w (fun r w' => ∃ v, r = .returned v ∧ w'.ownsRow w.heap.size 56 5 v (flQ Q l x y s).length (itCs Q (flQ Q l x y s)) ∧ Below w.heap.size w w') := by
 obtain ⟨i0, hi, hz0, hz1, hz2⟩ := info_item
 have HS : Hid (ItIn Q w ao l) := hS
 have H6 : Hid (Its6 Q l) := h6
 clear hS h6
 obtain ⟨n, hn⟩ : ∃ n, l.length = n := ⟨_, rfl⟩
 rw [hn] at hl ⊢
 have hnI : (n : Int) ≤ 1048576 := by omega
 go_enter Try.func63, Try.ntmps63
 go_wp2_with fail
 go_loopw [5, 10] (fun o i wr => ∃ c : Nat, c ≤ n ∧ i = .int .i64 c ∧ wr.ownsRow w.heap.size 56 5 o (flQ Q (l.take c) x y s).length (itCs Q (flQ Q (l.take c) x y s)) ∧ Below w.heap.size w wr) (fun _ i _ => n - (intOf i).toNat)
 case atStart => exact ⟨0, by omega, rfl, World.ownsRow_nil _ _ _ _, Below.refl _ _⟩
 case round =>
   obtain ⟨c, hc, rfl, HO, HB⟩ := hrel
   by_cases hcn : c < n
   · obtain ⟨i, hi2⟩ : ∃ i, l[c]? = some i := ⟨_, List.getElem?_eq_getElem (by omega)⟩
     obtain ⟨A, off, rfl, hA, q0, q1, q2, q3, q4⟩ := HS.out.step HB c i hi2
     obtain ⟨ia, ib, ic, id⟩ := H6.out i (List.mem_of_getElem? hi2)
     have hcI : (c : Int) < n := by omega
     have hB1 := (Below.refl wr.heap.size wr).alloc (Nat.le_refl _) (.cells #[.int .i64 (Q.I i), .int .i64 (Q.S i).1, .int .i64 (Q.S i).2.1, .int .i64 (Q.S i).2.2.1, .int .i64 (Q.S i).2.2.2] 56)
     have B1 : Blk (wr.alloc (.cells #[.int .i64 (Q.I i), .int .i64 (Q.S i).1, .int .i64 (Q.S i).2.1, .int .i64 (Q.S i).2.2.1, .int .i64 (Q.S i).2.2.2] 56)) wr.heap.size [.int .i64 (Q.I i), .int .i64 (Q.S i).1, .int .i64 (Q.S i).2.1, .int .i64 (Q.S i).2.2.1, .int .i64 (Q.S i).2.2.2] := Blk.new wr [.int .i64 (Q.I i), .int .i64 (Q.S i).1, .int .i64 (Q.S i).2.1, .int .i64 (Q.S i).2.2.1, .int .i64 (Q.S i).2.2.2] 56 rfl
     have BG : BkB (wr.alloc (.cells #[.int .i64 (Q.I i), .int .i64 (Q.S i).1, .int .i64 (Q.S i).2.1, .int .i64 (Q.S i).2.2.1, .int .i64 (Q.S i).2.2.2] 56)) g x y s lv ids kids := (B0.step HB).alloc _
     have MT : ∀ w, BkB w g x y s lv ids kids → Calls Try.prog 80 #[.pointer (some ⟨g, 0, none⟩), Sg (Q.S i).1 (Q.S i).2.1 (Q.S i).2.2.1 (Q.S i).2.2.2] w (VP (.bool (hitQ Q x y s i)) w) := fun w h => meets_any g x y s lv ids kids (Q.S i).1 (Q.S i).2.1 (Q.S i).2.2.1 (Q.S i).2.2.2 hq ia ib ic id w h
     have HFM := fl_more Q l x y s hi2
     obtain ⟨bh, hbh⟩ : ∃ b, hitQ Q x y s i = b := ⟨_, rfl⟩
     rw [hbh] at MT HFM
     have hfl : (flQ Q (l.take c) x y s).length ≤ n := Nat.le_trans (List.length_filter_le _ _) (by rw [List.length_take]; omega)
     go_upto_region 5 with fail
     replace HO := ownA_step HO hB1
     replace HB := HB.trans (hB1.mono HB.size)
     clear hB1 q0 q1 q2 q3 q4
     generalize (wr.alloc (.cells #[.int .i64 (Q.I i), .int .i64 (Q.S i).1, .int .i64 (Q.S i).2.1, .int .i64 (Q.S i).2.2.1, .int .i64 (Q.S i).2.2.2] 56)) = W5 at *
     have m0 := B1.c 0 rfl; have m1 := B1.c 1 rfl; have m2 := B1.c 2 rfl; have m3 := B1.c 3 rfl; have m4 := B1.c 4 rfl
     go_wp2_with fail
     refine (MT _ BG).mono ?_
     rintro r w1 ⟨rfl, hB2⟩
     replace HO := ownA_step HO hB2
     replace HB := HB.trans (hB2.mono HB.size)
     replace B1 := B1.step hB2
     clear hB2 BG MT m0 m1 m2 m3 m4
     cases bh with
     | false =>
       rw [if_neg (by decide), List.append_nil] at HFM
       rw [← HFM] at HO
       clear B1
       go_wp2
       go_roundw
       case rel => exact ⟨c + 1, by omega, by go_num, HO, HB⟩
       case measure => simp [intOf]; omega
     | true =>
       rw [if_pos rfl] at HFM
       have m0 := B1.c 0 rfl; have m1 := B1.c 1 rfl; have m2 := B1.c 2 rfl; have m3 := B1.c 3 rfl; have m4 := B1.c 4 rfl
       go_wp2_with (at_builtin; refine wpList_append_own _ rfl _ _ 32 rfl w.heap.size 56 i0 (.agg #[.int .i64 0, .int .i64 0, .int .i64 0, .int .i64 0, .int .i64 0]) 5 40 Try.underlying32 hi hz0 hz1 hz2 rfl (by decide) _ _ _ rfl (ownA_step HO ((Below.refl _ _).alloc (Nat.le_refl _) _)) ⟨w1.heap.size, 0, none⟩ 1 1 (it5 Q i) rfl rfl (it5_new _ _ _ _) (it5_one _ _) (by unfold maxLen; omega) (by omega) (by have := HB.size; simp; omega) ?_)
       intro v1 w2 hown1 hgrow1 _
       have HBN : Below w.heap.size w w2 := (HB.alloc HB.size _).grown hgrow1 (by have := HB.size; simp; omega) (fun k hk => (HO.lt k hk).1)
       have HN : w2.ownsRow w.heap.size 56 5 v1 (flQ Q (l.take (c + 1)) x y s).length (itCs Q (flQ Q (l.take (c + 1)) x y s)) := by
         rw [HFM, itCs_app, List.length_append]
         exact hown1
       clear HO HB hown1 hgrow1 m0 m1 m2 m3 m4 B1
       go_wp2
       go_roundw
       case rel => exact ⟨c + 1, by omega, by go_num, HN, HBN⟩
       case measure => simp [intOf]; omega
   · obtain rfl : c = n := by omega
     rw [List.take_of_length_le (by omega)] at HO
     go_wp2
     go_ret
     exact ⟨_, rfl, HO, HB⟩
end Go.Proofs.Ythelolpogdcmhaa
