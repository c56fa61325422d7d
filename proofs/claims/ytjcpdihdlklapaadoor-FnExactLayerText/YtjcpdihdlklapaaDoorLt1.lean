/- Part 1 of the walks that the proof leans on. -/
import Derived.Laws.BytesArg
import Derived.Lib.ItoaNum
import Derived.Test.YtjcpdihdlklapaaDoorRows
import Derived.WalkKit
import Derived.WalkSpells
import Derived.WalkLawsBesides
import Derived.Laws.Bits64b
import Derived.Deep.QuietTactic
import Derived.BigQuiet
import Derived.Laws.Externs
import Derived.Shelf.Spec.BitsCarry
import Derived.BigRegion
import Derived.Deep.CutBlock
import Derived.Deep.DeepCutAuto
import Derived.Deep.RegionWith
import Derived.Shelf.Bits.Mul64
import Derived.Deep.RegionHeld3
import Derived.Deep.LoopGhost
import Derived.WalkMore
import Derived.Deep.MidRow
import Derived.ProofKit
import Derived.Lib.SmallJoins
import Derived.Deep.Strs
import Derived.Deep.OwnRows
import Derived.Lib.Join
import Derived.Laws.BitsLemmas
namespace Go.Proofs.YtjcpdihdlklapaaDoor
def strL (l : List Nat) : ByteArray := strOfNums (l.map fun (n : Nat) => (n : Int))
theorem strL_size (l : List Nat) : (strL l).size = l.length := by simp [strL, strOfNums_size]
theorem strL_append (a b : List Nat) : strL (a ++ b) = strL a ++ strL b := by
 apply ByteArray.ext
 simp [strL, strOfNums]
def dg (n : Nat) : List Nat := if n = 0 then [] else (Go.Lib.decDigits n).map UInt8.toNat
theorem dg_zero : dg 0 = [] := rfl
theorem dg_step {n : Nat} (h : 0 < n) : dg n = dg (n / 10) ++ [48 + n % 10] := by
 have e : (UInt8.ofNat (48 + n % 10)).toNat = 48 + n % 10 := by
   rw [UInt8.toNat_ofNat']
   omega
 unfold dg
 rw [if_neg (by omega), Go.Lib.decDigits]
 by_cases h1 : n < 10
 · rw [dif_pos h1, if_pos (by omega)]
   rw [show n % 10 = n by omega] at *
   simp only [List.map_cons, List.map_nil, List.nil_append]
   rw [e]
 · rw [dif_neg h1, if_neg (by omega), List.map_append, List.map_cons, List.map_nil, e]
theorem dg_ne {n : Nat} (h : 0 < n) : dg n ≠ [] := by rw [dg_step h]; simp
theorem dg_len (k : Nat) : ∀ n : Nat, n < 10 ^ k → (dg n).length ≤ k := by
 induction k with
 | zero => intro n h; obtain rfl : n = 0 := by simpa using h
           simp [dg_zero]
 | succ k ih =>
   intro n h
   rcases Nat.eq_zero_or_pos n with rfl | hp
   · simp [dg_zero]
   · rw [dg_step hp]
     have := ih (n / 10) (by rw [Nat.pow_succ] at h; omega)
     simp
     omega
def dgs (n : Nat) : List Nat := dg (n / 10) ++ [48 + n % 10]
theorem dgs_pos {n : Nat} (h : 0 < n) : dgs n = dg n := by rw [dg_step h]; rfl
theorem dgs_zero : dgs 0 = [48] := by unfold dgs; rw [show 0 / 10 = 0 from rfl, dg_zero]; rfl
theorem dgs_len {k n : Nat} (hk : 0 < k) (h : n < 10 ^ k) : (dgs n).length ≤ k := by
 rcases Nat.eq_zero_or_pos n with rfl | hp
 · rw [dgs_zero]; exact hk
 · rw [dgs_pos hp]; exact dg_len k n h
def txL (z : Int) : List Nat := (if z < 0 then [45] else []) ++ dgs z.natAbs
def txS (z : Int) : ByteArray := strL (txL z)
def val : List Int → Int
 | [] => 0
 | d :: t => d + 4294967296 * val t
def Dig (ds : List Int) : Prop := ∀ d ∈ ds, 0 ≤ d ∧ d < 4294967296
def pw : Nat → Int
 | 0 => 1
 | n + 1 => 4294967296 * pw n
theorem pw_pos (n : Nat) : 0 < pw n := by
 induction n with
 | zero => simp [pw]
 | succ n ih => simp only [pw]; omega
theorem dig_nil : Dig [] := by intro d h; simp at h
theorem dig_cons {d : Int} {t : List Int} : Dig (d :: t) ↔ (0 ≤ d ∧ d < 4294967296) ∧ Dig t := by
 constructor
 · intro h; exact ⟨h d (by simp), fun x hx => h x (by simp [hx])⟩
 · rintro ⟨h1, h2⟩ x hx
   rcases List.mem_cons.1 hx with rfl | hx
   · exact h1
   · exact h2 x hx
theorem dig_append {a b : List Int} : Dig (a ++ b) ↔ Dig a ∧ Dig b := by
 constructor
 · intro h; exact ⟨fun x hx => h x (by simp [hx]), fun x hx => h x (by simp [hx])⟩
 · rintro ⟨h1, h2⟩ x hx
   rcases List.mem_append.1 hx with hx | hx
   · exact h1 x hx
   · exact h2 x hx
theorem dig_take {a : List Int} (h : Dig a) (n : Nat) : Dig (a.take n) := fun x hx => h x (List.mem_of_mem_take hx)
theorem dig_at {a : List Int} (h : Dig a) (n : Nat) (hn : n < a.length) : 0 ≤ a[n] ∧ a[n] < 4294967296 := h _ (List.getElem_mem hn)
theorem val_append (a b : List Int) : val (a ++ b) = val a + pw a.length * val b := by
 induction a with
 | nil => simp [val, pw]
 | cons d t ih =>
   simp only [List.cons_append, val, List.length_cons, pw, ih, Int.mul_add, Int.mul_assoc]
   omega
theorem val_snoc (a : List Int) (d : Int) : val (a ++ [d]) = val a + pw a.length * d := by
 rw [val_append]; simp [val]
theorem val_nonneg {a : List Int} (h : Dig a) : 0 ≤ val a := by
 induction a with
 | nil => simp [val]
 | cons d t ih =>
   obtain ⟨h1, h2⟩ := dig_cons.1 h
   have := ih h2
   simp only [val]; omega
theorem val_lt {a : List Int} (h : Dig a) : val a < pw a.length := by
 induction a with
 | nil => simp [val, pw]
 | cons d t ih =>
   obtain ⟨h1, h2⟩ := dig_cons.1 h
   have := ih h2
   simp only [val, List.length_cons, pw]; omega
theorem val_zeros (n : Nat) : val (List.replicate n 0) = 0 := by
 induction n with
 | zero => rfl
 | succ n ih => simp [List.replicate_succ, val, ih]
def Nrm (ds : List Int) : Prop := Dig ds ∧ (ds = [] ∨ ∃ t d, ds = t ++ [d] ∧ d ≠ 0)
theorem nrm_nil : Nrm [] := ⟨dig_nil, Or.inl rfl⟩
theorem nrm_low {ds : List Int} (h : Nrm ds) (hne : ds ≠ []) : pw (ds.length - 1) ≤ val ds := by
 obtain ⟨hd, h | ⟨t, d, rfl, h⟩⟩ := h
 · exact absurd h hne
 · obtain ⟨h1, h2⟩ := dig_append.1 hd
   have h3 := (dig_cons.1 h2).1
   rw [val_snoc]
   have h4 := val_nonneg h1
   have h5 := pw_pos t.length
   have : pw t.length * 1 ≤ pw t.length * d := Int.mul_le_mul_of_nonneg_left (by omega) (by omega)
   simp only [List.length_append, List.length_cons, List.length_nil]
   simp only [Nat.zero_add, Nat.add_sub_cancel]
   omega
theorem nrm_pos {ds : List Int} (h : Nrm ds) (hne : ds ≠ []) : 0 < val ds := by
 have := nrm_low h hne
 have := pw_pos (ds.length - 1)
 omega
theorem nrm_zero {ds : List Int} (h : Nrm ds) : val ds = 0 ↔ ds = [] := by
 constructor
 · intro h0
   by_cases hne : ds = []
   · exact hne
   · have := nrm_pos h hne; omega
 · rintro rfl; rfl
theorem val_cut (ds : List Int) (n : Nat) (h : ∀ j, n ≤ j → (hj : j < ds.length) → ds[j] = 0) : val (ds.take n) = val ds := by
 by_cases hn : ds.length ≤ n
 · rw [List.take_of_length_le hn]
 · have e : ds = ds.take n ++ ds.drop n := (List.take_append_drop n ds).symm
   have hz : ds.drop n = List.replicate (ds.length - n) 0 := by
     apply List.ext_getElem
     · simp
     · intro i h1 h2
       simp only [List.getElem_drop, List.getElem_replicate]
       exact h _ (by omega) _
   have h2 : val ds = val (ds.take n) + pw (ds.take n).length * val (ds.drop n) := by
     have := val_append (ds.take n) (ds.drop n)
     rwa [List.take_append_drop] at this
   rw [h2, hz, val_zeros, Int.mul_zero, Int.add_zero]
theorem nrm_take {ds : List Int} (hd : Dig ds) (n : Nat) (hn : n < ds.length) (h0 : ds[n] ≠ 0) : Nrm (ds.take (n + 1)) := by
 refine ⟨dig_take hd _, Or.inr ⟨ds.take n, ds[n], List.take_succ_eq_append_getElem hn, h0⟩⟩
theorem pw_two (n : Nat) : pw n = ((2 ^ (32 * n) : Nat) : Int) := by
 induction n with
 | zero => simp [pw]
 | succ n ih =>
   rw [pw, ih, show 32 * (n + 1) = 32 * n + 32 by omega, Nat.pow_add]
   simp [Int.mul_comm]
open Go.RowKit
def Rd (w : World) (ao : Option Addr) (ds : List Int) : Prop :=
 ∀ i, (h : i < ds.length) → ∃ b off, ao = some ⟨b, off, none⟩ ∧ b < w.heap.size ∧ w.cell? ⟨b, off + i, none⟩ = some (.int .u32 ds[i])
theorem Rd.nil (w : World) (ao : Option Addr) : Rd w ao [] := by intro i h; simp at h
theorem Rd.below {w w' : World} {ao : Option Addr} {ds : List Int} (h : Rd w ao ds) {B : Nat} (hb : Below B w w') (hB : w.heap.size ≤ B) : Rd w' ao ds := by
 intro i hi
 obtain ⟨b, off, e, hl, hc⟩ := h i hi
 refine ⟨b, off, e, Nat.lt_of_lt_of_le hl hb.size, ?_⟩
 rw [hb.cell (by show b < B; omega)]; exact hc
theorem Rd.take {w : World} {ao : Option Addr} {ds : List Int} (h : Rd w ao ds) (n : Nat) : Rd w ao (ds.take n) := by
 intro i hi
 have : i < ds.length := by simp at hi; omega
 obtain ⟨b, off, e, hl, hc⟩ := h i this
 exact ⟨b, off, e, hl, by rw [hc]; simp⟩
theorem cell_alloc {w : World} {o : Obj} {b off : Nat} {v : Value} (hb : b < w.heap.size) (h : w.cell? ⟨b, off, none⟩ = some v) : (w.alloc o).cell? ⟨b, off, none⟩ = some v := by
 rw [((Below.refl w.heap.size w).alloc (Nat.le_refl _) o).cell (p := ⟨b, off, none⟩) hb]; exact h
theorem Rd.own {w : World} {base g n cap : Nat} {e : TypeId} {zs : List Int} (h : w.ownsRow base e 1 (.slice (some ⟨g, 0, none⟩) n cap) n (zs.map (Value.int .u32))) (hl : zs.length = n) : Rd w (some ⟨g, 0, none⟩) zs := by
 intro i hi
 refine ⟨g, 0, rfl, (h.lt g rfl).2, ?_⟩
 rw [Nat.zero_add, h.cellAt i (by omega)]
 simp [hi]
theorem made_one (v : Value) (q : Nat) : (madeCells #[v] q).toList = List.replicate q v := by
 apply List.ext_getElem
 · simp [madeCells]
 · intro i h1 h2
   simp [madeCells, Nat.mod_one]
theorem field_d (x0 x1 : Value) (w : World) : (Instr.field 62 (.agg #[x0, x1]) 1).run Tryd.prog w = .ok x1 w := by kernel_rfl
theorem Rd.set {w : World} {ao : Option Addr} {ds : List Int} (h : Rd w ao ds) {p : Addr} {v : Value} (u : Value) (hp : w.cell? p = some v) (hv : ∀ x, v ≠ .int .u32 x) : Rd (w.setCell p u) ao ds := by
 intro i hi
 obtain ⟨b, off, e, hl, hc⟩ := h i hi
 refine ⟨b, off, e, by simpa [World.setCell] using hl, ?_⟩
 have hne : p ≠ ⟨b, off + i, none⟩ := by
   intro e'
   rw [e', hc] at hp
   exact hv _ (by simpa using hp.symm)
 exact (World.cell?_setCell_other _ _ _ _ hne).trans hc
theorem Rd.lit (w : World) {cs : Array Value} {e : TypeId} {zs : List Int} {g : Nat} (hg : g = w.heap.size) (h : cs.toList = zs.map (Value.int .u32)) (hl : zs.length ≤ maxLen) : Rd (w.alloc (.cells cs e)) (some ⟨g, 0, none⟩) zs := by
 subst hg
 have hs : cs.size = zs.length * 1 := by rw [← Array.length_toList, h]; simp
 have := World.ownsRow_lit (base := w.heap.size) (e := e) (size := 1) w cs zs.length (Nat.le_refl _) hl hs
 rw [h] at this
 exact Rd.own this rfl
theorem res2 {w w3 : World} {a b : Value} {T : TypeId} (h : Below (w.heap.size + 1) (w.alloc (.cells #[a, b] T)) w3) :
   w3.cell? ⟨w.heap.size, 0, none⟩ = some a ∧ w3.cell? ⟨w.heap.size, 1, none⟩ = some b ∧ w3.frozen? ⟨w.heap.size, 0, none⟩ = false ∧ w3.frozen? ⟨w.heap.size, 1, none⟩ = false ∧ w.heap.size < w3.heap.size ∧ Below w.heap.size w w3 := by
 refine ⟨?_, ?_, ?_, ?_, ?_, ((Below.refl _ _).alloc (Nat.le_refl _) _).trans (h.mono (Nat.le_succ _))⟩
 · rw [h.cell (p := ⟨w.heap.size, 0, none⟩) (Nat.lt_succ_self _)]; simp [go_sem]
 · rw [h.cell (p := ⟨w.heap.size, 1, none⟩) (Nat.lt_succ_self _)]; simp [go_sem]
 · rw [h.frozen (p := ⟨w.heap.size, 0, none⟩) (Nat.lt_succ_self _)]; simp [go_sem]
 · rw [h.frozen (p := ⟨w.heap.size, 1, none⟩) (Nat.lt_succ_self _)]; simp [go_sem]
 · have := h.size; simp at this; omega
structure IsNum (w : World) (s : Bool) (ao : Option Addr) (n cap : Nat) (ds : List Int) (z : Int) (k : Nat) : Prop where
 neg : s = decide (z < 0)
 len : ds.length = n
 cap : n ≤ cap
 rd : Rd w ao ds
 nrm : Nrm ds
 val : val ds = (z.natAbs : Int)
 le : n ≤ k
def NumP (k : Nat) (z : Int) (w : World) (e : Ending) (w' : World) : Prop :=
 ∃ (s : Bool) (ao : Option Addr) (n cap : Nat) (ds : List Int), e = .returned (.agg #[.bool s, .slice ao n cap]) ∧ IsNum w' s ao n cap ds z k ∧ Below w.heap.size w w'
theorem num_ret {w w3 : World} {s : Bool} {ao : Option Addr} {n cap : Nat} {ds : List Int} {z : Int} {k R : Nat} {b0 : Bool} {a0 : Option Addr} {n0 c0 : Nat} (hR : w.heap.size ≤ R) (h0 : w3.cell? ⟨R, 0, none⟩ = some (.bool b0)) (h1 : w3.cell? ⟨R, 1, none⟩ = some (.slice a0 n0 c0))
   (h : IsNum w3 s ao n cap ds z k) (hb : Below w.heap.size w w3) : NumP k z w (.returned (.agg #[.bool s, .slice ao n cap])) ((w3.setCell ⟨R, 0, none⟩ (.bool s)).setCell ⟨R, 1, none⟩ (.slice ao n cap)) := by
 refine ⟨s, ao, n, cap, ds, rfl, ⟨h.neg, h.len, h.cap, ?_, h.nrm, h.val, h.le⟩, (hb.setCell hR _).setCell hR _⟩
 have h2 : (w3.setCell ⟨R, 0, none⟩ (.bool s)).cell? ⟨R, 1, none⟩ = some (.slice a0 n0 c0) := (World.cell?_setCell_other _ _ _ _ (by simp)).trans h1
 exact (h.rd.set _ h0 (by simp)).set _ h2 (by simp)
theorem num_of {w : World} {neg s : Bool} {ao : Option Addr} {n cap : Nat} {ds' : List Int} {z : Int} {k : Nat} {v : Int} (k1 : ds'.length = n) (k2 : n ≤ cap) (k3 : n ≤ k) (k4 : Nrm ds') (k5 : val ds' = v) (k6 : s = (neg && decide (v ≠ 0))) (k7 : Rd w ao ds')
   (hv : v = (z.natAbs : Int)) (hn : z ≠ 0 → neg = decide (z < 0)) : IsNum w s ao n cap ds' z k := by
 refine ⟨?_, k1, k2, k7, k4, by rw [k5, hv], k3⟩
 by_cases hz : z = 0
 · subst hz; rw [k6, hv]; simp
 · rw [k6, hn hz, hv]; simp [hz]
theorem IsNum.zero {w : World} {s : Bool} {ao : Option Addr} {n cap : Nat} {ds : List Int} {z : Int} {k : Nat} (h : IsNum w s ao n cap ds z k) : n = 0 ↔ z = 0 := by
 have h1 := nrm_zero h.nrm
 have h2 := h.val
 have h3 := h.len
 constructor
 · intro h0
   have : ds = [] := List.eq_nil_of_length_eq_zero (by omega)
   have := h1.2 this; omega
 · rintro rfl
   have : ds = [] := h1.1 (by rw [h2]; rfl)
   rw [this] at h3; simpa using h3.symm
def TrimP (neg : Bool) (n : Nat) (ds : List Int) (w : World) (e : Ending) (w' : World) : Prop :=
 ∃ (neg' : Bool) (ao' : Option Addr) (n' cap' : Nat) (ds' : List Int), e = .returned (.agg #[.bool neg', .slice ao' n' cap']) ∧
     ds'.length = n' ∧ n' ≤ cap' ∧ n' ≤ n ∧ Nrm ds' ∧ val ds' = val ds ∧ neg' = (neg && decide (val ds ≠ 0)) ∧ Rd w' ao' ds' ∧ Below w.heap.size w w'
theorem trim_some (neg : Bool) (n cap : Nat) (ds : List Int) (w w' : World) {b off : Nat} (hn : ds.length = n) (hc : n ≤ cap) (hd : Dig ds) (hr : Rd w (some ⟨b, off, none⟩) ds) (m : Nat) (hm : m < ds.length) (h0 : ds[m] ≠ 0)
   (hz : ∀ j, m + 1 ≤ j → (h : j < ds.length) → ds[j] = 0) (hb : Below w.heap.size w w') :
   TrimP neg n ds w (.returned (.agg #[.bool neg, .slice (some ⟨b, off, none⟩) (m + 1) cap])) w' := by
 have hv := val_cut ds (m + 1) hz
 have hnr := nrm_take hd m hm h0
 refine ⟨neg, _, m + 1, cap, ds.take (m + 1), rfl, by simp; omega, by omega, by omega, hnr, hv, ?_, (hr.take _).below hb (Nat.le_refl _), hb⟩
 have hne : ds.take (m + 1) ≠ [] := by intro h; have := congrArg List.length h; simp at this; subst this; simp at hm
 have := nrm_pos hnr hne
 simp; intro _; omega
theorem trim_none (neg : Bool) (n : Nat) (ds : List Int) (w w' : World) (hz : ∀ j, (h : j < ds.length) → ds[j] = 0) (hb : Below w.heap.size w w') :
   TrimP neg n ds w (.returned (.agg #[.bool false, .slice none 0 0])) w' := by
 have hv := val_cut ds 0 (fun j _ h => hz j h)
 simp [val] at hv
 exact ⟨false, none, 0, 0, [], rfl, rfl, Nat.le_refl _, Nat.zero_le _, nrm_nil, by simp [val, ← hv], by simp [← hv], Rd.nil _ _, hb⟩
set_option maxHeartbeats 400000 in
theorem trim_any (neg : Bool) (ao : Option Addr) (n cap : Nat) (ds : List Int) (w : World) (hn : ds.length = n) (hc : n ≤ cap) (hd : Dig ds) (hr : Rd w ao ds) (hm : n ≤ 1000000000) :
   Calls Tryd.prog 44 #[.bool neg, .slice ao n cap] w (TrimP neg n ds w) := by
 go_enter Tryd.func44, Tryd.ntmps44
 go_wp2
 go_loop [5] (fun i => ∃ k : Nat, k ≤ n ∧ i = .int .i64 k ∧ ∀ j, k ≤ j → (h : j < ds.length) → ds[j] = 0) (fun i => (intOf i).toNat)
 case atStart => exact ⟨n, Nat.le_refl _, rfl, fun j h1 h2 => by omega⟩
 case round =>
   obtain ⟨k, hk, rfl, hz⟩ := hrel
   have HN : Hid (ds.length = n) := hn
   have HD : Hid (Dig ds) := hd
   have HZ : Hid (∀ j, k ≤ j → (h : j < ds.length) → ds[j] = 0) := hz
   have HR : Hid (Rd w ao ds) := hr
   clear hz hr hd hn
   by_cases hk0 : 0 < k
   · obtain ⟨m, rfl⟩ : ∃ m, k = m + 1 := ⟨k - 1, by omega⟩
     have hml : m < ds.length := by have := HN.out; omega
     obtain ⟨b, off, rfl, hbl, hcell0⟩ := HR.out m hml
     have hcell := cell_alloc (o := Obj.cells #[Value.bool false, Value.slice none 0 0] 62) hbl hcell0
     clear hcell0
     go_wp2
     · go_round
       case rel =>
         have h0 : (ds[m] == 0) = true := by assumption
         exact ⟨m, by omega, by go_num, fun j h1 h2 => by
           by_cases e : j = m
           · subst e; simpa using h0
           · exact HZ.out j (by omega) h2⟩
       case measure => simp [intOf]
     · refine bodyPost_ret (v := .agg #[.bool neg, .slice (some ⟨b, off, none⟩) (m + 1) cap]) (by simp [results, Tryd.results44, go_sem]) rfl ?_
       have h0 : (ds[m] == 0) = false := by assumption
       exact trim_some neg n cap ds w _ HN.out hc HD.out HR.out m hml (by simpa using h0) HZ.out ((Below.refl _ _).alloc (Nat.le_refl _) _)
   · go_wp2
     refine bodyPost_ret (v := .agg #[.bool false, .slice none 0 0]) (by simp [results, Tryd.results44, go_sem]) rfl ?_
     exact trim_none neg n ds w _ (fun j h => HZ.out j (by omega) h) ((Below.refl _ _).alloc (Nat.le_refl _) _)
theorem Tryd.info88 : (Tryd.prog.info? 79).map (fun i => (i.zero, i.size, i.bytes)) = some (some (.int .u32 0), 1, 4) := by kernel_rfl
theorem or_hi (x y : Int) (hx : 0 ≤ x ∧ x < 4294967296) (hy : 0 ≤ y ∧ y < 4294967296) : bits .or .u64 (IntKind.u64.wrap (y * 4294967296)) x = x + y * 4294967296 := by
 obtain ⟨x, rfl⟩ := Int.eq_ofNat_of_zero_le hx.1
 obtain ⟨y, rfl⟩ := Int.eq_ofNat_of_zero_le hy.1
 rw [IntKind.wrap_u64, show ((y : Int) * 4294967296) % 18446744073709551616 = ((y * 4294967296 : Nat) : Int) by omega, bits_or_u64_nat _ _ (by omega) (by omega)]
 have e2 := Nat.two_pow_add_eq_or_of_lt (i := 32) (b := x) (by omega) y
 have e3 : (2 : Nat) ^ 32 * y = y * 4294967296 := by omega
 rw [e3] at e2
 rw [← e2]
 omega
set_option maxRecDepth 100000 in
set_option maxHeartbeats 400000 in
theorem int_any (n : Int) (w : World) (h0 : -9223372036854775808 ≤ n) (h1 : n ≤ 9223372036854775807) :
   Calls Tryd.prog 32 #[.int .i64 n] w (NumP 2 n w) := by
 by_cases hn : n < 0
 · obtain ⟨u, hu⟩ : ∃ u, u = -n := ⟨_, rfl⟩
   have hw : IntKind.u64.wrap (-IntKind.u64.wrap n) = u := by rw [IntKind.wrap_u64, IntKind.wrap_u64]; omega
   have HU : Hid (u = -n) := hu
   have hu0 : 0 < u := by omega
   have hu1 : u ≤ 9223372036854775808 := by omega
   clear hu
   go_enter Tryd.func32, Tryd.ntmps32
   go_wp2_with fail
   refine (trim_any true _ 2 2 [u % 4294967296, u / 4294967296] _ rfl (Nat.le_refl _) (dig_cons.2 ⟨by omega, dig_cons.2 ⟨by omega, dig_nil⟩⟩) (Rd.lit _ (by simp) rfl (by simp [maxLen])) (by omega)).mono ?_
   rintro e w3 ⟨neg', ao', n', cap', ds', rfl, k1, k2, k3, k4, k5, k6, k7, k8⟩
   obtain ⟨c0, c1, f0, f1, hz, hB⟩ := res2 (((Below.refl (w.heap.size + 1) _).alloc (by simp) _).trans (k8.mono (by simp)))
   have HN := num_of (z := n) k1 k2 k3 k4 k5 k6 k7 (by have := HU.out; simp [val]; omega) (by intro _; simp [hn])
   have HB : Hid (Below w.heap.size w w3) := hB
   clear k1 k2 k3 k4 k5 k6 k7 k8 hB
   go_wp2
   refine bodyPost_ret (v := .agg #[.bool neg', .slice ao' n' cap']) (by simp [results, Tryd.results32, go_sem, c0, c1]) rfl ?_
   exact num_ret (Nat.le_refl _) c0 c1 HN HB.out
 · go_enter Tryd.func32, Tryd.ntmps32
   go_wp2_with fail
   refine (trim_any false _ 2 2 [n % 4294967296, n / 4294967296] _ rfl (Nat.le_refl _) (dig_cons.2 ⟨by omega, dig_cons.2 ⟨by omega, dig_nil⟩⟩) (Rd.lit _ (by simp) rfl (by simp [maxLen])) (by omega)).mono ?_
   rintro e w3 ⟨neg', ao', n', cap', ds', rfl, k1, k2, k3, k4, k5, k6, k7, k8⟩
   obtain ⟨c0, c1, f0, f1, hz, hB⟩ := res2 (((Below.refl (w.heap.size + 1) _).alloc (by simp) _).trans (k8.mono (by simp)))
   have HN := num_of (z := n) k1 k2 k3 k4 k5 k6 k7 (by simp [val]; omega) (by intro _; simp [hn])
   have HB : Hid (Below w.heap.size w w3) := hB
   clear k1 k2 k3 k4 k5 k6 k7 k8 hB
   go_wp2
   refine bodyPost_ret (v := .agg #[.bool neg', .slice ao' n' cap']) (by simp [results, Tryd.results32, go_sem, c0, c1]) rfl ?_
   exact num_ret (Nat.le_refl _) c0 c1 HN HB.out
def Word (x : Int) : Prop := 0 ≤ x ∧ x < 18446744073709551616
def told (z : Int) : Bool := decide (-57896044618658097711785492504343953926634992332820282019728792003956564819968 ≤ z ∧ z < 57896044618658097711785492504343953926634992332820282019728792003956564819968)
def eight (ds : List Int) (k : Nat) : List Value := (List.range 8).map fun i => .int .u64 (if i < k then ds.getD i 0 else 0)
theorem wrap_word {x : Int} (h0 : 0 ≤ x) (h1 : x < 18446744073709551616) : IntKind.u64.wrap x = x := by
 rw [IntKind.wrap_u64]; omega
def Blk (W : World) (g : Nat) (vs : List Value) : Prop := g < W.heap.size ∧ ∀ i v, vs[i]? = some v → W.cell? ⟨g, i, none⟩ = some v ∧ W.frozen? ⟨g, i, none⟩ = false
theorem Blk.lt {W : World} {g : Nat} {vs : List Value} (h : Blk W g vs) : g < W.heap.size := h.1
theorem Blk.c {W : World} {g : Nat} {vs : List Value} (h : Blk W g vs) (i : Nat) {v : Value} (hi : vs[i]? = some v) : W.cell? ⟨g, i, none⟩ = some v := (h.2 i v hi).1
theorem Blk.f {W : World} {g : Nat} {vs : List Value} (h : Blk W g vs) (i : Nat) {v : Value} (hi : vs[i]? = some v) : W.frozen? ⟨g, i, none⟩ = false := (h.2 i v hi).2
theorem Blk.cs2 {W : World} {g : Nat} {v0 v1 : Value} {vs : List Value} (h : Blk W g (v0 :: v1 :: vs)) : W.cell? ⟨g, 0, none⟩ = some v0 ∧ W.cell? ⟨g, 1, none⟩ = some v1 := ⟨h.c 0 rfl, h.c 1 rfl⟩
theorem Blk.below {W W' : World} {B g : Nat} {vs : List Value} (h : Blk W g vs) (hB : Below B W W') (hg : g < B) : Blk W' g vs :=
 ⟨Nat.lt_of_lt_of_le h.1 hB.size, fun i _ hi => ⟨(hB.cell (p := ⟨g, i, none⟩) hg).trans (h.c i hi), (hB.frozen (p := ⟨g, i, none⟩) hg).trans (h.f i hi)⟩⟩
theorem Blk.step {W W' : World} {g : Nat} {vs : List Value} (h : Blk W g vs) (hB : Below W.heap.size W W') : Blk W' g vs := h.below hB h.1
theorem Blk.alloc {W : World} {g : Nat} {vs : List Value} (h : Blk W g vs) (o : Obj) : Blk (W.alloc o) g vs := h.step ((Below.refl W.heap.size W).alloc (Nat.le_refl _) o)
theorem Blk.drew {W : World} {g : Nat} {vs : List Value} (h : Blk W g vs) : Blk W.drew g vs := h
theorem Blk.new (W : World) (vs : List Value) (t : TypeId) {g : Nat} (hg : g = W.heap.size) : Blk (W.alloc (.cells vs.toArray t)) g vs := by
 subst hg
 refine ⟨by simp, fun i v hi => ⟨?_, by simp [go_sem]⟩⟩
 simp [go_sem, hi]
def agg (xs : List Int) : Value := .agg (xs.map (Value.int .u64)).toArray
def BoolP (b : Bool) (w : World) (e : Ending) (w' : World) : Prop := e = .returned (.bool b) ∧ Below w.heap.size w w'
open Go.RowKit Go.Shelf
def put (rs : List Int) (place : Nat) (zs : List Int) : List Int := rs.take place ++ (zs ++ rs.drop (place + zs.length))
structure Two (w W : World) (A0 A1 B0 B1 : Value) : Prop where
 a0 : W.cell? ⟨w.heap.size, 0, none⟩ = some A0
 a1 : W.cell? ⟨w.heap.size, 1, none⟩ = some A1
 b0 : W.cell? ⟨w.heap.size + 1, 0, none⟩ = some B0
 b1 : W.cell? ⟨w.heap.size + 1, 1, none⟩ = some B1
 r0 : W.cell? ⟨w.heap.size + 1 + 1, 0, none⟩ = some (.bool false)
 r1 : W.cell? ⟨w.heap.size + 1 + 1, 1, none⟩ = some (.slice none 0 0)
 f0 : W.frozen? ⟨w.heap.size + 1 + 1, 0, none⟩ = false
 f1 : W.frozen? ⟨w.heap.size + 1 + 1, 1, none⟩ = false
 sz : w.heap.size + 1 + 1 < W.heap.size
 below : Below w.heap.size w W
structure Wd (W : World) (g : Nat) (a3 a2 a1 a0 : Int) : Prop where
 c0 : W.cell? ⟨g, 0, none⟩ = some (.int .u64 a3)
 c1 : W.cell? ⟨g, 1, none⟩ = some (.int .u64 a2)
 c2 : W.cell? ⟨g, 2, none⟩ = some (.int .u64 a1)
 c3 : W.cell? ⟨g, 3, none⟩ = some (.int .u64 a0)
 f0 : W.frozen? ⟨g, 0, none⟩ = false
 f1 : W.frozen? ⟨g, 1, none⟩ = false
 f2 : W.frozen? ⟨g, 2, none⟩ = false
 f3 : W.frozen? ⟨g, 3, none⟩ = false
 lt : g < W.heap.size
theorem dig_set {zs : List Int} (h : Dig zs) (j : Nat) {u : Int} (h0 : 0 ≤ u) (h1 : u < 4294967296) : Dig (zs.set j u) := by
 intro d hd
 rcases List.mem_or_eq_of_mem_set hd with h' | h'
 · exact h d h'
 · subst h'; exact ⟨h0, h1⟩
def VP (v : Value) (w : World) (e : Ending) (w' : World) : Prop := e = .returned v ∧ Below w.heap.size w w'
theorem ret_bool {a b : Bool} (h : b = a) : Ending.returned (.bool a) = .returned (.bool b) := by rw [h]
open Go.ChangeShapes Go.WideShapes Go.ChangeAt Go.RowKit Go.Joins
theorem Tryd.own : ownKnob Tryd.prog.godebug = none := by kernel_rfl
open Go.ChangeShapes Go.WideShapes Go.ChangeAt Go.RowKit Go.Joins
abbrev Sp (x y : Int) : Value := .agg #[.int .i64 x, .int .i64 y]
theorem l1In_any (x a b : Int) (c : Bool) (hc : decide (a ≤ x ∧ x ≤ b) = c) (w : World) : Calls Tryd.prog 30 #[.int .i64 x, .int .i64 a, .int .i64 b] w (BoolP c w) := by
 go_enter Tryd.func30, Tryd.ntmps30
 go_wp2
 all_goals go_ret
 all_goals exact ⟨ret_bool (by subst hc; simp; try omega), Below.refl _ _⟩
abbrev Ps := Nat → Int × Int
def SpIn (w : World) (ao : Option Addr) (n : Nat) (p : Ps) : Prop :=
 ∀ i, i < n → ∃ A off, ao = some ⟨A, off, none⟩ ∧ A < w.heap.size ∧ w.cell? ⟨A, off + i * 2, none⟩ = some (.int .i64 (p i).1) ∧ w.cell? ⟨A, off + i * 2 + 1, none⟩ = some (.int .i64 (p i).2)
theorem SpIn.step {w w' : World} {ao : Option Addr} {n : Nat} {p : Ps} (h : SpIn w ao n p) (hB : Below w.heap.size w w') : SpIn w' ao n p := fun i hi => by
 obtain ⟨A, off, e, hA, h0, h1⟩ := h i hi
 exact ⟨A, off, e, Nat.lt_of_lt_of_le hA hB.size, (hB.cell (p := ⟨A, off + i * 2, none⟩) hA).trans h0, (hB.cell (p := ⟨A, off + i * 2 + 1, none⟩) hA).trans h1⟩
def spW (p : Ps) (k : Nat) : Int := if k % 2 = 0 then (p (k / 2)).1 else (p (k / 2)).2
theorem spW0 (p : Ps) (c : Nat) : spW p (c * 2) = (p c).1 := by
 unfold spW
 rw [if_pos (by omega), show c * 2 / 2 = c by omega]
theorem spW1 (p : Ps) (c : Nat) : spW p (c * 2 + 1) = (p c).2 := by
 unfold spW
 rw [if_neg (by omega), show (c * 2 + 1) / 2 = c by omega]
theorem spIn_row {w : World} {g n : Nat} {T : TypeId} {p : Ps} (h : w.rowIs g T (n * 2) (fun i => .int .i64 (spW p i))) : SpIn w (some ⟨g, 0, none⟩) n p := fun i hi =>
 ⟨g, 0, rfl, h.lt, by rw [Nat.zero_add, h.cell (by omega), spW0], by rw [Nat.zero_add, h.cell (by omega), spW1]⟩
theorem toSpot_det (x y : Int) (w : World) : Calls Tryd.prog 45 #[Sp x y] w (VP (Sp x y) w) := by
 go_enter Tryd.func45, Tryd.ntmps45
 go_wp2
 refine bodyPost_ret (v := Sp x y) (by simp [results, Tryd.results45, go_sem]) rfl ?_
 exact ⟨rfl, (((Below.refl _ _).alloc (Nat.le_refl _) _).alloc (by simp) _).alloc (by simp; omega) _⟩
theorem eqSpot_det (x y : Int) (w : World) : Calls Tryd.prog 50 #[Sp x y, Sp x y] w (BoolP true w) := by
 go_enter Tryd.func50, Tryd.ntmps50
 go_wp2
 go_ret
 exact ⟨rfl, ((Below.refl _ _).alloc (Nat.le_refl _) _).alloc (by simp) _⟩
theorem Tryd.infoSpot : (Tryd.prog.info? 41).map (fun i => (i.zero, i.size, i.bytes)) = some (some (.agg #[.int .i64 0, .int .i64 0]), 2, 16) := by kernel_rfl
theorem make_spots (n : Nat) (hn : n ≤ 1048576) (w : World) : (Instr.makeSlice 37 (.int .i64 (n : Int)) (.int .i64 (n : Int))).run Tryd.prog w = .ok (.slice (some ⟨w.heap.size, 0, none⟩) n n) (w.alloc (.cells (madeCells #[.int .i64 0, .int .i64 0] (n * 2)) 41)) := by
 obtain ⟨i, hi, hzz⟩ := Option.map_eq_some_iff.1 Tryd.infoSpot
 simp only [Prod.mk.injEq] at hzz
 obtain ⟨hz, hs, hb⟩ := hzz
 have hr := run_make (P := Tryd.prog) w 37 41 i (.agg #[.int .i64 0, .int .i64 0]) Tryd.underlying37 hi hz .i64 .i64 n n (by omega) (Int.le_refl _) (by rw [hb]; omega) (by omega)
 simp only [Int.toNat_natCast, hs, Value.cells] at hr
 exact hr
theorem rows_made (w : World) (n : Nat) (T : TypeId) : (w.alloc (.cells (madeCells #[.int .i64 0, .int .i64 0] (n * 2)) T)).rowIs w.heap.size T (n * 2) (fun _ => .int .i64 0) := by
 have h := World.rowIs_alloc w (madeCells #[.int .i64 0, .int .i64 0] (n * 2)) T (fun _ => .int .i64 0) (fun i hi => by
   rw [size_madeCells] at hi
   simp [madeCells, hi]
   rcases (show i % 2 = 0 ∨ i % 2 = 1 by omega) with h | h <;> simp [h])
 rwa [size_madeCells] at h
def cpS (p : Ps) (c : Nat) (i : Nat) : Value := .int .i64 (if i < c * 2 then spW p i else 0)
theorem rows_step {w w' : World} {g n : Nat} {T : TypeId} {f : Nat → Value} (h : w.rowIs g T n f) (hB : Below w.heap.size w w') : w'.rowIs g T n f := h.of_block (hB.block g h.lt)
theorem cps_step {w : World} {g n c : Nat} {T : TypeId} {p : Ps} (h : w.rowIs g T (n * 2) (cpS p c)) : ((w.setCell ⟨g, c * 2, none⟩ (.int .i64 (p c).1)).setCell ⟨g, c * 2 + 1, none⟩ (.int .i64 (p c).2)).rowIs g T (n * 2) (cpS p (c + 1)) := by
 refine ((h.set (c * 2) (.int .i64 (p c).1)).set (c * 2 + 1) (.int .i64 (p c).2)).congr (fun i hi => ?_)
 unfold cpS
 by_cases h1 : i = c * 2 + 1
 · subst h1
   rw [if_pos rfl, if_pos (by omega), spW1]
 rw [if_neg h1]
 by_cases h0 : i = c * 2
 · subst h0
   rw [if_pos rfl, if_pos (by omega), spW0]
 rw [if_neg h0]
 by_cases hl : i < c * 2
 · rw [if_pos hl, if_pos (by omega)]
 · rw [if_neg hl, if_neg (by omega)]
set_option maxRecDepth 100000 in
set_option maxHeartbeats 2000000 in
theorem toSpotS_any (ao : Option Addr) (n cap : Nat) (p : Ps) (hn : n ≤ 1048576) (w : World) (hS : SpIn w ao n p) : Calls Tryd.prog 33 #[.slice ao n cap] w (fun e w' => ∃ g, e = .returned (.slice (some ⟨g, 0, none⟩) n n) ∧ w.heap.size ≤ g ∧ w'.rowIs g 41 (n * 2) (fun i => .int .i64 (spW p i)) ∧ Below w.heap.size w w') := by
 have MK := make_spots n hn
 have HS : Hid (SpIn w ao n p) := hS
 clear hS
 go_enter Tryd.func33, Tryd.ntmps33
 go_wp2_with fail
 have R0 := rows_made w n 41
 have B0 : Below w.heap.size w (w.alloc (.cells (madeCells #[.int .i64 0, .int .i64 0] (n * 2)) 41)) := (Below.refl _ _).alloc (Nat.le_refl _) _
 generalize w.alloc (.cells (madeCells #[.int .i64 0, .int .i64 0] (n * 2)) 41) = W1 at *
 have hnI : (n : Int) ≤ 1048576 := by omega
 clear MK
 go_loopw [4] (fun i wr => ∃ c : Nat, c ≤ n ∧ i = .int .i64 c ∧ wr.rowIs w.heap.size 41 (n * 2) (cpS p c) ∧ Below w.heap.size w wr) (fun i _ => n - (intOf i).toNat)
 case atStart => exact ⟨0, by omega, rfl, R0.congr (fun i _ => by unfold cpS; simp), B0⟩
 case round =>
   clear R0 B0
   obtain ⟨c, hc, rfl, R, HB⟩ := hrel
   by_cases hcn : c < n
   · obtain ⟨A, off, rfl, hA, q0, q1⟩ := HS.out.step HB c hcn
     have hcI : (c : Int) < n := by omega
     go_wp2_with fail
     refine (toSpot_det (p c).1 (p c).2 _).mono ?_
     rintro e w1 ⟨rfl, hB⟩
     replace R := rows_step R hB
     replace HB := HB.trans (hB.mono HB.size)
     have o0 := R.cell (i := c * 2) (by omega); have o1 := R.cell (i := c * 2 + 1) (by omega)
     have f0 := R.frozen (c * 2); have f1 := R.frozen (c * 2 + 1)
     have RN := cps_step R
     have HN : Below w.heap.size w ((w1.setCell ⟨w.heap.size, c * 2, none⟩ (.int .i64 (p c).1)).setCell ⟨w.heap.size, c * 2 + 1, none⟩ (.int .i64 (p c).2)) := (HB.setCell (by simp) _).setCell (by simp) _
     clear hB q0 q1 hA R HB
     go_wp2
     go_roundw
     case rel => exact ⟨c + 1, by omega, by go_num, RN, HN⟩
     case measure => simp [intOf]; omega
   · obtain rfl : c = n := by omega
     have RN : wr.rowIs w.heap.size 41 (c * 2) (fun i => .int .i64 (spW p i)) := R.congr (fun i hi => by unfold cpS; rw [if_pos hi])
     clear R HS
     go_wp2
     go_ret
     exact ⟨_, rfl, Nat.le_refl _, RN, HB⟩
set_option maxRecDepth 100000 in
set_option maxHeartbeats 2000000 in
theorem eqSpotS_any (ao bo : Option Addr) (n ca cb : Nat) (p : Ps) (hn : n ≤ 1048576) (w : World) (hA : SpIn w ao n p) (hC : SpIn w bo n p) : Calls Tryd.prog 39 #[.slice ao n ca, .slice bo n cb] w (BoolP true w) := by
 have HA : Hid (SpIn w ao n p) := hA
 have HC : Hid (SpIn w bo n p) := hC
 have hnI : (n : Int) ≤ 1048576 := by omega
 clear hA hC
 go_enter Tryd.func39, Tryd.ntmps39
 go_wp2_with fail
 go_loopw [5] (fun i wr => ∃ c : Nat, c ≤ n ∧ i = .int .i64 c ∧ Below w.heap.size w wr) (fun i _ => n - (intOf i).toNat)
 case atStart => exact ⟨0, by omega, rfl, Below.refl _ _⟩
 case round =>
   obtain ⟨c, hc, rfl, HB⟩ := hrel
   by_cases hcn : c < n
   · obtain ⟨A, off, rfl, hA, q0, q1⟩ := HA.out.step HB c hcn
     obtain ⟨B, of2, rfl, hB', r0, r1⟩ := HC.out.step HB c hcn
     have hcI : (c : Int) < n := by omega
     have ES := eqSpot_det (p c).1 (p c).2
     have KS : (fun w' => w'.cell? ⟨A, off + c * 2, none⟩ = some (.int .i64 (p c).1) ∧ w'.cell? ⟨A, off + c * 2 + 1, none⟩ = some (.int .i64 (p c).2) ∧ w'.cell? ⟨B, of2 + c * 2, none⟩ = some (.int .i64 (p c).1) ∧ w'.cell? ⟨B, of2 + c * 2 + 1, none⟩ = some (.int .i64 (p c).2)) wr := ⟨q0, q1, r0, r1⟩
     go_wp2_with fail
     go_region_held3 (fun w' => w'.cell? ⟨A, off + c * 2, none⟩ = some (.int .i64 (p c).1) ∧ w'.cell? ⟨A, off + c * 2 + 1, none⟩ = some (.int .i64 (p c).2) ∧ w'.cell? ⟨B, of2 + c * 2, none⟩ = some (.int .i64 (p c).1) ∧ w'.cell? ⟨B, of2 + c * 2 + 1, none⟩ = some (.int .i64 (p c).2)) (first | (exact KS) | (exact KS'))
       (first
         | (go_at_call 50; refine (ES _).mono ?_; rintro e w1 ⟨rfl, hB⟩; have KS' : (fun w' => w'.cell? ⟨A, off + c * 2, none⟩ = some (.int .i64 (p c).1) ∧ w'.cell? ⟨A, off + c * 2 + 1, none⟩ = some (.int .i64 (p c).2) ∧ w'.cell? ⟨B, of2 + c * 2, none⟩ = some (.int .i64 (p c).1) ∧ w'.cell? ⟨B, of2 + c * 2 + 1, none⟩ = some (.int .i64 (p c).2)) w1 := ⟨(hB.cell (p := ⟨A, _, none⟩) hA).trans q0, (hB.cell (p := ⟨A, _, none⟩) hA).trans q1, (hB.cell (p := ⟨B, _, none⟩) hB').trans r0, (hB.cell (p := ⟨B, _, none⟩) hB').trans r1⟩; (first | (have HB2 := HB.trans (hB.mono HB.size)) | (have HB2 := HB.drew.trans (hB.mono HB.drew.size))); clear hB))
     all_goals clear HB KS q0 q1 r0 r1 ES
     all_goals go_wp2
     all_goals go_roundw
     case rel => exact ⟨c + 1, by omega, by go_num, HB2⟩
     case measure => simp [intOf]; omega
   · obtain rfl : c = n := by omega
     clear HA HC
     go_wp2
     go_ret
     exact ⟨rfl, HB⟩
set_option maxRecDepth 100000 in
set_option maxHeartbeats 2000000 in
theorem toRing_any (ao : Option Addr) (m cap : Nat) (q : Ps) (hm : m ≤ 1048576) (w : World) (hS : SpIn w ao m q) : Calls Tryd.prog 17 #[.agg #[.slice ao m cap]] w (fun e w' => ∃ g, e = .returned (.agg #[.slice (some ⟨g, 0, none⟩) m m]) ∧ w.heap.size ≤ g ∧ w'.rowIs g 41 (m * 2) (fun i => .int .i64 (spW q i)) ∧ Below w.heap.size w w') := by
 have HB : Below w.heap.size w (((w.alloc (.cells #[.slice ao m cap] 36)).alloc (.cells #[.slice none 0 0] 39)).alloc (.cells #[.slice none 0 0] 39)) := (((Below.refl _ w).alloc (Nat.le_refl _) _).alloc (by simp) _).alloc (by simp; omega) _
 have B0 := ((Blk.new w [.slice ao m cap] 36 rfl).alloc (.cells #[.slice none 0 0] 39)).alloc (.cells #[.slice none 0 0] 39)
 have B1 := (Blk.new (w.alloc (.cells #[.slice ao m cap] 36)) [.slice none 0 0] 39 (g := w.heap.size + 1) (by simp)).alloc (.cells #[.slice none 0 0] 39)
 have B2 := Blk.new ((w.alloc (.cells #[.slice ao m cap] 36)).alloc (.cells #[.slice none 0 0] 39)) [.slice none 0 0] 39 (g := w.heap.size + 1 + 1) (by simp)
 have HS := hS.step HB
 have hsz : (((w.alloc (.cells #[.slice ao m cap] 36)).alloc (.cells #[.slice none 0 0] 39)).alloc (.cells #[.slice none 0 0] 39)).heap.size = w.heap.size + 3 := by simp
 have TP := fun w h => toSpotS_any ao m cap q hm w h
 clear hS
 go_enter Tryd.func17, Tryd.ntmps17
 have b0 := B0.c 0 rfl
 go_wp2_with fail
 refine (TP _ HS).mono ?_
 rintro e w1 ⟨g, rfl, hg, R, hB⟩
 rw [hsz] at hg
 replace B1 := B1.step hB; replace B2 := B2.step hB
 replace HB := HB.trans (hB.mono HB.size)
 clear hB TP B0 b0 HS hsz
 have c0 := B1.c 0 rfl; have f0 := B1.f 0 rfl; have l1 := B1.lt; have d0 := B2.c 0 rfl; have e0 := B2.f 0 rfl; have l2 := B2.lt
 have RN : ((w1.setCell ⟨w.heap.size + 1 + 1, 0, none⟩ (.slice (some ⟨g, 0, none⟩) m m)).setCell ⟨w.heap.size + 1, 0, none⟩ (.slice (some ⟨g, 0, none⟩) m m)).rowIs g 41 (m * 2) (fun i => .int .i64 (spW q i)) := (R.setOther (by show g ≠ w.heap.size + 1 + 1; omega) _).setOther (by show g ≠ w.heap.size + 1; omega) _
 have HN : Below w.heap.size w ((w1.setCell ⟨w.heap.size + 1 + 1, 0, none⟩ (.slice (some ⟨g, 0, none⟩) m m)).setCell ⟨w.heap.size + 1, 0, none⟩ (.slice (some ⟨g, 0, none⟩) m m)) := Below.setCell (Below.setCell HB (by show w.heap.size ≤ w.heap.size + 1 + 1; omega) _) (by show w.heap.size ≤ w.heap.size + 1; omega) _
 clear R HB B1 B2
 go_wp2
 refine bodyPost_ret (v := .agg #[.slice (some ⟨g, 0, none⟩) m m]) (by simp [results, Tryd.results17, go_sem, c0]) rfl ?_
 exact ⟨g, rfl, by omega, RN, HN⟩
set_option maxRecDepth 100000 in
set_option maxHeartbeats 2000000 in
theorem eqRing_any (ao bo : Option Addr) (m ca cb : Nat) (q : Ps) (hm : m ≤ 1048576) (w : World) (hA : SpIn w ao m q) (hC : SpIn w bo m q) : Calls Tryd.prog 21 #[.agg #[.slice ao m ca], .agg #[.slice bo m cb]] w (BoolP true w) := by
 have HB : Below w.heap.size w ((w.alloc (.cells #[.slice ao m ca] 39)).alloc (.cells #[.slice bo m cb] 39)) := ((Below.refl _ w).alloc (Nat.le_refl _) _).alloc (by simp) _
 have B0 := (Blk.new w [.slice ao m ca] 39 rfl).alloc (.cells #[.slice bo m cb] 39)
 have B1 := Blk.new (w.alloc (.cells #[.slice ao m ca] 39)) [.slice bo m cb] 39 (g := w.heap.size + 1) (by simp)
 have HA := hA.step HB
 have HC := hC.step HB
 have EP := fun w h h' => eqSpotS_any ao bo m ca cb q hm w h h'
 clear hA hC
 go_enter Tryd.func21, Tryd.ntmps21
 have b0 := B0.c 0 rfl
 have b1 := B1.c 0 rfl
 go_wp2_with fail
 refine (EP _ HA HC).mono ?_
 rintro e w1 ⟨rfl, hB⟩
 replace HB := HB.trans (hB.mono HB.size)
 clear hB EP HA HC B0 B1 b0 b1
 go_wp2
 go_ret
 exact ⟨rfl, HB⟩
theorem szSpotS_any (ao : Option Addr) (m cap : Nat) (l : Int) (h0 : 0 ≤ l) (h1 : l ≤ 1048576) (hm : m ≤ 9223372036854775807) (w : World) : Calls Tryd.prog 29 #[.slice ao m cap, .int .i64 l] w (VP (.int .i64 (if (m : Int) ≤ l then l - m else -1)) w) := by
 have hmI : (m : Int) ≤ 9223372036854775807 := by omega
 by_cases h : (m : Int) ≤ l
 · rw [if_pos h]
   go_enter Tryd.func29, Tryd.ntmps29
   go_wp2
   go_ret
   exact ⟨rfl, Below.refl _ _⟩
 · rw [if_neg h]
   have h' : l < (m : Int) := by omega
   go_enter Tryd.func29, Tryd.ntmps29
   go_wp2
   go_ret
   exact ⟨rfl, Below.refl _ _⟩
theorem szRing_any (ao : Option Addr) (m cap : Nat) (l : Int) (h0 : 0 ≤ l) (h1 : l ≤ 1048576) (hm : m ≤ 9223372036854775807) (w : World) : Calls Tryd.prog 14 #[.agg #[.slice ao m cap], .int .i64 l] w (VP (.int .i64 (if (m : Int) ≤ l then l - m else -1)) w) := by
 have HB : Below w.heap.size w (w.alloc (.cells #[.slice ao m cap] 36)) := (Below.refl _ w).alloc (Nat.le_refl _) _
 have B0 := Blk.new w [.slice ao m cap] 36 rfl
 have SP := szSpotS_any ao m cap l h0 h1 hm
 go_enter Tryd.func14, Tryd.ntmps14
 have b0 := B0.c 0 rfl
 by_cases h : (m : Int) ≤ l
 · rw [if_pos h] at SP ⊢
   go_wp2_with fail
   refine (SP _).mono ?_
   rintro e w1 ⟨rfl, hB⟩
   replace HB := HB.trans (hB.mono HB.size)
   clear hB SP B0 b0
   have h2 : 0 ≤ l - (m : Int) := by omega
   go_wp2
   go_ret
   exact ⟨rfl, HB⟩
 · rw [if_neg h] at SP ⊢
   go_wp2_with fail
   refine (SP _).mono ?_
   rintro e w1 ⟨rfl, hB⟩
   replace HB := HB.trans (hB.mono HB.size)
   clear hB SP B0 b0
   go_wp2
   go_ret
   exact ⟨rfl, HB⟩
def RgIn (w : World) (ao : Option Addr) (n : Nat) (S : Nat → Option Addr × Nat) (L : Nat → Nat) (q : Nat → Ps) : Prop :=
 ∀ i, i < n → ∃ A off, ao = some ⟨A, off, none⟩ ∧ A < w.heap.size ∧ w.cell? ⟨A, off + i, none⟩ = some (.slice (S i).1 (L i) (S i).2) ∧ SpIn w (S i).1 (L i) (q i)
theorem RgIn.step {w w' : World} {ao : Option Addr} {n : Nat} {S : Nat → Option Addr × Nat} {L : Nat → Nat} {q : Nat → Ps} (h : RgIn w ao n S L q) (hB : Below w.heap.size w w') : RgIn w' ao n S L q := fun i hi => by
 obtain ⟨A, off, e, hA, h0, h1⟩ := h i hi
 exact ⟨A, off, e, Nat.lt_of_lt_of_le hA hB.size, (hB.cell (p := ⟨A, off + i, none⟩) hA).trans h0, h1.step hB⟩
theorem Tryd.infoRing : (Tryd.prog.info? 39).map (fun i => (i.zero, i.size, i.bytes)) = some (some (.agg #[.slice none 0 0]), 1, 24) := by kernel_rfl
theorem make_rings (n : Nat) (hn : n ≤ 1048576) (w : World) : (Instr.makeSlice 25 (.int .i64 (n : Int)) (.int .i64 (n : Int))).run Tryd.prog w = .ok (.slice (some ⟨w.heap.size, 0, none⟩) n n) (w.alloc (.cells (madeCells #[.slice none 0 0] n) 39)) := by
 obtain ⟨i, hi, hzz⟩ := Option.map_eq_some_iff.1 Tryd.infoRing
 simp only [Prod.mk.injEq] at hzz
 obtain ⟨hz, hs, hb⟩ := hzz
 have hr := run_make (P := Tryd.prog) w 25 39 i (.agg #[.slice none 0 0]) Tryd.underlying25 hi hz .i64 .i64 n n (by omega) (Int.le_refl _) (by rw [hb]; omega) (by omega)
 simp only [Int.toNat_natCast, hs, Value.cells, Nat.mul_one] at hr
 exact hr
def cpR (S : Nat → Nat) (L : Nat → Nat) (c : Nat) (i : Nat) : Value := if i < c then .slice (some ⟨S i, 0, none⟩) (L i) (L i) else .slice none 0 0
set_option maxRecDepth 100000 in
set_option maxHeartbeats 2000000 in
theorem toRingSR_any (ao : Option Addr) (n cap : Nat) (S : Nat → Option Addr × Nat) (L : Nat → Nat) (q : Nat → Ps) (hn : n ≤ 1048576) (hL : ∀ i, i < n → L i ≤ 1048576) (w : World) (hS : RgIn w ao n S L q) : Calls Tryd.prog 7 #[.slice ao n cap] w (fun e w' => ∃ g S', e = .returned (.slice (some ⟨g, 0, none⟩) n n) ∧ RgIn w' (some ⟨g, 0, none⟩) n S' L q ∧ (∀ i, (S' i).2 = L i) ∧ (w.heap.size ≤ g ∧ ∀ i a, i < n → (S' i).1 = some a → w.heap.size ≤ a.block) ∧ g < w'.heap.size ∧ (∀ i, i < n → ∃ gi, (S' i).1 = some ⟨gi, 0, none⟩ ∧ g < gi ∧ w'.rowIs gi 41 (L i * 2) (fun k => .int .i64 (spW (q i) k))) ∧ Below w.heap.size w w') := by
 have MK := make_rings n hn
 have HS : Hid (RgIn w ao n S L q) := hS
 have HL : Hid (∀ i, i < n → L i ≤ 1048576) := hL
 clear hS hL
 go_enter Tryd.func7, Tryd.ntmps7
 go_wp2_with fail
 have R0 := World.rowIs_made w (.slice none 0 0) n 39
 have B0 : Below w.heap.size w (w.alloc (.cells (madeCells #[.slice none 0 0] n) 39)) := (Below.refl _ _).alloc (Nat.le_refl _) _
 generalize w.alloc (.cells (madeCells #[.slice none 0 0] n) 39) = W1 at *
 have hnI : (n : Int) ≤ 1048576 := by omega
 clear MK
 go_loopw [4] (fun i wr => ∃ (c : Nat) (S' : Nat → Nat), c ≤ n ∧ i = .int .i64 c ∧ wr.rowIs w.heap.size 39 n (cpR S' L c) ∧ (∀ j, j < c → w.heap.size < S' j ∧ wr.rowIs (S' j) 41 (L j * 2) (fun i => .int .i64 (spW (q j) i))) ∧ Below w.heap.size w wr) (fun i _ => n - (intOf i).toNat)
 case atStart => exact ⟨0, fun _ => 0, by omega, rfl, R0.congr (fun i _ => by unfold cpR; simp), fun j hj => by omega, B0⟩
 case round =>
   clear R0 B0
   obtain ⟨c, S', hc, rfl, R, hp, HB⟩ := hrel
   have HP : Hid (∀ j, j < c → w.heap.size < S' j ∧ wr.rowIs (S' j) 41 (L j * 2) (fun i => .int .i64 (spW (q j) i))) := hp
   clear hp
   by_cases hcn : c < n
   · obtain ⟨A, off, rfl, hA, hcell, hrow⟩ := HS.out.step HB c hcn
     have hcI : (c : Int) < n := by omega
     have TL := fun w h => toRing_any (S c).1 (L c) (S c).2 (q c) (HL.out c hcn) w h
     have hlr := R.lt
     go_wp2_with fail
     refine (TL _ hrow).mono ?_
     rintro e w1 ⟨g, rfl, hg, RG, hB⟩
     replace R := rows_step R hB
     have HP2 : Hid (∀ j, j < c → w.heap.size < S' j ∧ w1.rowIs (S' j) 41 (L j * 2) (fun i => .int .i64 (spW (q j) i))) := fun j hj => ⟨(HP.out j hj).1, rows_step (HP.out j hj).2 hB⟩
     replace HB := HB.trans (hB.mono HB.size)
     have o0 := R.cell (i := c) (by omega); have f0 := R.frozen c
     have RN : (w1.setCell ⟨w.heap.size, c, none⟩ (.slice (some ⟨g, 0, none⟩) (L c) (L c))).rowIs w.heap.size 39 n (cpR (fun j => if j = c then g else S' j) L (c + 1)) := (R.set c _).congr (fun i hi => by
       unfold cpR
       by_cases h : i = c
       · subst h; simp
       · rcases Nat.lt_or_ge i c with h' | h'
         · rw [if_neg h, if_pos h', if_pos (by omega)]; dsimp only; rw [if_neg h]
         · rw [if_neg h, if_neg (by omega), if_neg (by omega)])
     have HPN : Hid (∀ j, j < c + 1 → w.heap.size < (if j = c then g else S' j) ∧ (w1.setCell ⟨w.heap.size, c, none⟩ (.slice (some ⟨g, 0, none⟩) (L c) (L c))).rowIs (if j = c then g else S' j) 41 (L j * 2) (fun i => .int .i64 (spW (q j) i))) := fun j hj => by
       by_cases h : j = c
       · subst h
         rw [if_pos rfl]
         exact ⟨by omega, RG.setOther (by show g ≠ w.heap.size; omega) _⟩
       · rw [if_neg h]
         have := HP2.out j (by omega)
         exact ⟨this.1, this.2.setOther (by have h2 := this.1; show S' j ≠ w.heap.size; omega) _⟩
     have HN : Below w.heap.size w (w1.setCell ⟨w.heap.size, c, none⟩ (.slice (some ⟨g, 0, none⟩) (L c) (L c))) := Below.setCell HB (Nat.le_refl _) _
     clear hB hcell hrow hA R HB RG HP HP2 TL hlr hg
     go_wp2
     go_roundw
     case rel => exact ⟨c + 1, _, by omega, by go_num, RN, HPN.out, HN⟩
     case measure => simp [intOf]; omega
   · obtain rfl : c = n := by omega
     have LI : Hid (RgIn wr (some ⟨w.heap.size, 0, none⟩) c (fun i => (some ⟨S' i, 0, none⟩, L i)) L q) := fun i hi => by
       refine ⟨w.heap.size, 0, rfl, R.lt, ?_, spIn_row (HP.out i hi).2⟩
       rw [Nat.zero_add, R.cell hi]
       unfold cpR
       rw [if_pos hi]
     have HPB : Hid (∀ i (a : Addr), i < c → (some (⟨S' i, 0, none⟩ : Addr)) = some a → w.heap.size ≤ a.block) := fun i a hi ha => by
       have := (HP.out i hi).1
       cases ha
       exact Nat.le_of_lt this
     have HPR : Hid (∀ i, i < c → ∃ gi, (some (⟨S' i, 0, none⟩ : Addr)) = some ⟨gi, 0, none⟩ ∧ w.heap.size < gi ∧ wr.rowIs gi 41 (L i * 2) (fun k => .int .i64 (spW (q i) k))) := fun i hi => ⟨S' i, rfl, HP.out i hi⟩
     have hgl := R.lt
     clear R HS HP HL
     go_wp2
     go_ret
     exact ⟨_, _, rfl, LI.out, fun _ => rfl, ⟨Nat.le_refl _, HPB.out⟩, hgl, HPR.out, HB⟩
theorem toRingS_any (ao : Option Addr) (n cap : Nat) (S : Nat → Option Addr × Nat) (L : Nat → Nat) (q : Nat → Ps) (hn : n ≤ 1048576) (hL : ∀ i, i < n → L i ≤ 1048576) (w : World) (hS : RgIn w ao n S L q) : Calls Tryd.prog 7 #[.slice ao n cap] w (fun e w' => ∃ g S', e = .returned (.slice (some ⟨g, 0, none⟩) n n) ∧ RgIn w' (some ⟨g, 0, none⟩) n S' L q ∧ (∀ i, (S' i).2 = L i) ∧ (w.heap.size ≤ g ∧ ∀ i a, i < n → (S' i).1 = some a → w.heap.size ≤ a.block) ∧ Below w.heap.size w w') :=
 (toRingSR_any ao n cap S L q hn hL w hS).mono fun _ _ ⟨g, S', h1, h2, h3, h4, _, _, h6⟩ => ⟨g, S', h1, h2, h3, h4, h6⟩
set_option maxRecDepth 100000 in
set_option maxHeartbeats 2000000 in
theorem eqRingS_any (ao bo : Option Addr) (n ca cb : Nat) (S S' : Nat → Option Addr × Nat) (L : Nat → Nat) (q : Nat → Ps) (hn : n ≤ 1048576) (hL : ∀ i, i < n → L i ≤ 1048576) (w : World) (hA : RgIn w ao n S L q) (hC : RgIn w bo n S' L q) : Calls Tryd.prog 9 #[.slice ao n ca, .slice bo n cb] w (BoolP true w) := by
 have HA : Hid (RgIn w ao n S L q) := hA
 have HC : Hid (RgIn w bo n S' L q) := hC
 have HL : Hid (∀ i, i < n → L i ≤ 1048576) := hL
 have hnI : (n : Int) ≤ 1048576 := by omega
 clear hA hC hL
 go_enter Tryd.func9, Tryd.ntmps9
 go_wp2_with fail
 go_loopw [5] (fun i wr => ∃ c : Nat, c ≤ n ∧ i = .int .i64 c ∧ Below w.heap.size w wr) (fun i _ => n - (intOf i).toNat)
 case atStart => exact ⟨0, by omega, rfl, Below.refl _ _⟩
 case round =>
   obtain ⟨c, hc, rfl, HB⟩ := hrel
   by_cases hcn : c < n
   · obtain ⟨A, off, rfl, hA, q0, hra⟩ := HA.out.step HB c hcn
     obtain ⟨B, of2, rfl, hB', r0, hrb⟩ := HC.out.step HB c hcn
     have hcI : (c : Int) < n := by omega
     have EL := fun w h h' => eqRing_any (S c).1 (S' c).1 (L c) (S c).2 (S' c).2 (q c) (HL.out c hcn) w h h'
     have KS : (fun w' => w'.cell? ⟨A, off + c, none⟩ = some (.slice (S c).1 (L c) (S c).2) ∧ w'.cell? ⟨B, of2 + c, none⟩ = some (.slice (S' c).1 (L c) (S' c).2)) wr := ⟨q0, r0⟩
     go_wp2_with fail
     go_region_held3 (fun w' => w'.cell? ⟨A, off + c, none⟩ = some (.slice (S c).1 (L c) (S c).2) ∧ w'.cell? ⟨B, of2 + c, none⟩ = some (.slice (S' c).1 (L c) (S' c).2)) (first | (exact KS) | (exact KS'))
       (first
         | (go_at_call 21; refine (EL _ (by first | exact hra | exact hra.drew) (by first | exact hrb | exact hrb.drew)).mono ?_; rintro e w1 ⟨rfl, hB⟩; have KS' : (fun w' => w'.cell? ⟨A, off + c, none⟩ = some (.slice (S c).1 (L c) (S c).2) ∧ w'.cell? ⟨B, of2 + c, none⟩ = some (.slice (S' c).1 (L c) (S' c).2)) w1 := ⟨(hB.cell (p := ⟨A, _, none⟩) hA).trans q0, (hB.cell (p := ⟨B, _, none⟩) hB').trans r0⟩; (first | (have HB2 := HB.trans (hB.mono HB.size)) | (have HB2 := HB.drew.trans (hB.mono HB.drew.size))); clear hB))
     all_goals clear HB KS q0 r0 hra hrb EL
     all_goals go_wp2
     all_goals go_roundw
     case rel => exact ⟨c + 1, by omega, by go_num, HB2⟩
     case measure => simp [intOf]; omega
   · obtain rfl : c = n := by omega
     clear HA HC HL
     go_wp2
     go_ret
     exact ⟨rfl, HB⟩
def SzR (n : Nat) (L : Nat → Nat) (w : World) (e : Ending) (w' : World) : Prop := ∃ z : Int, e = .returned (.int .i64 z) ∧ -1 ≤ z ∧ z ≤ 1048576 ∧ (0 ≤ z → n ≤ 1048576 ∧ ∀ i, i < n → L i ≤ 1048576) ∧ Below w.heap.size w w'
set_option maxRecDepth 100000 in
set_option maxHeartbeats 2000000 in
theorem szRingS_any (l0 : Int) (h00 : 0 ≤ l0) (h01 : l0 ≤ 1048576) (ao : Option Addr) (n cap : Nat) (S : Nat → Option Addr × Nat) (L : Nat → Nat) (q : Nat → Ps) (hn : n ≤ 9223372036854775807) (hL : ∀ i, i < n → L i ≤ 9223372036854775807) (w : World) (hS : RgIn w ao n S L q) : Calls Tryd.prog 5 #[.slice ao n cap, .int .i64 l0] w (SzR n L w) := by
 have hnI : (n : Int) ≤ 9223372036854775807 := by omega
 by_cases h : (n : Int) ≤ l0
 · have h' : (n : Int) ≤ 1048576 := by omega
   have hw' : IntKind.i64.wrap (l0 - (n : Int)) = l0 - n := by rw [IntKind.wrap_i64]; omega
   have hw0 : 0 ≤ l0 - (n : Int) := by omega
   have HS : Hid (RgIn w ao n S L q) := hS
   have HL : Hid (∀ i, i < n → L i ≤ 9223372036854775807) := hL
   clear hS hL
   go_enter Tryd.func5, Tryd.ntmps5
   go_wp2_with fail
   go_loopw [1, 5] (fun s i wr => ∃ (c : Nat) (l : Int), c ≤ n ∧ i = .int .i64 c ∧ s = .int .i64 l ∧ 0 ≤ l ∧ l ≤ 1048576 ∧ (∀ j, j < c → L j ≤ 1048576) ∧ Below w.heap.size w wr) (fun _ i _ => n - (intOf i).toNat)
   case atStart => exact ⟨0, _, by omega, rfl, rfl, by omega, by omega, fun j hj => by omega, Below.refl _ _⟩
   case round =>
     obtain ⟨c, l, hc, rfl, rfl, l0, l1, hall, HB⟩ := hrel
     have HA : Hid (∀ j, j < c → L j ≤ 1048576) := hall
     clear hall
     by_cases hcn : c < n
     · obtain ⟨A, off, rfl, hA, hcell, -⟩ := HS.out.step HB c hcn
       have hcI : (c : Int) < n := by omega
       have SL := szRing_any (S c).1 (L c) (S c).2 l l0 l1 (HL.out c hcn)
       go_wp2_with fail
       refine (SL _).mono ?_
       rintro e w1 ⟨rfl, hB⟩
       replace HB := HB.trans (hB.mono HB.size)
       clear hB SL hcell hA
       by_cases hl : (L c : Int) ≤ l
       · rw [if_pos hl]
         have hl2 : 0 ≤ l - (L c : Int) := by omega
         go_wp2
         go_roundw
         case rel => exact ⟨c + 1, _, by omega, by go_num, rfl, by omega, by omega, fun j hj => by
           rcases Nat.lt_or_ge j c with h | h
           · exact HA.out j h
           · obtain rfl : j = c := by omega
             omega, HB⟩
         case measure => simp [intOf]; omega
       · rw [if_neg hl]
         go_wp2
         go_ret
         exact ⟨-1, rfl, by omega, by omega, fun h => by omega, HB⟩
     · obtain rfl : c = n := by omega
       clear HS HL
       go_wp2
       go_ret
       exact ⟨l, rfl, by omega, l1, fun _ => ⟨by omega, HA.out⟩, HB⟩
 · have h' : l0 < (n : Int) := by omega
   have hw' : IntKind.i64.wrap (l0 - (n : Int)) = l0 - n := by rw [IntKind.wrap_i64]; omega
   have hw0 : l0 - (n : Int) < 0 := by omega
   clear hS hL
   go_enter Tryd.func5, Tryd.ntmps5
   go_wp2
   go_ret
   exact ⟨-1, rfl, by omega, by omega, fun h => by omega, Below.refl _ _⟩
def bA (l : List UInt8) : ByteArray := ⟨l.toArray⟩
theorem bA_append (a b : List UInt8) : bA a ++ bA b = bA (a ++ b) := by
 apply ByteArray.ext
 simp [bA]
theorem bA_list (l : List UInt8) : (bA l).data.toList = l := by simp [bA]
theorem dg_dec (n : Nat) : (dgs n).map UInt8.ofNat = Lib.decDigits n := by
 have hm : ∀ l : List UInt8, (l.map UInt8.toNat).map UInt8.ofNat = l := fun l => by
   rw [List.map_map]
   conv => rhs; rw [← List.map_id l]
   exact List.map_congr_left fun x _ => by simp
 rcases Nat.eq_zero_or_pos n with rfl | hp
 · rw [dgs_zero, Lib.decDigits, dif_pos (by omega)]
   rfl
 · rw [dgs_pos hp]
   unfold dg
   rw [if_neg (by omega), hm]
theorem strL_u8 (l : List Nat) : strL l = bA (l.map UInt8.ofNat) := by
 apply ByteArray.ext
 simp [strL, strOfNums, bA]
theorem txS_itoa (z : Int) : txS z = bA (Lib.itoa z) := by
 unfold txS
 rw [strL_u8]
 congr 1
 unfold txL Lib.itoa
 rw [List.map_append, dg_dec]
 by_cases h : z < 0
 · rw [if_pos h, if_pos h]
   rfl
 · rw [if_neg h, if_neg h, show z.natAbs = z.toNat by omega]
   rfl
theorem dec_len (k : Nat) (hk : 0 < k) {n : Nat} (h : n < 10 ^ k) : (Lib.decDigits n).length ≤ k := by
 rw [← dg_dec, List.length_map]
 exact dgs_len hk h
theorem itoa_len {z : Int} (h : -999999999999999 ≤ z ∧ z ≤ 999999999999999) : (Lib.itoa z).length ≤ 16 := by
 unfold Lib.itoa
 split
 · have := dec_len 15 (by omega) (n := z.natAbs) (by omega)
   simp only [List.length_cons]
   omega
 · have := dec_len 15 (by omega) (n := z.toNat) (by omega)
   omega
def shB (z : Int) : Bool := decide (-999999999999999 ≤ z ∧ z ≤ 999999999999999)
def htB (n : Nat) (p : Ps) : Bool := decide (0 < n ∧ ∀ i, i < n → shB (p i).1 = true ∧ shB (p i).2 = true)
theorem htB_iff {n : Nat} {p : Ps} : htB n p = true ↔ 0 < n ∧ ∀ i, i < n → shB (p i).1 = true ∧ shB (p i).2 = true := by
 unfold htB
 exact decide_eq_true_iff
def smR (L : Nat → Nat) : Nat → Nat
 | 0 => 0
 | i + 1 => smR L i + L i
theorem smR_mono {L : Nat → Nat} {c n : Nat} (h : c ≤ n) : smR L c ≤ smR L n := by
 induction h with
 | refl => exact Nat.le_refl _
 | step _ ih => exact Nat.le_trans ih (by rw [smR]; omega)
theorem smR_le {L : Nat → Nat} {n : Nat} (hL : ∀ i, i < n → L i ≤ 1048576) : ∀ c, c ≤ n → smR L c ≤ c * 1048576
 | 0, _ => by simp [smR]
 | c + 1, h => by
   have := smR_le hL c (by omega)
   have := hL c (by omega)
   rw [smR]
   omega
def hvB (n : Nat) (L : Nat → Nat) (q : Nat → Ps) : Bool := decide ((n ≤ 6 ∧ smR L n ≤ 20) ∧ ∀ i, i < n → htB (L i) (q i) = true)
theorem hvB_iff {n : Nat} {L : Nat → Nat} {q : Nat → Ps} : hvB n L q = true ↔ (n ≤ 6 ∧ smR L n ≤ 20) ∧ ∀ i, i < n → htB (L i) (q i) = true := by
 unfold hvB
 exact decide_eq_true_iff
def spU (p : Ps) (k : Nat) : List UInt8 := Lib.itoa (p k).1 ++ 32 :: Lib.itoa (p k).2
def rgU (p : Ps) : Nat → List UInt8
 | 0 => []
 | k + 1 => (if k = 0 then [] else rgU p k ++ [32]) ++ spU p k
def lyU (L : Nat → Nat) (q : Nat → Ps) : Nat → List UInt8
 | 0 => []
 | c + 1 => (if c = 0 then [] else lyU L q c ++ [32, 47, 32]) ++ rgU (q c) (L c)
def ltU (n : Nat) (L : Nat → Nat) (q : Nat → Ps) : List UInt8 := if n = 0 then [110, 111, 110, 101] else if hvB n L q = true then lyU L q n else []
theorem spU_ne (p : Ps) (k : Nat) : spU p k ≠ [] := by simp [spU]
theorem rgU_ne (p : Ps) {k : Nat} (h : 0 < k) : rgU p k ≠ [] := by
 obtain ⟨j, rfl⟩ : ∃ j, k = j + 1 := ⟨k - 1, by omega⟩
 rw [rgU]
 simp [spU_ne]
def stU (L : Nat → Nat) (q : Nat → Ps) (c k : Nat) : List UInt8 := if k = 0 then (if c = 0 then [] else lyU L q c ++ [32, 47]) else (if c = 0 then [] else lyU L q c ++ [32, 47, 32]) ++ rgU (q c) k
theorem stU_end {L : Nat → Nat} {q : Nat → Ps} {c : Nat} (h : 0 < L c) : stU L q c (L c) = lyU L q (c + 1) := by
 unfold stU
 rw [if_neg (by omega), lyU]
theorem stU_nil {L : Nat → Nat} {q : Nat → Ps} {c k : Nat} : stU L q c k = [] ↔ c = 0 ∧ k = 0 := by
 unfold stU
 by_cases hk : k = 0
 · rw [if_pos hk]
   by_cases hc : c = 0
   · simp [hc, hk]
   · simp [hc]
 · rw [if_neg hk]
   have := rgU_ne (q c) (show 0 < k by omega)
   simp [hk, this]
theorem stU_step {L : Nat → Nat} {q : Nat → Ps} {c k : Nat} : stU L q c (k + 1) = (if c = 0 ∧ k = 0 then [] else stU L q c k ++ [32]) ++ spU (q c) k := by
 unfold stU
 rw [if_neg (by omega), rgU]
 by_cases hk : k = 0
 · subst hk
   by_cases hc : c = 0
   · simp [hc]
   · simp [hc]
 · by_cases hc : c = 0
   · simp [hc, hk]
   · simp [hc, hk]
theorem joinTail_snoc (sep : List UInt8) (r : List (List UInt8)) (x : List UInt8) : Lib.joinTail sep (r ++ [x]) = Lib.joinTail sep r ++ sep ++ x := by
 unfold Lib.joinTail
 simp
theorem join_snoc {xs : List (List UInt8)} (h : xs ≠ []) (x sep : List UInt8) : Lib.join (xs ++ [x]) sep = Lib.join xs sep ++ sep ++ x := by
 cases xs with
 | nil => exact absurd rfl h
 | cons y r =>
   rw [List.cons_append, Lib.join_cons, Lib.join_cons, joinTail_snoc]
   simp
theorem join_le {B : Nat} {sep : List UInt8} : ∀ {xs : List (List UInt8)}, (∀ x ∈ xs, x.length ≤ B) → (Lib.join xs sep).length ≤ xs.length * (B + sep.length) := by
 have key : ∀ r : List (List UInt8), (∀ x ∈ r, x.length ≤ B) → (Lib.joinTail sep r).length ≤ r.length * (B + sep.length) := fun r => by
   induction r with
   | nil => intro _; simp [Lib.joinTail]
   | cons x r ih =>
     intro h
     have h1 := ih fun y hy => h y (List.mem_cons_of_mem _ hy)
     have h2 := h x List.mem_cons_self
     unfold Lib.joinTail at *
     simp only [List.map_cons, List.flatten_cons, List.length_append, List.length_cons] at *
     rw [Nat.add_mul]
     omega
 intro xs h
 cases xs with
 | nil => simp [Lib.join_nil]
 | cons y r =>
   have h1 := key r fun x hx => h x (List.mem_cons_of_mem _ hx)
   have h2 := h y List.mem_cons_self
   rw [Lib.join_cons, List.length_append, List.length_cons, Nat.add_mul]
   omega
def ptU (p : Ps) : Nat → List (List UInt8)
 | 0 => []
 | k + 1 => ptU p k ++ [Lib.itoa (p k).1, Lib.itoa (p k).2]
theorem ptU_len (p : Ps) : ∀ k, (ptU p k).length = k * 2
 | 0 => rfl
 | k + 1 => by rw [ptU, List.length_append, ptU_len p k]; simp; omega
theorem ptU_join (p : Ps) : ∀ k, Lib.join (ptU p k) [32] = rgU p k
 | 0 => rfl
 | k + 1 => by
   rw [ptU, rgU]
   by_cases h : k = 0
   · subst h
     simp only [ptU, List.nil_append, if_true]
     rw [show ([Lib.itoa (p 0).1, Lib.itoa (p 0).2] : List (List UInt8)) = [Lib.itoa (p 0).1] ++ [Lib.itoa (p 0).2] from rfl, join_snoc (by simp), Lib.join_one]
     simp [spU]
   · rw [if_neg h, show ptU p k ++ [Lib.itoa (p k).1, Lib.itoa (p k).2] = (ptU p k ++ [Lib.itoa (p k).1]) ++ [Lib.itoa (p k).2] by simp, join_snoc (by simp), join_snoc (by intro e; have := ptU_len p k; rw [e] at this; simp at this; omega), ptU_join p k]
     simp [spU]
theorem ptU_le {p : Ps} {n : Nat} (h : ∀ i, i < n → shB (p i).1 = true ∧ shB (p i).2 = true) : ∀ k, k ≤ n → ∀ x ∈ ptU p k, x.length ≤ 16
 | 0, _, x, hx => by cases hx
 | k + 1, hk, x, hx => by
   rw [ptU] at hx
   obtain ⟨h1, h2⟩ := h k (by omega)
   rcases List.mem_append.1 hx with hx | hx
   · exact ptU_le h k (by omega) x hx
   · simp only [List.mem_cons, List.not_mem_nil, or_false] at hx
     rcases hx with rfl | rfl
     · exact itoa_len (of_decide_eq_true h1)
     · exact itoa_len (of_decide_eq_true h2)
def rtU (L : Nat → Nat) (q : Nat → Ps) (c : Nat) : List (List UInt8) := (List.range c).map fun i => rgU (q i) (L i)
theorem rtU_succ (L : Nat → Nat) (q : Nat → Ps) (c : Nat) : rtU L q (c + 1) = rtU L q c ++ [rgU (q c) (L c)] := by
 unfold rtU
 rw [List.range_succ, List.map_append]
 rfl
theorem rtU_join (L : Nat → Nat) (q : Nat → Ps) : ∀ c, Lib.join (rtU L q c) [32, 47, 32] = lyU L q c
 | 0 => rfl
 | c + 1 => by
   rw [rtU_succ, lyU]
   by_cases h : c = 0
   · subst h
     simp [rtU, Lib.join_one]
   · rw [if_neg h, join_snoc (by intro e; have := congrArg List.length e; simp [rtU] at this; omega), rtU_join L q c]
theorem rgU_le {p : Ps} {n : Nat} (h : ∀ i, i < n → shB (p i).1 = true ∧ shB (p i).2 = true) : (rgU p n).length ≤ n * 34 := by
 rw [← ptU_join]
 refine Nat.le_trans (join_le (B := 16) (ptU_le h n (Nat.le_refl _))) ?_
 rw [ptU_len]
 simp
 omega
structure TdJ (W wr : World) (g n : Nat) (xs zs : List Int) (k : Nat) (c : Int) : Prop where
 len : zs.length = n
 dig : Dig zs
 c0 : 0 ≤ c
 c1 : c < 10
 eq : val (xs.drop k) = 10 * val (zs.drop k) + c
 own : wr.ownsRow g 79 1 (.slice (some ⟨g, 0, none⟩) n n) n (zs.map (Value.int .u32))
 below : Below g W wr
theorem TdJ.start {W w1 : World} {g n : Nat} {xs : List Int} (hx : xs.length = n) (hg : g = W.heap.size) (hown : w1.ownsRow g 79 1 (.slice (some ⟨g, 0, none⟩) n n) n (madeCells #[Value.int .u32 0] n).toList) (hgrow : W.grownBy w1 none) : TdJ W w1 g n xs (List.replicate n 0) n 0 := by
 subst hg
 refine ⟨by simp, fun d hd => by rw [List.eq_of_mem_replicate hd]; decide, by omega, by omega, ?_, ?_, (Below.refl _ _).grown hgrow (Nat.le_refl _) (by simp)⟩
 · rw [← hx, List.drop_length, List.drop_eq_nil_of_le (by simp)]; rfl
 · rw [made_one] at hown
   simpa using hown
theorem TdJ.cell {W wr : World} {g n : Nat} {xs zs : List Int} {k : Nat} {c : Int} (h : TdJ W wr g n xs zs k c) (j : Nat) (hj : j < zs.length) : wr.cell? ⟨g, j, none⟩ = some (.int .u32 zs[j]) ∧ wr.frozen? ⟨g, j, none⟩ = false := by
 refine ⟨?_, h.own.frozenAt j⟩
 rw [h.own.cellAt j (by rw [← h.len]; omega)]
 simp [hj]
theorem TdJ.step {W wr : World} {g n : Nat} {xs zs : List Int} {m : Nat} {c : Int} (h : TdJ W wr g n xs zs (m + 1) c) (hm : m < xs.length) (hz : m < zs.length) (hd : Dig xs) (t : Int) (ht : t = xs[m] + c * 4294967296) :
   TdJ W (wr.setCell ⟨g, m, none⟩ (.int .u32 (t / 10))) g n xs (zs.set m (t / 10)) m (t % 10) := by
 obtain ⟨o1, o2⟩ := h.own.stored m (.int .u32 (t / 10))
 have hb := dig_at hd m hm
 have h0 := h.c0
 have h1 := h.c1
 refine ⟨by simpa using h.len, dig_set h.dig _ (by omega) (by omega), by omega, by omega, ?_, ?_, h.below.setCell (Nat.le_refl _) _⟩
 · rw [List.drop_eq_getElem_cons hm, List.drop_eq_getElem_cons (show m < (zs.set m (t / 10)).length by simpa using hz), List.getElem_set_self, List.drop_set_of_lt (by omega)]
   simp only [val]
   rw [h.eq]
   omega
 · have : (zs.map (Value.int .u32)).set m (.int .u32 (t / 10)) = (zs.set m (t / 10)).map (Value.int .u32) := by rw [List.map_set]
   rw [← this]; exact o1
theorem conv1 (c : Nat) (T : TypeId) (w : World) : (convert 68 9 (.slice (some ⟨w.heap.size, 0, none⟩) 1 1)).run Tryd.prog (w.alloc (.cells #[.int .u8 (48 + (c : Int))] T)) = .ok (.string (strL [48 + c])) (w.alloc (.cells #[.int .u8 (48 + (c : Int))] T)) := by
 rw [show 48 + (c : Int) = ((48 + c : Nat) : Int) by omega]
 exact run_convert_bytes_arg (P := Tryd.prog) _ 68 5 Tryd.underlying68 Tryd.underlying5 w.heap.size 0 1 1 [((48 + c : Nat) : Int)] rfl (fun i hi => by
   obtain rfl : i = 0 := by omega
   exact (Blk.new w [.int .u8 ((48 + c : Nat) : Int)] T rfl).c 0 rfl) 9 Tryd.underlying9
theorem dg_short {ds : List Int} {v k : Nat} (hd : Dig ds) (hl : ds.length ≤ k) (hv : val ds = (v : Int)) : (dg v).length ≤ 32 * k := by
 refine dg_len (32 * k) v ?_
 have h1 := val_lt hd
 rw [hv, pw_two] at h1
 have h2 : v < 2 ^ (32 * ds.length) := by omega
 have h3 : 2 ^ (32 * ds.length) ≤ 2 ^ (32 * k) := Nat.pow_le_pow_right (by omega) (by omega)
 have h4 : 2 ^ (32 * k) ≤ 10 ^ (32 * k) := Nat.pow_le_pow_left (by omega) _
 omega
def strLen : Value → Nat
 | .string b => b.size
 | _ => 0
structure LtI (w wr : World) (v : Nat) (vs : List Value) (ao : Option Addr) (n : Nat) (ds : List Int) (ts : List Nat) : Prop where
 len : ds.length = n
 nrm : Nrm ds
 rd : Rd wr ao ds
 fit : n ≤ 1000000
 eq : dg v = dg (val ds).toNat ++ ts
 blk : Blk wr w.heap.size vs
 below : Below w.heap.size w wr
theorem LtI.less {w wr : World} {v : Nat} {vs : List Value} {ao : Option Addr} {n : Nat} {ds : List Int} {ts : List Nat} (h : LtI w wr v vs ao n ds ts) (hn : 0 < n) : ts.length < (dg v).length := by
 have h1 : 0 < val ds := nrm_pos h.nrm (by intro h2; have := h.len; rw [h2] at this; simp at this; omega)
 have h2 := dg_ne (n := (val ds).toNat) (by omega)
 have h3 : 0 < (dg (val ds).toNat).length := List.length_pos_iff.2 h2
 rw [h.eq, List.length_append]
 omega
theorem LtI.done {w wr : World} {v : Nat} {vs : List Value} {ao : Option Addr} {ds : List Int} {ts : List Nat} (h : LtI w wr v vs ao 0 ds ts) : ts = dg v := by
 have h1 : ds = [] := List.length_eq_zero_iff.1 h.len
 have h2 := h.eq
 rw [h1] at h2
 rw [h2, show (val []).toNat = 0 from rfl, dg_zero]; rfl
theorem LtI.next {w wo wr w3 : World} {v : Nat} {vs : List Value} {ao ao' : Option Addr} {n n' : Nat} {ds zs ds' : List Int} {ts : List Nat} {c : Nat} {o : Obj} (h : LtI w wo v vs ao n ds ts) (hn : 0 < n) (hc : c < 10) (hJ : TdJ wo wr wo.heap.size n ds zs 0 c) (hB : Below (wr.alloc o).heap.size (wr.alloc o) w3)
   (k1 : ds'.length = n') (k3 : n' ≤ n) (k4 : Nrm ds') (k5 : val ds' = val zs) (k7 : Rd w3 ao' ds') : LtI w w3 v vs ao' n' ds' ((48 + c) :: ts) := by
 have h1 : 0 < val ds := nrm_pos h.nrm (by intro h2; have := h.len; rw [h2] at this; simp at this; omega)
 have h2 := hJ.eq
 simp only [List.drop_zero] at h2
 have h3 := val_nonneg hJ.dig
 have b1 : Below w.heap.size w wr := h.below.trans (hJ.below.mono h.below.size)
 have b2 : Below w.heap.size w (wr.alloc o) := b1.alloc b1.size _
 refine ⟨k1, k4, k7, by have := h.fit; omega, ?_, ((h.blk.step hJ.below).alloc _).step hB, b2.trans (hB.mono b2.size)⟩
 rw [h.eq, dg_step (n := (val ds).toNat) (by omega), k5, show (val ds).toNat / 10 = (val zs).toNat by omega, show (val ds).toNat % 10 = c by omega, List.append_assoc]
 rfl
theorem LtI.le {w wr : World} {v : Nat} {vs : List Value} {ao : Option Addr} {n : Nat} {ds : List Int} {ts : List Nat} (h : LtI w wr v vs ao n ds ts) : ts.length ≤ (dg v).length := by
 rw [h.eq, List.length_append]
 omega
set_option maxRecDepth 100000 in
set_option maxHeartbeats 2000000 in
theorem l1Text_any (s : Bool) (ao : Option Addr) (n cap : Nat) (ds : List Int) (z : Int) (k : Nat) (w : World) (h : IsNum w s ao n cap ds z k) (hk : k ≤ 1000000) :
   Calls Tryd.prog 31 #[.agg #[.bool s, .slice ao n cap]] w (VP (.string (txS z)) w) := by
 obtain ⟨i0, hi, hz0, hz1, hz2⟩ := info_parts Tryd.info88
 by_cases hz : z = 0
 · obtain rfl : n = 0 := h.zero.2 hz
   subst hz
   clear h
   have hT : Hid (txS 0 = strL [48]) := by show _ = _; unfold txS txL; rw [show (0 : Int).natAbs = 0 from rfl, dgs_zero]; rfl
   go_enter Tryd.func31, Tryd.ntmps31
   go_wp2
   go_ret
   exact ⟨by rw [hT.out]; rfl, (Below.refl _ _).alloc (Nat.le_refl _) _⟩
 · have hn0 : ((n : Int) == 0) = false := beq_eq_false_iff_ne.2 (by intro h2; exact hz (h.zero.1 (by omega)))
   have hnk := h.le
   have hv : Hid (val ds = (z.natAbs : Int)) := h.val
   have hs : Hid (s = decide (z < 0)) := h.neg
   have HI0 : LtI w (w.alloc (Obj.cells #[.bool s, .slice ao n cap] 62)) z.natAbs [.bool s, .slice ao n cap] ao n ds [] :=
     ⟨h.len, h.nrm, h.rd.below ((Below.refl _ _).alloc (Nat.le_refl _) _) (Nat.le_refl _), by omega, by rw [hv.out]; simp, Blk.new w [.bool s, .slice ao n cap] _ rfl, (Below.refl _ _).alloc (Nat.le_refl _) _⟩
   have HI : Hid (LtI w (w.alloc (Obj.cells #[.bool s, .slice ao n cap] 62)) z.natAbs [.bool s, .slice ao n cap] ao n ds []) := HI0
   have HZ : Hid (z ≠ 0) := hz
   have HL : Hid ((dg z.natAbs).length ≤ 32000000) := by
     have := dg_short h.nrm.1 (by rw [h.len]; exact hnk) h.val
     show _ ≤ _
     omega
   clear h HI0 hz
   go_enter Tryd.func31, Tryd.ntmps31
   go_wp2_with fail
   generalize (w.alloc (Obj.cells #[.bool s, .slice ao n cap] 62)) = W at *
   go_loopw [3, 4] (fun tv rv wr => ∃ (ao2 : Option Addr) (m c2 : Nat) (es : List Int) (ts : List Nat), tv = .string (strL ts) ∧ rv = .slice ao2 m c2 ∧ LtI w wr z.natAbs [.bool s, .slice ao n cap] ao2 m es ts) (fun tv _ _ => (dg z.natAbs).length - strLen tv)
   case atStart => exact ⟨ao, n, cap, ds, [], rfl, rfl, HI.out⟩
   case round =>
     clear HI
     obtain ⟨ao2, m, c2, es, ts, rfl, rfl, hI⟩ := hrel
     have HII : Hid (LtI w wr z.natAbs [.bool s, .slice ao n cap] ao2 m es ts) := hI
     have hfit := hI.fit
     have hshort : ts.length ≤ 32000000 := Nat.le_trans hI.le HL.out
     have hssz := strL_size ts
     by_cases hm : 0 < m
     · have hless : Hid (ts.length < (dg z.natAbs).length) := hI.less hm
       clear hI
       go_wp2_with (at_make; refine wpList_make_full _ rfl _ _ 60 rfl wr.heap.size 79 i0 (.int .u32 0) 1 Tryd.underlying60 hi hz0 hz1 _ _ _ _ m rfl rfl (by omega) (by omega) (by rw [hz2]; omega) (by unfold maxLen; omega) (Nat.le_refl _) ?_)
       intro w1 hown hgrow
       have HS : TdJ wr w1 wr.heap.size m es (List.replicate m 0) m 0 := TdJ.start HII.out.len rfl (by simpa using hown) hgrow
       clear hown hgrow
       go_wp2
       obtain ⟨wo, hwo⟩ : ∃ wo : World, wo = wr := ⟨_, rfl⟩
       subst hwo
       go_loopw [6, 7] (fun cv iv wx => ∃ (j : Nat) (c : Int) (zs : List Int), j ≤ m ∧ iv = .int .i64 ((j : Int) - 1) ∧ cv = .int .u64 c ∧ TdJ wo wx wo.heap.size m es zs j c) (fun _ iv _ => (intOf iv + 1).toNat)
       case atStart => exact ⟨m, 0, _, Nat.le_refl _, by go_num, rfl, HS⟩
       case round =>
         clear HS
         obtain ⟨j, c, zs, hj, rfl, rfl, hJ⟩ := hrel
         have zlen := hJ.len
         have HJ : Hid (TdJ wo wr wo.heap.size m es zs j c) := hJ
         by_cases hj0 : 0 < j
         · obtain ⟨q, rfl⟩ : ∃ q, j = q + 1 := ⟨j - 1, by omega⟩
           have hqe : q < es.length := by have := HII.out.len; omega
           have hqz : q < zs.length := by omega
           obtain ⟨bx, ox, rfl, hbx, hcx0⟩ := HII.out.rd q hqe
           obtain ⟨hx0, hx1⟩ := dig_at HII.out.nrm.1 q hqe
           have hcx := (hJ.below.cell (p := ⟨bx, ox + q, none⟩) hbx).trans hcx0
           obtain ⟨hcz, hfz⟩ := hJ.cell q hqz
           have hc0 := hJ.c0
           have hc1 := hJ.c1
           obtain ⟨x, hx⟩ : ∃ x, x = es[q] + c * 4294967296 := ⟨_, rfl⟩
           have hor : bits .or .u64 (c * 4294967296) es[q] = x := by
             have := or_hi es[q] c ⟨hx0, hx1⟩ ⟨hc0, by omega⟩
             rw [wrap_word (by omega) (by omega)] at this
             rw [hx]; exact this
           have d1 : x.tdiv 10 = x / 10 := Int.tdiv_eq_ediv_of_nonneg (by omega)
           have d2 : x.tmod 10 = x % 10 := Int.tmod_eq_emod_of_nonneg (by omega)
           have d3 : IntKind.u64.wrap (x / 10) = x / 10 := wrap_word (by omega) (by omega)
           have d4 : x / 10 % 4294967296 = x / 10 := by omega
           have R1 : Hid (TdJ wo (wr.setCell ⟨wo.heap.size, q, none⟩ (.int .u32 (x / 10))) wo.heap.size m es (zs.set q (x / 10)) q (x % 10)) := hJ.step hqe hqz HII.out.nrm.1 x hx
           have HX : Hid (x = es[q] + c * 4294967296) := hx
           have e1 : ((q + 1 : Nat) : Int) - 1 = q := by omega
           have hx2 : 0 ≤ x := by omega
           have hx3 : x < 42949672960 := by omega
           have hqm : (q : Int) < m := by omega
           rw [e1]
           clear hJ hx hcx0 e1
           go_wp2
           go_roundw
           case rel => exact ⟨q, x % 10, _, by omega, by go_num, by first | rfl | (rw [d2]), R1.out⟩
           case measure => simp [intOf]
         · obtain rfl : j = 0 := by omega
           have hc0 := hJ.c0
           have hc1 := hJ.c1
           obtain ⟨c, rfl⟩ : ∃ e : Nat, c = e := ⟨c.toNat, by omega⟩
           have hE : Hid (val es = 10 * val zs + c) := by have := hJ.eq; simp only [List.drop_zero] at this; exact this
           have hss1 := strL_size [48 + c]
           have CV := conv1 c 5 wr
           have R2 : Rd (wr.alloc (Obj.cells #[.int .u8 (48 + (c : Int))] 5)) (some ⟨wo.heap.size, 0, none⟩) zs := (Rd.own hJ.own hJ.len).below ((Below.refl _ _).alloc (Nat.le_refl _) _) (Nat.le_refl _)
           have R1 := hJ.dig
           have hc : Hid (c < 10) := by show _ < _; omega
           clear hJ
           go_wp2_with fail
           refine (trim_any false _ _ _ zs _ zlen (Nat.le_refl _) R1 R2 (by omega)).mono ?_
           rintro e w3 ⟨neg', ao', n', cap', ds', rfl, k1, k2, k3, k4, k5, k6, k7, k8⟩
           have N1 : Hid (LtI w w3 z.natAbs [.bool s, .slice ao n cap] ao' n' ds' ((48 + c) :: ts)) := HII.out.next hm hc.out HJ.out k8 k1 k3 k4 k5 k7
           have fd := field_d (.bool neg') (.slice ao' n' cap')
           have hcat : Hid (strL [48 + c] ++ strL ts = strL ((48 + c) :: ts)) := (strL_append [48 + c] ts).symm
           clear k1 k2 k3 k4 k5 k6 k7 k8 R1 R2 HJ HII CV hE
           go_wp2
           go_roundw
           case rel => exact ⟨ao', n', cap', ds', (48 + c) :: ts, by rw [hcat.out], rfl, N1.out⟩
           case measure =>
             have := hless.out
             rw [hcat.out]
             simp only [strLen, strL_size, List.length_cons]
             omega
     · obtain rfl : m = 0 := by omega
       have hd : Hid (ts = dg z.natAbs) := hI.done
       obtain ⟨b0, b1⟩ := hI.blk.cs2
       have HB := hI.below
       clear hI
       by_cases hz0 : z < 0
       · have hT : Hid (txS z = strL (45 :: ts)) := by show _ = _; unfold txS txL; rw [if_pos hz0, dgs_pos (by omega), hd.out]; rfl
         obtain rfl : s = true := by rw [hs.out]; exact decide_eq_true hz0
         clear hz0
         go_wp2
         go_ret
         exact ⟨by rw [hT.out]; exact congrArg (fun b => Ending.returned (Value.string b)) (strL_append [45] ts).symm, HB⟩
       · have hT : Hid (txS z = strL ts) := by show _ = _; unfold txS txL; rw [if_neg hz0, dgs_pos (by have := HZ.out; omega), hd.out]; rfl
         obtain rfl : s = false := by rw [hs.out]; exact decide_eq_false hz0
         clear hz0
         go_wp2
         go_ret
         exact ⟨by rw [hT.out]; rfl, HB⟩
end Go.Proofs.YtjcpdihdlklapaaDoor
