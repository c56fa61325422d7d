/- Part 1 of the walks that the proof leans on. -/
import Derived.Laws.BytesArg
import Derived.Lib.ItoaNum
import Derived.Test.YtjcpdihdlklapaaDoorRows
import Derived.WalkKit
import Derived.WalkSpells
import Derived.WalkLawsBesides
import Derived.Laws.Bits64b
import Derived.Deep.QuietTactic
import Derived.BigQuiet
import Derived.Laws.Externs
import Derived.Shelf.Spec.BitsCarry
import Derived.BigRegion
import Derived.Deep.CutBlock
import Derived.Deep.DeepCutAuto
import Derived.Deep.RegionWith
import Derived.Shelf.Bits.Mul64
import Derived.Deep.RegionHeld3
import Derived.Deep.LoopGhost
import Derived.WalkMore
namespace Go.Proofs.YtjcpdihdlklapaaDoor
def strL (l : List Nat) : ByteArray := strOfNums (l.map fun (n : Nat) => (n : Int))
def btL (s : ByteArray) : List Nat := s.data.toList.map UInt8.toNat
theorem btL_len (s : ByteArray) : (btL s).length = s.size := by
 unfold btL
 rw [List.length_map]
 rfl
theorem strL_size (l : List Nat) : (strL l).size = l.length := by simp [strL, strOfNums_size]
theorem strL_btL (s : ByteArray) : strL (btL s) = s := by
 obtain ⟨⟨l⟩⟩ := s
 simp only [strL, btL, strOfNums, List.map_map]
 congr 2
 conv => rhs; rw [← List.map_id l]
 exact List.map_congr_left fun x _ => by simp
theorem btL_strL {l : List Nat} (h : ∀ b ∈ l, b < 256) : btL (strL l) = l := by
 unfold btL strL
 rw [strOfNums_data, List.map_map, List.map_map]
 conv => rhs; rw [← List.map_id l]
 exact List.map_congr_left fun x hx => by
   have := h x hx
   simp
   omega
theorem btL_lt (s : ByteArray) : ∀ b ∈ btL s, b < 256 := by
 intro b hb
 obtain ⟨x, _, rfl⟩ := List.mem_map.1 hb
 exact x.toNat_lt
theorem strL_append (a b : List Nat) : strL (a ++ b) = strL a ++ strL b := by
 apply ByteArray.ext
 simp [strL, strOfNums]
theorem snocRec {P : List Nat → Prop} (h0 : P []) (h1 : ∀ l b, P l → P (l ++ [b])) (l : List Nat) : P l := by
 rw [← List.reverse_reverse l]
 induction l.reverse with
 | nil => exact h0
 | cons a t ih => rw [List.reverse_cons]; exact h1 _ _ ih
theorem head_app {a b : List Nat} (h : a ≠ []) : (a ++ b).head? = a.head? := by
 cases a with
 | nil => exact absurd rfl h
 | cons x t => rfl
def dg (n : Nat) : List Nat := if n = 0 then [] else (Go.Lib.decDigits n).map UInt8.toNat
theorem dg_zero : dg 0 = [] := rfl
theorem dg_step {n : Nat} (h : 0 < n) : dg n = dg (n / 10) ++ [48 + n % 10] := by
 have e : (UInt8.ofNat (48 + n % 10)).toNat = 48 + n % 10 := by
   rw [UInt8.toNat_ofNat']
   omega
 unfold dg
 rw [if_neg (by omega), Go.Lib.decDigits]
 by_cases h1 : n < 10
 · rw [dif_pos h1, if_pos (by omega)]
   rw [show n % 10 = n by omega] at *
   simp only [List.map_cons, List.map_nil, List.nil_append]
   rw [e]
 · rw [dif_neg h1, if_neg (by omega), List.map_append, List.map_cons, List.map_nil, e]
theorem dg_ne {n : Nat} (h : 0 < n) : dg n ≠ [] := by rw [dg_step h]; simp
theorem dg_len (k : Nat) : ∀ n : Nat, n < 10 ^ k → (dg n).length ≤ k := by
 induction k with
 | zero => intro n h; obtain rfl : n = 0 := by simpa using h
           simp [dg_zero]
 | succ k ih =>
   intro n h
   rcases Nat.eq_zero_or_pos n with rfl | hp
   · simp [dg_zero]
   · rw [dg_step hp]
     have := ih (n / 10) (by rw [Nat.pow_succ] at h; omega)
     simp
     omega
def dgs (n : Nat) : List Nat := dg (n / 10) ++ [48 + n % 10]
theorem dgs_pos {n : Nat} (h : 0 < n) : dgs n = dg n := by rw [dg_step h]; rfl
theorem dgs_zero : dgs 0 = [48] := by unfold dgs; rw [show 0 / 10 = 0 from rfl, dg_zero]; rfl
theorem dgs_len {k n : Nat} (hk : 0 < k) (h : n < 10 ^ k) : (dgs n).length ≤ k := by
 rcases Nat.eq_zero_or_pos n with rfl | hp
 · rw [dgs_zero]; exact hk
 · rw [dgs_pos hp]; exact dg_len k n h
def txL (z : Int) : List Nat := (if z < 0 then [45] else []) ++ dgs z.natAbs
def txS (z : Int) : ByteArray := strL (txL z)
def isD (b : Nat) : Prop := 48 ≤ b ∧ b ≤ 57
theorem dg_isD (n : Nat) : ∀ b ∈ dg n, isD b := by
 induction n using Nat.strongRecOn with
 | ind n ih =>
   rcases Nat.eq_zero_or_pos n with rfl | hp
   · simp [dg_zero]
   · rw [dg_step hp]
     intro b hb
     rcases List.mem_append.1 hb with h | h
     · exact ih (n / 10) (by omega) b h
     · rw [List.mem_singleton] at h; subst h; constructor <;> omega
theorem dgs_isD (n : Nat) : ∀ b ∈ dgs n, isD b := by
 intro b hb
 rcases List.mem_append.1 hb with h | h
 · exact dg_isD _ b h
 · rw [List.mem_singleton] at h; subst h; constructor <;> omega
theorem txL_lt (z : Int) : ∀ b ∈ txL z, b < 256 := by
 intro b hb
 rcases List.mem_append.1 hb with h | h
 · split at h
   · simp at h; omega
   · simp at h
 · have := dgs_isD _ b h; unfold isD at this; omega
theorem btL_txS (z : Int) : btL (txS z) = txL z := btL_strL (txL_lt z)
def rdN (l : List Nat) : Nat := l.foldl (fun n b => 10 * n + (b - 48)) 0
theorem rdN_nil : rdN [] = 0 := rfl
theorem rdN_snoc (l : List Nat) (b : Nat) : rdN (l ++ [b]) = 10 * rdN l + (b - 48) := by simp [rdN]
theorem rdN_take (l : List Nat) (k : Nat) (h : k < l.length) : rdN (l.take (k + 1)) = 10 * rdN (l.take k) + (l[k] - 48) := by
 rw [List.take_succ_eq_append_getElem h, rdN_snoc]
theorem rdN_lt (l : List Nat) (h : ∀ b ∈ l, isD b) : rdN l < 10 ^ l.length := by
 induction l using snocRec with
 | h0 => simp [rdN]
 | h1 l b ih =>
   rw [rdN_snoc]
   have h1 := ih fun x hx => h x (List.mem_append_left _ hx)
   have h2 := h b (by simp)
   unfold isD at h2
   simp [Nat.pow_succ]
   omega
theorem rdN_dg (n : Nat) : rdN (dg n) = n := by
 induction n using Nat.strongRecOn with
 | ind n ih =>
   rcases Nat.eq_zero_or_pos n with rfl | hp
   · simp [dg_zero, rdN]
   · rw [dg_step hp, rdN_snoc, ih (n / 10) (by omega)]
     omega
theorem rdN_dgs (n : Nat) : rdN (dgs n) = n := by unfold dgs; rw [rdN_snoc, rdN_dg]; omega
theorem dg_head (n : Nat) : (dg n).head? ≠ some 48 := by
 induction n using Nat.strongRecOn with
 | ind n ih =>
   rcases Nat.eq_zero_or_pos n with rfl | hp
   · simp [dg_zero]
   · rw [dg_step hp]
     by_cases h : n / 10 = 0
     · rw [h, dg_zero]; simp; omega
     · have := ih (n / 10) (by omega)
       have h2 := dg_ne (n := n / 10) (by omega)
       rw [head_app h2]
       exact this
theorem dg_rdN (l : List Nat) (h : ∀ b ∈ l, isD b) (h0 : l.head? ≠ some 48) : dg (rdN l) = l := by
 induction l using snocRec with
 | h0 => simp [rdN, dg_zero]
 | h1 l b ih =>
   have hb := h b (by simp)
   unfold isD at hb
   rw [rdN_snoc]
   rcases List.eq_nil_or_concat l with rfl | ⟨l', c, hl⟩
   · have h1 : b ≠ 48 := by simpa using h0
     rw [rdN_nil, dg_step (by omega), show (10 * 0 + (b - 48)) / 10 = 0 by omega, dg_zero]
     simp
     omega
   · have hne : l ≠ [] := by rw [hl]; simp
     have h1 : l.head? ≠ some 48 := by rw [head_app hne] at h0; exact h0
     have h2 := ih (fun x hx => h x (List.mem_append_left _ hx)) h1
     have h3 : 0 < rdN l := by
       rcases Nat.eq_zero_or_pos (rdN l) with h4 | h4
       · rw [h4, dg_zero] at h2; exact absurd h2.symm hne
       · exact h4
     rw [dg_step (by omega), show (10 * rdN l + (b - 48)) / 10 = rdN l by omega, h2, show 48 + (10 * rdN l + (b - 48)) % 10 = b by omega]
def DecL (l : List Nat) : Prop := l ≠ [] ∧ (l.head? = some 48 → l = [48]) ∧ ∀ b ∈ l, isD b
theorem dgs_dec (n : Nat) : DecL (dgs n) := by
 refine ⟨by unfold dgs; simp, ?_, dgs_isD n⟩
 rcases Nat.eq_zero_or_pos n with rfl | hp
 · intro _; exact dgs_zero
 · intro h; rw [dgs_pos hp] at h; exact absurd h (dg_head n)
theorem dgs_rdN {l : List Nat} (h : DecL l) : dgs (rdN l) = l := by
 obtain ⟨h1, h2, h3⟩ := h
 by_cases h0 : l.head? = some 48
 · rw [h2 h0]; exact dgs_zero
 · have h4 := dg_rdN l h3 h0
   rcases Nat.eq_zero_or_pos (rdN l) with h5 | h5
   · rw [h5, dg_zero] at h4; exact absurd h4.symm h1
   · rw [dgs_pos h5, h4]
def val : List Int → Int
 | [] => 0
 | d :: t => d + 4294967296 * val t
def Dig (ds : List Int) : Prop := ∀ d ∈ ds, 0 ≤ d ∧ d < 4294967296
def pw : Nat → Int
 | 0 => 1
 | n + 1 => 4294967296 * pw n
theorem pw_pos (n : Nat) : 0 < pw n := by
 induction n with
 | zero => simp [pw]
 | succ n ih => simp only [pw]; omega
theorem pw_add (a b : Nat) : pw (a + b) = pw a * pw b := by
 induction a with
 | zero => simp [pw]
 | succ n ih => rw [Nat.succ_add, pw, ih, pw, Int.mul_assoc]
theorem pw_mono {a b : Nat} (h : a ≤ b) : pw a ≤ pw b := by
 obtain ⟨k, rfl⟩ := Nat.exists_eq_add_of_le h
 rw [pw_add]
 have h1 := pw_pos a
 have h2 := pw_pos k
 have : pw a * 1 ≤ pw a * pw k := Int.mul_le_mul_of_nonneg_left (by omega) (by omega)
 omega
theorem dig_nil : Dig [] := by intro d h; simp at h
theorem dig_cons {d : Int} {t : List Int} : Dig (d :: t) ↔ (0 ≤ d ∧ d < 4294967296) ∧ Dig t := by
 constructor
 · intro h; exact ⟨h d (by simp), fun x hx => h x (by simp [hx])⟩
 · rintro ⟨h1, h2⟩ x hx
   rcases List.mem_cons.1 hx with rfl | hx
   · exact h1
   · exact h2 x hx
theorem dig_append {a b : List Int} : Dig (a ++ b) ↔ Dig a ∧ Dig b := by
 constructor
 · intro h; exact ⟨fun x hx => h x (by simp [hx]), fun x hx => h x (by simp [hx])⟩
 · rintro ⟨h1, h2⟩ x hx
   rcases List.mem_append.1 hx with hx | hx
   · exact h1 x hx
   · exact h2 x hx
theorem dig_take {a : List Int} (h : Dig a) (n : Nat) : Dig (a.take n) := fun x hx => h x (List.mem_of_mem_take hx)
theorem dig_drop {a : List Int} (h : Dig a) (n : Nat) : Dig (a.drop n) := fun x hx => h x (List.mem_of_mem_drop hx)
theorem dig_at {a : List Int} (h : Dig a) (n : Nat) (hn : n < a.length) : 0 ≤ a[n] ∧ a[n] < 4294967296 := h _ (List.getElem_mem hn)
theorem val_append (a b : List Int) : val (a ++ b) = val a + pw a.length * val b := by
 induction a with
 | nil => simp [val, pw]
 | cons d t ih =>
   simp only [List.cons_append, val, List.length_cons, pw, ih, Int.mul_add, Int.mul_assoc]
   omega
theorem val_snoc (a : List Int) (d : Int) : val (a ++ [d]) = val a + pw a.length * d := by
 rw [val_append]; simp [val]
theorem val_nonneg {a : List Int} (h : Dig a) : 0 ≤ val a := by
 induction a with
 | nil => simp [val]
 | cons d t ih =>
   obtain ⟨h1, h2⟩ := dig_cons.1 h
   have := ih h2
   simp only [val]; omega
theorem val_lt {a : List Int} (h : Dig a) : val a < pw a.length := by
 induction a with
 | nil => simp [val, pw]
 | cons d t ih =>
   obtain ⟨h1, h2⟩ := dig_cons.1 h
   have := ih h2
   simp only [val, List.length_cons, pw]; omega
theorem val_zeros (n : Nat) : val (List.replicate n 0) = 0 := by
 induction n with
 | zero => rfl
 | succ n ih => simp [List.replicate_succ, val, ih]
theorem val_take_succ (a : List Int) (k : Nat) (h : k < a.length) : val (a.take (k + 1)) = val (a.take k) + pw k * a[k] := by
 rw [List.take_succ_eq_append_getElem h, val_snoc]
 simp [Nat.min_eq_left (Nat.le_of_lt h)]
theorem val_take_all (a : List Int) (k : Nat) (h : a.length ≤ k) : val (a.take k) = val a := by
 rw [List.take_of_length_le h]
def Nrm (ds : List Int) : Prop := Dig ds ∧ (ds = [] ∨ ∃ t d, ds = t ++ [d] ∧ d ≠ 0)
theorem nrm_nil : Nrm [] := ⟨dig_nil, Or.inl rfl⟩
theorem nrm_low {ds : List Int} (h : Nrm ds) (hne : ds ≠ []) : pw (ds.length - 1) ≤ val ds := by
 obtain ⟨hd, h | ⟨t, d, rfl, h⟩⟩ := h
 · exact absurd h hne
 · obtain ⟨h1, h2⟩ := dig_append.1 hd
   have h3 := (dig_cons.1 h2).1
   rw [val_snoc]
   have h4 := val_nonneg h1
   have h5 := pw_pos t.length
   have : pw t.length * 1 ≤ pw t.length * d := Int.mul_le_mul_of_nonneg_left (by omega) (by omega)
   simp only [List.length_append, List.length_cons, List.length_nil]
   simp only [Nat.zero_add, Nat.add_sub_cancel]
   omega
theorem nrm_pos {ds : List Int} (h : Nrm ds) (hne : ds ≠ []) : 0 < val ds := by
 have := nrm_low h hne
 have := pw_pos (ds.length - 1)
 omega
theorem nrm_zero {ds : List Int} (h : Nrm ds) : val ds = 0 ↔ ds = [] := by
 constructor
 · intro h0
   by_cases hne : ds = []
   · exact hne
   · have := nrm_pos h hne; omega
 · rintro rfl; rfl
theorem nrm_length {ds : List Int} (h : Nrm ds) (k : Nat) (hv : val ds < pw k) : ds.length ≤ k := by
 by_cases hne : ds = []
 · simp [hne]
 · have h1 := nrm_low h hne
   by_cases hk : ds.length ≤ k
   · exact hk
   · exfalso
     have h3 := pw_mono (a := k) (b := ds.length - 1) (by omega)
     omega
theorem nrm_more {a b : List Int} (ha : Nrm a) (hb : Nrm b) (h : a.length < b.length) : val a < val b := by
 have h1 := val_lt ha.1
 have hne : b ≠ [] := by intro h'; simp [h'] at h
 have h2 := nrm_low hb hne
 have h3 := pw_mono (a := a.length) (b := b.length - 1) (by omega)
 omega
theorem val_cut (ds : List Int) (n : Nat) (h : ∀ j, n ≤ j → (hj : j < ds.length) → ds[j] = 0) : val (ds.take n) = val ds := by
 by_cases hn : ds.length ≤ n
 · rw [List.take_of_length_le hn]
 · have e : ds = ds.take n ++ ds.drop n := (List.take_append_drop n ds).symm
   have hz : ds.drop n = List.replicate (ds.length - n) 0 := by
     apply List.ext_getElem
     · simp
     · intro i h1 h2
       simp only [List.getElem_drop, List.getElem_replicate]
       exact h _ (by omega) _
   have h2 : val ds = val (ds.take n) + pw (ds.take n).length * val (ds.drop n) := by
     have := val_append (ds.take n) (ds.drop n)
     rwa [List.take_append_drop] at this
   rw [h2, hz, val_zeros, Int.mul_zero, Int.add_zero]
theorem nrm_take {ds : List Int} (hd : Dig ds) (n : Nat) (hn : n < ds.length) (h0 : ds[n] ≠ 0) : Nrm (ds.take (n + 1)) := by
 refine ⟨dig_take hd _, Or.inr ⟨ds.take n, ds[n], List.take_succ_eq_append_getElem hn, h0⟩⟩
def cmpI (x y : Int) : Int := if x < y then -1 else if y < x then 1 else 0
theorem cmpI_lt {x y : Int} (h : x < y) : cmpI x y = -1 := by simp [cmpI, h]
theorem cmpI_gt {x y : Int} (h : y < x) : cmpI x y = 1 := by unfold cmpI; rw [if_neg (by omega), if_pos h]
theorem cmpI_eq {x y : Int} (h : x = y) : cmpI x y = 0 := by subst h; simp [cmpI]
theorem val_split (a : List Int) (k : Nat) (h : k < a.length) : val a = val (a.take k) + pw k * (a[k] + 4294967296 * val (a.drop (k + 1))) := by
 have h1 := val_append (a.take k) (a.drop k)
 rw [List.take_append_drop, List.drop_eq_getElem_cons h] at h1
 simpa [val, Nat.min_eq_left (Nat.le_of_lt h)] using h1
theorem val_above {a b : List Int} (ha : Dig a) (hb : Dig b) (k : Nat) (h1 : k < a.length) (h2 : k < b.length) (he : a.drop (k + 1) = b.drop (k + 1)) (hlt : a[k] < b[k]) : val a < val b := by
 rw [val_split a k h1, val_split b k h2, he]
 have e1 := val_lt (dig_take ha k)
 have e2 := val_nonneg (dig_take hb k)
 have e3 : (a.take k).length = k := by simp; omega
 rw [e3] at e1
 have e4 := pw_pos k
 generalize pw k = p at *
 generalize 4294967296 * val (List.drop (k + 1) b) = r
 have e5 : p * (a[k] + r) + p ≤ p * (b[k] + r) := by
   have : p * (a[k] + r + 1) ≤ p * (b[k] + r) := Int.mul_le_mul_of_nonneg_left (by omega) (by omega)
   rw [Int.mul_add p (a[k] + r) 1] at this
   omega
 omega
theorem val_take_getD (a : List Int) (k : Nat) : val (a.take (k + 1)) = val (a.take k) + pw k * a.getD k 0 := by
 by_cases h : k < a.length
 · rw [val_take_succ a k h]; simp [List.getD, h]
 · rw [List.take_of_length_le (by omega), List.take_of_length_le (by omega)]; simp [List.getD, h]
theorem sub_eq (xs ys zs : List Int) (k : Nat) (hl : zs.length = k) (cv c' v : Int) (hc : cv = 0 ∨ cv = 1) (hc' : c' = 0 ∨ c' = 1)
   (eq : val zs = val (xs.take k) - val (ys.take k) + cv * pw k) (he : v = xs.getD k 0 - ys.getD k 0 - cv + c' * 4294967296) :
   val (zs ++ [v]) = val (xs.take (k + 1)) - val (ys.take (k + 1)) + c' * pw (k + 1) := by
 rw [val_snoc, hl, val_take_getD, val_take_getD, eq, he, pw]
 rcases hc with rfl | rfl <;> rcases hc' with rfl | rfl <;> simp only [Int.mul_sub, Int.mul_add, Int.mul_one, Int.mul_zero, Int.zero_mul, Int.one_mul] <;> omega
theorem sub_end (xs ys zs : List Int) (n : Nat) (hx : xs.length = n) (hz : zs.length = n) (dx : Dig xs) (dy : Dig ys) (dz : Dig zs) (hle : val ys ≤ val xs) (cv : Int) (hc : cv = 0 ∨ cv = 1)
   (eq : val zs = val (xs.take n) - val (ys.take n) + cv * pw n) : val zs = val xs - val ys := by
 rw [val_take_all xs n (by omega)] at eq
 have h1 := val_lt dx
 have h2 := val_lt dz
 rw [hx] at h1; rw [hz] at h2
 have h3 : val (ys.take n) = val ys := by
   by_cases hn : ys.length ≤ n
   · exact val_take_all ys n hn
   · have e := val_append (ys.take n) (ys.drop n)
     rw [List.take_append_drop] at e
     have e1 : (ys.take n).length = n := by simp; omega
     rw [e1] at e
     have e2 := val_nonneg (dig_take dy n)
     have e3 := val_nonneg (dig_drop dy n)
     by_cases e4 : val (ys.drop n) = 0
     · rw [e4] at e; omega
     · exfalso
       have : pw n * 1 ≤ pw n * val (ys.drop n) := Int.mul_le_mul_of_nonneg_left (by omega) (by have := pw_pos n; omega)
       omega
 rw [h3] at eq
 rcases hc with rfl | rfl
 · omega
 · omega
theorem pw_two (n : Nat) : pw n = ((2 ^ (32 * n) : Nat) : Int) := by
 induction n with
 | zero => simp [pw]
 | succ n ih =>
   rw [pw, ih, show 32 * (n + 1) = 32 * n + 32 by omega, Nat.pow_add]
   simp [Int.mul_comm]
open Go.RowKit
def Rd (w : World) (ao : Option Addr) (ds : List Int) : Prop :=
 ∀ i, (h : i < ds.length) → ∃ b off, ao = some ⟨b, off, none⟩ ∧ b < w.heap.size ∧ w.cell? ⟨b, off + i, none⟩ = some (.int .u32 ds[i])
theorem Rd.nil (w : World) (ao : Option Addr) : Rd w ao [] := by intro i h; simp at h
theorem Rd.below {w w' : World} {ao : Option Addr} {ds : List Int} (h : Rd w ao ds) {B : Nat} (hb : Below B w w') (hB : w.heap.size ≤ B) : Rd w' ao ds := by
 intro i hi
 obtain ⟨b, off, e, hl, hc⟩ := h i hi
 refine ⟨b, off, e, Nat.lt_of_lt_of_le hl hb.size, ?_⟩
 rw [hb.cell (by show b < B; omega)]; exact hc
theorem Rd.take {w : World} {ao : Option Addr} {ds : List Int} (h : Rd w ao ds) (n : Nat) : Rd w ao (ds.take n) := by
 intro i hi
 have : i < ds.length := by simp at hi; omega
 obtain ⟨b, off, e, hl, hc⟩ := h i this
 exact ⟨b, off, e, hl, by rw [hc]; simp⟩
theorem cell_alloc {w : World} {o : Obj} {b off : Nat} {v : Value} (hb : b < w.heap.size) (h : w.cell? ⟨b, off, none⟩ = some v) : (w.alloc o).cell? ⟨b, off, none⟩ = some v := by
 rw [((Below.refl w.heap.size w).alloc (Nat.le_refl _) o).cell (p := ⟨b, off, none⟩) hb]; exact h
theorem ret_int {k : IntKind} {a b : Int} (h : b = a) : Ending.returned (.int k a) = .returned (.int k b) := by rw [h]
theorem bdrew {B : Nat} {a w : World} (h : Below B a w) (n : Nat) : Below B a (w.drewN n) := ⟨h.os, h.tape, h.output, h.size, h.block⟩
theorem one_cell (k : IntKind) (x : Int) : ∀ u ∈ [Value.int k x], u.oneCell' = true := by
 intro u hu
 simp only [List.mem_singleton] at hu
 subst hu; rfl
theorem Rd.own {w : World} {base g n cap : Nat} {e : TypeId} {zs : List Int} (h : w.ownsRow base e 1 (.slice (some ⟨g, 0, none⟩) n cap) n (zs.map (Value.int .u32))) (hl : zs.length = n) : Rd w (some ⟨g, 0, none⟩) zs := by
 intro i hi
 refine ⟨g, 0, rfl, (h.lt g rfl).2, ?_⟩
 rw [Nat.zero_add, h.cellAt i (by omega)]
 simp [hi]
theorem made_one (v : Value) (q : Nat) : (madeCells #[v] q).toList = List.replicate q v := by
 apply List.ext_getElem
 · simp [madeCells]
 · intro i h1 h2
   simp [madeCells, Nat.mod_one]
theorem field_d (x0 x1 : Value) (w : World) : (Instr.field 62 (.agg #[x0, x1]) 1).run Tryd.prog w = .ok x1 w := by kernel_rfl
theorem Rd.set {w : World} {ao : Option Addr} {ds : List Int} (h : Rd w ao ds) {p : Addr} {v : Value} (u : Value) (hp : w.cell? p = some v) (hv : ∀ x, v ≠ .int .u32 x) : Rd (w.setCell p u) ao ds := by
 intro i hi
 obtain ⟨b, off, e, hl, hc⟩ := h i hi
 refine ⟨b, off, e, by simpa [World.setCell] using hl, ?_⟩
 have hne : p ≠ ⟨b, off + i, none⟩ := by
   intro e'
   rw [e', hc] at hp
   exact hv _ (by simpa using hp.symm)
 exact (World.cell?_setCell_other _ _ _ _ hne).trans hc
theorem Rd.lit (w : World) {cs : Array Value} {e : TypeId} {zs : List Int} {g : Nat} (hg : g = w.heap.size) (h : cs.toList = zs.map (Value.int .u32)) (hl : zs.length ≤ maxLen) : Rd (w.alloc (.cells cs e)) (some ⟨g, 0, none⟩) zs := by
 subst hg
 have hs : cs.size = zs.length * 1 := by rw [← Array.length_toList, h]; simp
 have := World.ownsRow_lit (base := w.heap.size) (e := e) (size := 1) w cs zs.length (Nat.le_refl _) hl hs
 rw [h] at this
 exact Rd.own this rfl
theorem res2 {w w3 : World} {a b : Value} {T : TypeId} (h : Below (w.heap.size + 1) (w.alloc (.cells #[a, b] T)) w3) :
   w3.cell? ⟨w.heap.size, 0, none⟩ = some a ∧ w3.cell? ⟨w.heap.size, 1, none⟩ = some b ∧ w3.frozen? ⟨w.heap.size, 0, none⟩ = false ∧ w3.frozen? ⟨w.heap.size, 1, none⟩ = false ∧ w.heap.size < w3.heap.size ∧ Below w.heap.size w w3 := by
 refine ⟨?_, ?_, ?_, ?_, ?_, ((Below.refl _ _).alloc (Nat.le_refl _) _).trans (h.mono (Nat.le_succ _))⟩
 · rw [h.cell (p := ⟨w.heap.size, 0, none⟩) (Nat.lt_succ_self _)]; simp [go_sem]
 · rw [h.cell (p := ⟨w.heap.size, 1, none⟩) (Nat.lt_succ_self _)]; simp [go_sem]
 · rw [h.frozen (p := ⟨w.heap.size, 0, none⟩) (Nat.lt_succ_self _)]; simp [go_sem]
 · rw [h.frozen (p := ⟨w.heap.size, 1, none⟩) (Nat.lt_succ_self _)]; simp [go_sem]
 · have := h.size; simp at this; omega
structure IsNum (w : World) (s : Bool) (ao : Option Addr) (n cap : Nat) (ds : List Int) (z : Int) (k : Nat) : Prop where
 neg : s = decide (z < 0)
 len : ds.length = n
 cap : n ≤ cap
 rd : Rd w ao ds
 nrm : Nrm ds
 val : val ds = (z.natAbs : Int)
 le : n ≤ k
def NumP (k : Nat) (z : Int) (w : World) (e : Ending) (w' : World) : Prop :=
 ∃ (s : Bool) (ao : Option Addr) (n cap : Nat) (ds : List Int), e = .returned (.agg #[.bool s, .slice ao n cap]) ∧ IsNum w' s ao n cap ds z k ∧ Below w.heap.size w w'
theorem num_ret {w w3 : World} {s : Bool} {ao : Option Addr} {n cap : Nat} {ds : List Int} {z : Int} {k R : Nat} {b0 : Bool} {a0 : Option Addr} {n0 c0 : Nat} (hR : w.heap.size ≤ R) (h0 : w3.cell? ⟨R, 0, none⟩ = some (.bool b0)) (h1 : w3.cell? ⟨R, 1, none⟩ = some (.slice a0 n0 c0))
   (h : IsNum w3 s ao n cap ds z k) (hb : Below w.heap.size w w3) : NumP k z w (.returned (.agg #[.bool s, .slice ao n cap])) ((w3.setCell ⟨R, 0, none⟩ (.bool s)).setCell ⟨R, 1, none⟩ (.slice ao n cap)) := by
 refine ⟨s, ao, n, cap, ds, rfl, ⟨h.neg, h.len, h.cap, ?_, h.nrm, h.val, h.le⟩, (hb.setCell hR _).setCell hR _⟩
 have h2 : (w3.setCell ⟨R, 0, none⟩ (.bool s)).cell? ⟨R, 1, none⟩ = some (.slice a0 n0 c0) := (World.cell?_setCell_other _ _ _ _ (by simp)).trans h1
 exact (h.rd.set _ h0 (by simp)).set _ h2 (by simp)
theorem num_of {w : World} {neg s : Bool} {ao : Option Addr} {n cap : Nat} {ds' : List Int} {z : Int} {k : Nat} {v : Int} (k1 : ds'.length = n) (k2 : n ≤ cap) (k3 : n ≤ k) (k4 : Nrm ds') (k5 : val ds' = v) (k6 : s = (neg && decide (v ≠ 0))) (k7 : Rd w ao ds')
   (hv : v = (z.natAbs : Int)) (hn : z ≠ 0 → neg = decide (z < 0)) : IsNum w s ao n cap ds' z k := by
 refine ⟨?_, k1, k2, k7, k4, by rw [k5, hv], k3⟩
 by_cases hz : z = 0
 · subst hz; rw [k6, hv]; simp
 · rw [k6, hn hz, hv]; simp [hz]
theorem IsNum.below {w w' : World} {s : Bool} {ao : Option Addr} {n cap : Nat} {ds : List Int} {z : Int} {k : Nat} (h : IsNum w s ao n cap ds z k) (hb : Below w.heap.size w w') : IsNum w' s ao n cap ds z k :=
 ⟨h.neg, h.len, h.cap, h.rd.below hb (Nat.le_refl _), h.nrm, h.val, h.le⟩
theorem IsNum.tight {w : World} {s : Bool} {ao : Option Addr} {n cap : Nat} {ds : List Int} {z : Int} {k : Nat} (h : IsNum w s ao n cap ds z k) (m : Nat) (hz : (z.natAbs : Int) < pw m) : IsNum w s ao n cap ds z m :=
 ⟨h.neg, h.len, h.cap, h.rd, h.nrm, h.val, by have := nrm_length h.nrm m (by rw [h.val]; exact hz); rw [h.len] at this; exact this⟩
theorem IsNum.zero {w : World} {s : Bool} {ao : Option Addr} {n cap : Nat} {ds : List Int} {z : Int} {k : Nat} (h : IsNum w s ao n cap ds z k) : n = 0 ↔ z = 0 := by
 have h1 := nrm_zero h.nrm
 have h2 := h.val
 have h3 := h.len
 constructor
 · intro h0
   have : ds = [] := List.eq_nil_of_length_eq_zero (by omega)
   have := h1.2 this; omega
 · rintro rfl
   have : ds = [] := h1.1 (by rw [h2]; rfl)
   rw [this] at h3; simpa using h3.symm
def TrimP (neg : Bool) (n : Nat) (ds : List Int) (w : World) (e : Ending) (w' : World) : Prop :=
 ∃ (neg' : Bool) (ao' : Option Addr) (n' cap' : Nat) (ds' : List Int), e = .returned (.agg #[.bool neg', .slice ao' n' cap']) ∧
     ds'.length = n' ∧ n' ≤ cap' ∧ n' ≤ n ∧ Nrm ds' ∧ val ds' = val ds ∧ neg' = (neg && decide (val ds ≠ 0)) ∧ Rd w' ao' ds' ∧ Below w.heap.size w w'
theorem trim_some (neg : Bool) (n cap : Nat) (ds : List Int) (w w' : World) {b off : Nat} (hn : ds.length = n) (hc : n ≤ cap) (hd : Dig ds) (hr : Rd w (some ⟨b, off, none⟩) ds) (m : Nat) (hm : m < ds.length) (h0 : ds[m] ≠ 0)
   (hz : ∀ j, m + 1 ≤ j → (h : j < ds.length) → ds[j] = 0) (hb : Below w.heap.size w w') :
   TrimP neg n ds w (.returned (.agg #[.bool neg, .slice (some ⟨b, off, none⟩) (m + 1) cap])) w' := by
 have hv := val_cut ds (m + 1) hz
 have hnr := nrm_take hd m hm h0
 refine ⟨neg, _, m + 1, cap, ds.take (m + 1), rfl, by simp; omega, by omega, by omega, hnr, hv, ?_, (hr.take _).below hb (Nat.le_refl _), hb⟩
 have hne : ds.take (m + 1) ≠ [] := by intro h; have := congrArg List.length h; simp at this; subst this; simp at hm
 have := nrm_pos hnr hne
 simp; intro _; omega
theorem trim_none (neg : Bool) (n : Nat) (ds : List Int) (w w' : World) (hz : ∀ j, (h : j < ds.length) → ds[j] = 0) (hb : Below w.heap.size w w') :
   TrimP neg n ds w (.returned (.agg #[.bool false, .slice none 0 0])) w' := by
 have hv := val_cut ds 0 (fun j _ h => hz j h)
 simp [val] at hv
 exact ⟨false, none, 0, 0, [], rfl, rfl, Nat.le_refl _, Nat.zero_le _, nrm_nil, by simp [val, ← hv], by simp [← hv], Rd.nil _ _, hb⟩
set_option maxHeartbeats 400000 in
theorem trim_any (neg : Bool) (ao : Option Addr) (n cap : Nat) (ds : List Int) (w : World) (hn : ds.length = n) (hc : n ≤ cap) (hd : Dig ds) (hr : Rd w ao ds) (hm : n ≤ 1000000000) :
   Calls Tryd.prog 44 #[.bool neg, .slice ao n cap] w (TrimP neg n ds w) := by
 go_enter Tryd.func44, Tryd.ntmps44
 go_wp2
 go_loop [5] (fun i => ∃ k : Nat, k ≤ n ∧ i = .int .i64 k ∧ ∀ j, k ≤ j → (h : j < ds.length) → ds[j] = 0) (fun i => (intOf i).toNat)
 case atStart => exact ⟨n, Nat.le_refl _, rfl, fun j h1 h2 => by omega⟩
 case round =>
   obtain ⟨k, hk, rfl, hz⟩ := hrel
   have HN : Hid (ds.length = n) := hn
   have HD : Hid (Dig ds) := hd
   have HZ : Hid (∀ j, k ≤ j → (h : j < ds.length) → ds[j] = 0) := hz
   have HR : Hid (Rd w ao ds) := hr
   clear hz hr hd hn
   by_cases hk0 : 0 < k
   · obtain ⟨m, rfl⟩ : ∃ m, k = m + 1 := ⟨k - 1, by omega⟩
     have hml : m < ds.length := by have := HN.out; omega
     obtain ⟨b, off, rfl, hbl, hcell0⟩ := HR.out m hml
     have hcell := cell_alloc (o := Obj.cells #[Value.bool false, Value.slice none 0 0] 62) hbl hcell0
     clear hcell0
     go_wp2
     · go_round
       case rel =>
         have h0 : (ds[m] == 0) = true := by assumption
         exact ⟨m, by omega, by go_num, fun j h1 h2 => by
           by_cases e : j = m
           · subst e; simpa using h0
           · exact HZ.out j (by omega) h2⟩
       case measure => simp [intOf]
     · refine bodyPost_ret (v := .agg #[.bool neg, .slice (some ⟨b, off, none⟩) (m + 1) cap]) (by simp [results, Tryd.results44, go_sem]) rfl ?_
       have h0 : (ds[m] == 0) = false := by assumption
       exact trim_some neg n cap ds w _ HN.out hc HD.out HR.out m hml (by simpa using h0) HZ.out ((Below.refl _ _).alloc (Nat.le_refl _) _)
   · go_wp2
     refine bodyPost_ret (v := .agg #[.bool false, .slice none 0 0]) (by simp [results, Tryd.results44, go_sem]) rfl ?_
     exact trim_none neg n ds w _ (fun j h => HZ.out j (by omega) h) ((Below.refl _ _).alloc (Nat.le_refl _) _)
theorem Tryd.info88 : (Tryd.prog.info? 79).map (fun i => (i.zero, i.size, i.bytes)) = some (some (.int .u32 0), 1, 4) := by kernel_rfl
def DigsP (n : Nat) (z : Int) (w : World) (e : Ending) (w' : World) : Prop :=
 ∃ (ao : Option Addr) (cap : Nat) (zs : List Int), e = .returned (.slice ao n cap) ∧ zs.length = n ∧ n ≤ cap ∧ Dig zs ∧ val zs = z ∧ Rd w' ao zs ∧ Below w.heap.size w w'
structure SubI (w wr : World) (n : Nat) (xs ys : List Int) (k : Nat) (cv : Int) (zs : List Int) : Prop where
 len : zs.length = k
 dig : Dig zs
 eq : val zs = val (xs.take k) - val (ys.take k) + cv * pw k
 own : wr.ownsRow w.heap.size 79 1 (.slice (some ⟨w.heap.size, 0, none⟩) k n) k (zs.map (Value.int .u32))
 below : Below w.heap.size w wr
theorem sub_step {w wr w2 : World} {n : Nat} {xs ys : List Int} {k : Nat} {cv : Int} {zs : List Int} (hI : SubI w wr n xs ys k cv zs) (hc0 : 0 ≤ cv) (hc1 : cv ≤ 1) (v c' : Int) (hc' : c' = 0 ∨ c' = 1) (h0 : 0 ≤ v) (h1 : v < 4294967296)
   (he : v = xs.getD k 0 - ys.getD k 0 - cv + c' * 4294967296) {o : Obj} (hown : w2.ownsRow w.heap.size 79 1 (.slice (some ⟨w.heap.size, 0, none⟩) (k + 1) n) (k + 1) (zs.map (Value.int .u32) ++ [.int .u32 v]))
   (hgrow : (wr.alloc o).grownBy w2 (some w.heap.size)) : SubI w w2 n xs ys (k + 1) c' (zs ++ [v]) := by
 refine ⟨by simp [hI.len], dig_append.2 ⟨hI.dig, dig_cons.2 ⟨⟨h0, h1⟩, dig_nil⟩⟩, sub_eq xs ys zs k hI.len cv c' v (by omega) hc' hI.eq he, by simpa using hown, ?_⟩
 have hs := hI.below.size
 refine (hI.below.alloc hs o).grown hgrow (by simp; omega) ?_
 intro j hj
 cases hj
 exact Nat.le_refl _
theorem sub_done {w wr : World} {n : Nat} {xs ys : List Int} {cv : Int} {zs : List Int} (hI : SubI w wr n xs ys n cv zs) (hc0 : 0 ≤ cv) (hc1 : cv ≤ 1) (hx : xs.length = n) (dx : Dig xs) (dy : Dig ys) (hle : val ys ≤ val xs) :
   DigsP n (val xs - val ys) w (.returned (.slice (some ⟨w.heap.size, 0, none⟩) n n)) wr :=
 ⟨_, n, zs, rfl, hI.len, Nat.le_refl _, hI.dig, sub_end xs ys zs n hx hI.len dx dy hI.dig hle cv (by omega) hI.eq, Rd.own hI.own hI.len, hI.below⟩
set_option maxRecDepth 100000 in
set_option maxHeartbeats 400000 in
theorem subAbs_any (ao bo : Option Addr) (n m ca cb : Nat) (xs ys : List Int) (w : World) (hx : xs.length = n) (hy : ys.length = m) (dx : Dig xs) (dy : Dig ys) (rx : Rd w ao xs) (ry : Rd w bo ys) (hm : n ≤ 1000000) (_hm' : m ≤ 1000000)
   (hle : val ys ≤ val xs) :
   Calls Tryd.prog 66 #[.slice ao n ca, .slice bo m cb] w (DigsP n (val xs - val ys) w) := by
 obtain ⟨i0, hi, hz0, hz1, hz2⟩ := info_parts Tryd.info88
 have HX : Hid (xs.length = n) := hx
 have HY : Hid (ys.length = m) := hy
 have HDX : Hid (Dig xs) := dx
 have HDY : Hid (Dig ys) := dy
 have HRX : Hid (Rd w ao xs) := rx
 have HRY : Hid (Rd w bo ys) := ry
 have HLE : Hid (val ys ≤ val xs) := hle
 clear rx ry dx dy hx hy hle
 go_enter Tryd.func66, Tryd.ntmps66
 go_wp2_with (at_make; refine wpList_make_own _ rfl _ _ 60 rfl w.heap.size 79 i0 (.int .u32 0) 1 Tryd.underlying60 hi hz0 hz1 _ _ _ n rfl rfl rfl (by rw [hz2]; omega) (by unfold maxLen; omega) (Nat.le_refl _) ?_)
 intro w1 hown hgrow
 go_wp2
 go_loopw [5, 6, 7] (fun o c i wr => ∃ (k : Nat) (cv : Int) (zs : List Int), k ≤ n ∧ i = .int .i64 k ∧ 0 ≤ cv ∧ cv ≤ 1 ∧ c = .int .u64 cv ∧ o = .slice (some ⟨w.heap.size, 0, none⟩) k n ∧ SubI w wr n xs ys k cv zs) (fun _ _ i _ => n - (intOf i).toNat)
 case atStart => exact ⟨0, 0, [], Nat.zero_le _, rfl, by decide, by decide, rfl, rfl, ⟨rfl, dig_nil, by simp [val], hown, (Below.refl _ _).grown hgrow (Nat.le_refl _) (by simp)⟩⟩
 case round =>
   obtain ⟨k, cv, zs, hk, rfl, hc0, hc1, rfl, rfl, hI⟩ := hrel
   by_cases hkn : k < n
   · have hkx : k < xs.length := by have := HX.out; omega
     obtain ⟨b, off, rfl, hbl, hcx0⟩ := HRX.out k hkx
     have hcx := (hI.below.cell (p := ⟨b, off + k, none⟩) hbl).trans hcx0
     clear hcx0
     have hxd := dig_at HDX.out k hkx
     obtain ⟨hx0, hx1⟩ := hxd
     by_cases hkm : k < m
     · have hky : k < ys.length := by have := HY.out; omega
       obtain ⟨b', off', rfl, hbl', hcy0⟩ := HRY.out k hky
       have hcy := (hI.below.cell (p := ⟨b', off' + k, none⟩) hbl').trans hcy0
       clear hcy0
       obtain ⟨hy0, hy1⟩ := dig_at HDY.out k hky
       by_cases hlt : xs[k] < cv + ys[k]
       · go_wp2_with (at_builtin; refine wpList_append_fits _ rfl _ _ 60 rfl w.heap.size 79 i0 1 Tryd.underlying60 hi hz1 w.heap.size k n _ rfl (hI.own.alloc _) ⟨wr.heap.size, 0, none⟩ 1 1 [.int .u32 (xs[k] + 4294967296 - (cv + ys[k]))] rfl rfl (cell_one_new _ _ _) (one_cell _ _) (by omega) ?_)
         intro w2 hown2 hgrow2
         go_wp2
         go_roundw
         case rel => exact ⟨k + 1, 1, zs ++ [xs[k] + 4294967296 - (cv + ys[k])], by omega, by go_num, by decide, by decide, rfl, rfl, sub_step hI hc0 hc1 _ 1 (by decide) (by omega) (by omega) (by simp [List.getD, hkx, hky] <;> omega) hown2 hgrow2⟩
         case measure => simp [intOf]; omega
       · go_wp2_with (at_builtin; refine wpList_append_fits _ rfl _ _ 60 rfl w.heap.size 79 i0 1 Tryd.underlying60 hi hz1 w.heap.size k n _ rfl (hI.own.alloc _) ⟨wr.heap.size, 0, none⟩ 1 1 [.int .u32 (xs[k] - (cv + ys[k]))] rfl rfl (cell_one_new _ _ _) (one_cell _ _) (by omega) ?_)
         intro w2 hown2 hgrow2
         go_wp2
         go_roundw
         case rel => exact ⟨k + 1, 0, zs ++ [xs[k] - (cv + ys[k])], by omega, by go_num, by decide, by decide, rfl, rfl, sub_step hI hc0 hc1 _ 0 (by decide) (by omega) (by omega) (by simp [List.getD, hkx, hky] <;> omega) hown2 hgrow2⟩
         case measure => simp [intOf]; omega
     · by_cases hlt : xs[k] < cv
       · go_wp2_with (at_builtin; refine wpList_append_fits _ rfl _ _ 60 rfl w.heap.size 79 i0 1 Tryd.underlying60 hi hz1 w.heap.size k n _ rfl (hI.own.alloc _) ⟨wr.heap.size, 0, none⟩ 1 1 [.int .u32 (xs[k] + 4294967296 - cv)] rfl rfl (cell_one_new _ _ _) (one_cell _ _) (by omega) ?_)
         intro w2 hown2 hgrow2
         go_wp2
         go_roundw
         case rel => exact ⟨k + 1, 1, zs ++ [xs[k] + 4294967296 - cv], by omega, by go_num, by decide, by decide, rfl, rfl, sub_step hI hc0 hc1 _ 1 (by decide) (by omega) (by omega) (by have := HY.out; simp [List.getD, hkx, show ¬ k < ys.length by omega] <;> omega) hown2 hgrow2⟩
         case measure => simp [intOf]; omega
       · go_wp2_with (at_builtin; refine wpList_append_fits _ rfl _ _ 60 rfl w.heap.size 79 i0 1 Tryd.underlying60 hi hz1 w.heap.size k n _ rfl (hI.own.alloc _) ⟨wr.heap.size, 0, none⟩ 1 1 [.int .u32 (xs[k] - cv)] rfl rfl (cell_one_new _ _ _) (one_cell _ _) (by omega) ?_)
         intro w2 hown2 hgrow2
         go_wp2
         go_roundw
         case rel => exact ⟨k + 1, 0, zs ++ [xs[k] - cv], by omega, by go_num, by decide, by decide, rfl, rfl, sub_step hI hc0 hc1 _ 0 (by decide) (by omega) (by omega) (by have := HY.out; simp [List.getD, hkx, show ¬ k < ys.length by omega] <;> omega) hown2 hgrow2⟩
         case measure => simp [intOf]; omega
   · go_wp2
     go_ret
     obtain rfl : k = n := by omega
     exact sub_done hI hc0 hc1 HX.out HDX.out HDY.out HLE.out
theorem or_hi (x y : Int) (hx : 0 ≤ x ∧ x < 4294967296) (hy : 0 ≤ y ∧ y < 4294967296) : bits .or .u64 (IntKind.u64.wrap (y * 4294967296)) x = x + y * 4294967296 := by
 obtain ⟨x, rfl⟩ := Int.eq_ofNat_of_zero_le hx.1
 obtain ⟨y, rfl⟩ := Int.eq_ofNat_of_zero_le hy.1
 rw [IntKind.wrap_u64, show ((y : Int) * 4294967296) % 18446744073709551616 = ((y * 4294967296 : Nat) : Int) by omega, bits_or_u64_nat _ _ (by omega) (by omega)]
 have e2 := Nat.two_pow_add_eq_or_of_lt (i := 32) (b := x) (by omega) y
 have e3 : (2 : Nat) ^ 32 * y = y * 4294967296 := by omega
 rw [e3] at e2
 rw [← e2]
 omega
def IntP (z : Int) (w : World) (e : Ending) (w' : World) : Prop := e = .returned (.int .i64 z) ∧ Below w.heap.size w w'
set_option maxHeartbeats 400000 in
theorem cmpAbs_ne (ao bo : Option Addr) (n m ca cb : Nat) (w : World) (_hm : n ≤ 1000000) (_hm' : m ≤ 1000000) (z : Int) (hz : (n < m ∧ z = -1) ∨ (m < n ∧ z = 1)) :
   Calls Tryd.prog 65 #[.slice ao n ca, .slice bo m cb] w (IntP z w) := by
 have hne : ((n : Int) != (m : Int)) = true := by rw [bne_iff_ne]; omega
 rcases hz with ⟨h1, rfl⟩ | ⟨h1, rfl⟩
 · go_enter Tryd.func65, Tryd.ntmps65
   go_wp2
   go_ret
   exact ⟨rfl, Below.refl _ _⟩
 · have h2 : ¬ n < m := by omega
   go_enter Tryd.func65, Tryd.ntmps65
   go_wp2
   go_ret
   exact ⟨rfl, Below.refl _ _⟩
set_option maxHeartbeats 400000 in
theorem cmpAbs_eq (ao bo : Option Addr) (n ca cb : Nat) (xs ys : List Int) (w : World) (hx : xs.length = n) (hy : ys.length = n) (dx : Dig xs) (dy : Dig ys) (rx : Rd w ao xs) (ry : Rd w bo ys) (hm : n ≤ 1000000) :
   Calls Tryd.prog 65 #[.slice ao n ca, .slice bo n cb] w (IntP (cmpI (val xs) (val ys)) w) := by
 go_enter Tryd.func65, Tryd.ntmps65
 go_wp2
 go_loopw [5] (fun i wr => ∃ k : Nat, k ≤ n ∧ i = .int .i64 ((k : Int) - 1) ∧ xs.drop k = ys.drop k ∧ Below w.heap.size w wr) (fun i _ => (intOf i + 1).toNat)
 case atStart => exact ⟨n, Nat.le_refl _, rfl, by rw [List.drop_of_length_le (by omega), List.drop_of_length_le (by omega)], Below.refl _ _⟩
 case round =>
   obtain ⟨k, hk, rfl, hz, hb⟩ := hrel
   have HX : Hid (xs.length = n) := hx
   have HY : Hid (ys.length = n) := hy
   have HDX : Hid (Dig xs) := dx
   have HDY : Hid (Dig ys) := dy
   have HZ : Hid (xs.drop k = ys.drop k) := hz
   have HRX : Hid (Rd w ao xs) := rx
   have HRY : Hid (Rd w bo ys) := ry
   clear hz rx ry dx dy hx hy
   by_cases hk0 : 0 < k
   · obtain ⟨m, rfl⟩ : ∃ m, k = m + 1 := ⟨k - 1, by omega⟩
     have hmx : m < xs.length := by have := HX.out; omega
     have hmy : m < ys.length := by have := HY.out; omega
     obtain ⟨b, off, rfl, hbl, hcx0⟩ := HRX.out m hmx
     obtain ⟨b', off', rfl, hbl', hcy0⟩ := HRY.out m hmy
     have hcx := (hb.cell (p := ⟨b, off + m, none⟩) hbl).trans hcx0
     have hcy := (hb.cell (p := ⟨b', off' + m, none⟩) hbl').trans hcy0
     clear hcx0 hcy0
     rw [show (((m + 1 : Nat) : Int) - 1) = (m : Int) by omega]
     have hmn : (m : Int) < n := by omega
     rcases Int.lt_trichotomy xs[m] ys[m] with hlt | heq | hgt
     · go_wp2
       go_quiet (fail)
       go_wp2
       go_ret
       exact ⟨ret_int (cmpI_lt (val_above HDX.out HDY.out m hmx hmy HZ.out hlt)), bdrew hb _⟩
     · have h1 : ¬ xs[m] < ys[m] := by omega
       have h2 : ¬ ys[m] < xs[m] := by omega
       have HE : Hid (xs[m] = ys[m]) := heq
       clear heq
       go_wp2
       go_quiet (fail)
       go_wp2
       go_quiet (fail)
       go_wp2
       go_roundw
       case rel => exact ⟨m, by omega, rfl, by rw [List.drop_eq_getElem_cons hmx, List.drop_eq_getElem_cons hmy, HZ.out, HE.out], bdrew hb _⟩
       case measure => simp [intOf]
     · have h1 : ¬ xs[m] < ys[m] := by omega
       go_wp2
       go_quiet (fail)
       go_wp2
       go_quiet (fail)
       go_wp2
       go_ret
       exact ⟨ret_int (cmpI_gt (val_above HDY.out HDX.out m hmy hmx HZ.out.symm hgt)), bdrew (bdrew hb _) _⟩
   · go_wp2
     go_ret
     exact ⟨ret_int (cmpI_eq (by
       have : k = 0 := by omega
       subst this
       have := HZ.out
       simp only [List.drop_zero] at this
       rw [this])), hb⟩
theorem cmpAbs_any (ao bo : Option Addr) (n m ca cb : Nat) (xs ys : List Int) (w : World) (hx : xs.length = n) (hy : ys.length = m) (dx : Nrm xs) (dy : Nrm ys) (rx : Rd w ao xs) (ry : Rd w bo ys) (hm : n ≤ 1000000) (hm' : m ≤ 1000000) :
   Calls Tryd.prog 65 #[.slice ao n ca, .slice bo m cb] w (IntP (cmpI (val xs) (val ys)) w) := by
 rcases Nat.lt_trichotomy n m with h | h | h
 · exact cmpAbs_ne ao bo n m ca cb w hm hm' _ (Or.inl ⟨h, cmpI_lt (nrm_more dx dy (by omega))⟩)
 · subst h
   exact cmpAbs_eq ao bo n ca cb xs ys w hx hy dx.1 dy.1 rx ry hm
 · exact cmpAbs_ne ao bo n m ca cb w hm hm' _ (Or.inr ⟨h, cmpI_gt (nrm_more dy dx (by omega))⟩)
set_option maxRecDepth 100000 in
set_option maxHeartbeats 400000 in
theorem int_any (n : Int) (w : World) (h0 : -9223372036854775808 ≤ n) (h1 : n ≤ 9223372036854775807) :
   Calls Tryd.prog 32 #[.int .i64 n] w (NumP 2 n w) := by
 by_cases hn : n < 0
 · obtain ⟨u, hu⟩ : ∃ u, u = -n := ⟨_, rfl⟩
   have hw : IntKind.u64.wrap (-IntKind.u64.wrap n) = u := by rw [IntKind.wrap_u64, IntKind.wrap_u64]; omega
   have HU : Hid (u = -n) := hu
   have hu0 : 0 < u := by omega
   have hu1 : u ≤ 9223372036854775808 := by omega
   clear hu
   go_enter Tryd.func32, Tryd.ntmps32
   go_wp2_with fail
   refine (trim_any true _ 2 2 [u % 4294967296, u / 4294967296] _ rfl (Nat.le_refl _) (dig_cons.2 ⟨by omega, dig_cons.2 ⟨by omega, dig_nil⟩⟩) (Rd.lit _ (by simp) rfl (by simp [maxLen])) (by omega)).mono ?_
   rintro e w3 ⟨neg', ao', n', cap', ds', rfl, k1, k2, k3, k4, k5, k6, k7, k8⟩
   obtain ⟨c0, c1, f0, f1, hz, hB⟩ := res2 (((Below.refl (w.heap.size + 1) _).alloc (by simp) _).trans (k8.mono (by simp)))
   have HN := num_of (z := n) k1 k2 k3 k4 k5 k6 k7 (by have := HU.out; simp [val]; omega) (by intro _; simp [hn])
   have HB : Hid (Below w.heap.size w w3) := hB
   clear k1 k2 k3 k4 k5 k6 k7 k8 hB
   go_wp2
   refine bodyPost_ret (v := .agg #[.bool neg', .slice ao' n' cap']) (by simp [results, Tryd.results32, go_sem, c0, c1]) rfl ?_
   exact num_ret (Nat.le_refl _) c0 c1 HN HB.out
 · go_enter Tryd.func32, Tryd.ntmps32
   go_wp2_with fail
   refine (trim_any false _ 2 2 [n % 4294967296, n / 4294967296] _ rfl (Nat.le_refl _) (dig_cons.2 ⟨by omega, dig_cons.2 ⟨by omega, dig_nil⟩⟩) (Rd.lit _ (by simp) rfl (by simp [maxLen])) (by omega)).mono ?_
   rintro e w3 ⟨neg', ao', n', cap', ds', rfl, k1, k2, k3, k4, k5, k6, k7, k8⟩
   obtain ⟨c0, c1, f0, f1, hz, hB⟩ := res2 (((Below.refl (w.heap.size + 1) _).alloc (by simp) _).trans (k8.mono (by simp)))
   have HN := num_of (z := n) k1 k2 k3 k4 k5 k6 k7 (by simp [val]; omega) (by intro _; simp [hn])
   have HB : Hid (Below w.heap.size w w3) := hB
   clear k1 k2 k3 k4 k5 k6 k7 k8 hB
   go_wp2
   refine bodyPost_ret (v := .agg #[.bool neg', .slice ao' n' cap']) (by simp [results, Tryd.results32, go_sem, c0, c1]) rfl ?_
   exact num_ret (Nat.le_refl _) c0 c1 HN HB.out
def Word (x : Int) : Prop := 0 ≤ x ∧ x < 18446744073709551616
def uw (a3 a2 a1 a0 : Int) : Int := a0 + 18446744073709551616 * (a1 + 18446744073709551616 * (a2 + 18446744073709551616 * a3))
def sw (a3 a2 a1 a0 : Int) : Int := if a3 < 9223372036854775808 then uw a3 a2 a1 a0 else uw a3 a2 a1 a0 - 115792089237316195423570985008687907853269984665640564039457584007913129639936
def told (z : Int) : Bool := decide (-57896044618658097711785492504343953926634992332820282019728792003956564819968 ≤ z ∧ z < 57896044618658097711785492504343953926634992332820282019728792003956564819968)
def TellP (z : Int) (w : World) (e : Ending) (w' : World) : Prop :=
 Below w.heap.size w w' ∧ ((told z = true ∧ ∃ a3 a2 a1 a0, e = .returned (.tuple #[.agg #[.int .u64 a3, .int .u64 a2, .int .u64 a1, .int .u64 a0], .bool true]) ∧ Word a3 ∧ Word a2 ∧ Word a1 ∧ Word a0 ∧ sw a3 a2 a1 a0 = z) ∨
   (told z = false ∧ e = .returned (.tuple #[.agg #[.int .u64 0, .int .u64 0, .int .u64 0, .int .u64 0], .bool false])))
def eight (ds : List Int) (k : Nat) : List Value := (List.range 8).map fun i => .int .u64 (if i < k then ds.getD i 0 else 0)
theorem tell_below {w wr : World} {R : Nat} {v0 v1 v2 v3 : Value} (h : Below w.heap.size w wr) (hR : w.heap.size ≤ R) : Below w.heap.size w ((((wr.setCell ⟨R, 0, none⟩ v0).setCell ⟨R, 1, none⟩ v1).setCell ⟨R, 2, none⟩ v2).setCell ⟨R, 3, none⟩ v3) :=
 (((h.setCell hR _).setCell hR _).setCell hR _).setCell hR _
theorem add64 (x y c : Int) (hx : Word x) (hy : Word y) (hc0 : 0 ≤ c) (hc : c ≤ 1) (w : World) : (callFunc 94 #[.int .u64 x, .int .u64 y, .int .u64 c]).run Tryd.prog w =
   .ok (.value (.tuple #[.int .u64 ((x + y + c) % 18446744073709551616), .int .u64 ((x + y + c) / 18446744073709551616)])) w := by
 obtain ⟨hx0, hx1⟩ := hx
 obtain ⟨hy0, hy1⟩ := hy
 obtain ⟨x, rfl⟩ := Int.eq_ofNat_of_zero_le hx0
 obtain ⟨y, rfl⟩ := Int.eq_ofNat_of_zero_le hy0
 obtain ⟨c, rfl⟩ := Int.eq_ofNat_of_zero_le hc0
 rw [run_callFunc_extern Tryd.func94 (by kernel_rfl) (by kernel_rfl) (by kernel_rfl) (e := add64Entry) (by kernel_rfl), run_add64 x y c (by omega) (by omega) (by omega) (by omega)]
 simp only [Result.andThen]
theorem sub64 (x y b : Int) (hx : Word x) (hy : Word y) (hb0 : 0 ≤ b) (hb : b ≤ 1) (w : World) : (callFunc 99 #[.int .u64 x, .int .u64 y, .int .u64 b]).run Tryd.prog w =
   .ok (.value (.tuple #[.int .u64 ((x - y - b) % 18446744073709551616), .int .u64 (if x < y + b then 1 else 0)])) w := by
 obtain ⟨hx0, hx1⟩ := hx
 obtain ⟨hy0, hy1⟩ := hy
 obtain ⟨x, rfl⟩ := Int.eq_ofNat_of_zero_le hx0
 obtain ⟨y, rfl⟩ := Int.eq_ofNat_of_zero_le hy0
 obtain ⟨b, rfl⟩ := Int.eq_ofNat_of_zero_le hb0
 have e1 : (((x + 18446744073709551616 - y - b) % 18446744073709551616 : Nat) : Int) = ((x : Int) - y - b) % 18446744073709551616 := by omega
 have e2 : ((if x < y + b then 1 else 0 : Nat) : Int) = if (x : Int) < y + b then 1 else 0 := by split <;> split <;> omega
 rw [← e1, ← e2]
 rw [run_callFunc_extern Tryd.func99 (by kernel_rfl) (by kernel_rfl) (by kernel_rfl) (e := sub64Entry) (by kernel_rfl), run_sub64 x y b (by omega)]
 rfl
def val64 : List Int → Int
 | [] => 0
 | d :: t => d + 18446744073709551616 * val64 t
def Words (ds : List Int) : Prop := ∀ d ∈ ds, Word d
def pw64 : Nat → Int
 | 0 => 1
 | n + 1 => 18446744073709551616 * pw64 n
theorem val64_snoc (a : List Int) (d : Int) : val64 (a ++ [d]) = val64 a + pw64 a.length * d := by
 induction a with
 | nil => simp [val64, pw64]
 | cons x t ih => simp only [List.cons_append, val64, List.length_cons, pw64, ih]; grind
theorem words_append {a b : List Int} : Words (a ++ b) ↔ Words a ∧ Words b := by
 constructor
 · intro h; exact ⟨fun x hx => h x (by simp [hx]), fun x hx => h x (by simp [hx])⟩
 · rintro ⟨h1, h2⟩ x hx
   rcases List.mem_append.1 hx with hx | hx
   · exact h1 x hx
   · exact h2 x hx
theorem words_at {a : List Int} (h : Words a) (n : Nat) (hn : n < a.length) : Word a[n] := h _ (List.getElem_mem hn)
theorem val64_take (a : List Int) (k : Nat) (h : k < a.length) : val64 (a.take (k + 1)) = val64 (a.take k) + pw64 k * a[k] := by
 rw [List.take_succ_eq_append_getElem h, val64_snoc]
 simp [Nat.min_eq_left (Nat.le_of_lt h)]
structure Row (w : World) (A off : Nat) (xs : List Int) : Prop where
 cell : ∀ i, (h : i < xs.length) → w.cell? ⟨A, off + i, none⟩ = some (.int .u64 xs[i])
 frz : ∀ i, i < xs.length → w.frozen? ⟨A, off + i, none⟩ = false
 lt : A < w.heap.size
structure Wrote (A off n : Nat) (w w' : World) : Prop where
 os : w'.os = w.os
 tape : w'.tape = w.tape
 output : w'.output = w.output
 size : w'.heap.size = w.heap.size
 block : ∀ k, k ≠ A → w'.heap[k]? = w.heap[k]?
 cell : ∀ j, (j < off ∨ off + n ≤ j) → w'.cell? ⟨A, j, none⟩ = w.cell? ⟨A, j, none⟩
 frz : ∀ j, w'.frozen? ⟨A, j, none⟩ = w.frozen? ⟨A, j, none⟩
theorem Wrote.refl (A off n : Nat) (w : World) : Wrote A off n w w := ⟨rfl, rfl, rfl, rfl, fun _ _ => rfl, fun _ _ => rfl, fun _ => rfl⟩
theorem Wrote.drew {A off n : Nat} {w w' : World} (h : Wrote A off n w w') : Wrote A off n w w'.drew := ⟨h.os, h.tape, h.output, h.size, h.block, h.cell, h.frz⟩
theorem Wrote.set {A off n : Nat} {w w' : World} (h : Wrote A off n w w') (j : Nat) (hj : off ≤ j ∧ j < off + n) (u : Value) : Wrote A off n w (w'.setCell ⟨A, j, none⟩ u) := by
 refine ⟨h.os, h.tape, h.output, by simpa [World.setCell] using h.size, fun k hk => ?_, fun i hi => ?_, fun i => ?_⟩
 · rw [Below.heap_setCell _ _ _ _ hk]; exact h.block k hk
 · rw [World.cell?_setCell_other _ _ _ _ (by intro e; simp only [Addr.mk.injEq] at e; omega)]; exact h.cell i hi
 · rw [← h.frz i]; simp [go_sem]
theorem Wrote.cellOther {A off n : Nat} {w w' : World} (h : Wrote A off n w w') {b : Nat} (hb : b ≠ A) (o : Nat) : w'.cell? ⟨b, o, none⟩ = w.cell? ⟨b, o, none⟩ := World.cell?_of_block (w := w) (h.block b hb)
theorem Wrote.frzOther {A off n : Nat} {w w' : World} (h : Wrote A off n w w') {b : Nat} (hb : b ≠ A) (o : Nat) : w'.frozen? ⟨b, o, none⟩ = w.frozen? ⟨b, o, none⟩ := World.frozen?_of_block (w := w) (h.block b hb)
theorem Wrote.below {A off n : Nat} {w w' : World} (h : Wrote A off n w w') {B : Nat} (hB : B ≤ A) : Below B w w' := ⟨h.os, h.tape, h.output, by rw [h.size]; exact Nat.le_refl _, fun k hk => h.block k (by omega)⟩
theorem row_set {w : World} {A off : Nat} {zs t : List Int} {x : Int} (h : Row w A off (zs ++ x :: t)) (u : Int) : Row (w.setCell ⟨A, off + zs.length, none⟩ (.int .u64 u)) A off ((zs ++ [u]) ++ t) := by
 have hc := h.cell zs.length (by simp)
 refine ⟨fun i hi => ?_, fun i hi => ?_, by simpa [World.setCell] using h.lt⟩
 · by_cases he : i = zs.length
   · subst he
     rw [World.cell?_setCell_same _ _ _ hc]
     simp
   · rw [World.cell?_setCell_other _ _ _ _ (by intro e; simp only [Addr.mk.injEq] at e; omega), h.cell i (by simp at hi ⊢; omega)]
     congr 2
     simp only [List.append_assoc, List.cons_append, List.nil_append]
     rcases Nat.lt_or_ge i zs.length with h1 | h1
     · rw [List.getElem_append_left h1, List.getElem_append_left h1]
     · rw [List.getElem_append_right h1, List.getElem_append_right h1]
       obtain ⟨j, hj⟩ : ∃ j, i - zs.length = j + 1 := ⟨i - zs.length - 1, by omega⟩
       simp [hj]
 · have := h.frz i (by simp at hi ⊢; omega)
   rw [← this]; simp [go_sem]
theorem row_drew {w : World} {A off : Nat} {xs : List Int} (h : Row w A off xs) : Row w.drew A off xs := ⟨h.cell, h.frz, h.lt⟩
structure TwI (w wr : World) (A oa n : Nat) (xs ys : List Int) (k : Nat) (c : Int) (zs : List Int) : Prop where
 len : zs.length = k
 wds : Words zs
 eq : val64 zs = val64 (xs.take k) - val64 (ys.take k) + c * pw64 k
 row : Row wr A oa (zs ++ xs.drop k)
 wrote : Wrote A oa n w wr
def TakeWP (A oa n : Nat) (xs ys : List Int) (w : World) (e : Ending) (w' : World) : Prop :=
 ∃ (zs : List Int) (c : Int), e = .returned (.tuple #[]) ∧ zs.length = n ∧ Words zs ∧ 0 ≤ c ∧ c ≤ 1 ∧ val64 zs = val64 xs - val64 ys + c * pw64 n ∧ Row w' A oa zs ∧ Wrote A oa n w w'
theorem tw_cell {w wr : World} {A oa n : Nat} {xs ys : List Int} {k : Nat} {c : Int} {zs : List Int} (h : TwI w wr A oa n xs ys k c zs) (hk : k < xs.length) : wr.cell? ⟨A, oa + k, none⟩ = some (.int .u64 xs[k]) ∧ wr.frozen? ⟨A, oa + k, none⟩ = false := by
 have hl : k < (zs ++ xs.drop k).length := by simp [h.len]; omega
 refine ⟨?_, h.row.frz k hl⟩
 rw [h.row.cell k hl]
 have : (zs ++ xs.drop k)[k] = xs[k] := by have := h.len; rw [List.getElem_append_right (by omega)]; simp [h.len]
 rw [this]
theorem tw_step {w wr : World} {A oa n : Nat} {xs ys : List Int} {k : Nat} {c : Int} {zs : List Int} (h : TwI w wr A oa n xs ys k c zs) (hk : k < xs.length) (hk' : k < ys.length) (hn : k < n) (u c' : Int) (hu0 : Word u) (hu : u = xs[k] - ys[k] - c + c' * 18446744073709551616) :
   TwI w (wr.setCell ⟨A, oa + k, none⟩ (.int .u64 u)) A oa n xs ys (k + 1) c' (zs ++ [u]) := by
 refine ⟨by simp [h.len], words_append.2 ⟨h.wds, ?_⟩, ?_, ?_, h.wrote.set _ ⟨by omega, by omega⟩ _⟩
 · intro d hd; simp only [List.mem_singleton] at hd; subst hd; exact hu0
 · rw [val64_snoc, h.len, val64_take xs k hk, val64_take ys k hk', pw64, h.eq, hu]
   grind
 · have hr := h.row
   rw [List.drop_eq_getElem_cons hk] at hr
   have := row_set hr u
   rw [h.len] at this
   exact this
theorem tw_drew {w wr : World} {A oa n : Nat} {xs ys : List Int} {k : Nat} {c : Int} {zs : List Int} (h : TwI w wr A oa n xs ys k c zs) : TwI w wr.drew A oa n xs ys k c zs := ⟨h.len, h.wds, h.eq, row_drew h.row, h.wrote.drew⟩
theorem tw_done {w wr : World} {A oa n : Nat} {xs ys : List Int} {c : Int} {zs : List Int} (h : TwI w wr A oa n xs ys n c zs) (hx : xs.length = n) (hy : ys.length = n) (hc0 : 0 ≤ c) (hc1 : c ≤ 1) : TakeWP A oa n xs ys w (.returned (.tuple #[])) wr := by
 refine ⟨zs, c, rfl, h.len, h.wds, hc0, hc1, ?_, ?_, h.wrote⟩
 · have := h.eq
   rwa [List.take_of_length_le (by omega), List.take_of_length_le (by omega)] at this
 · have := h.row
   rwa [List.drop_of_length_le (by omega), List.append_nil] at this
theorem borrow (x y b : Int) (hx : Word x) (hy : Word y) (hb0 : 0 ≤ b) (hb1 : b ≤ 1) (u b' : Int) (hu : u = (x - y - b) % 18446744073709551616) (hb' : b' = if x < y + b then 1 else 0) : Word u ∧ u = x - y - b + b' * 18446744073709551616 ∧ 0 ≤ b' ∧ b' ≤ 1 := by
 unfold Word at *
 split at hb' <;> omega
set_option maxRecDepth 100000 in
set_option maxHeartbeats 2000000 in
theorem takeWords_any (A B oa ob n ca cc cb : Nat) (xs ys : List Int) (w : World) (hx : xs.length = n) (hy : ys.length = n) (wx : Words xs) (wy : Words ys) (rx : Row w A oa xs) (ry : Row w B ob ys) (hAB : B ≠ A) (hn : n ≤ 1000) :
   Calls Tryd.prog 98 #[.slice (some ⟨A, oa, none⟩) n ca, .slice (some ⟨A, oa, none⟩) n cc, .slice (some ⟨B, ob, none⟩) n cb] w (TakeWP A oa n xs ys w) := by
 have HX : Hid (xs.length = n) := hx
 have HY : Hid (ys.length = n) := hy
 have HS : TwI w w A oa n xs ys 0 0 [] := ⟨rfl, by intro d hd; simp at hd, by simp [val64], by simpa using rx, Wrote.refl _ _ _ _⟩
 have HRY : Hid (Row w B ob ys) := ry
 have HWX : Hid (Words xs) := wx
 have HWY : Hid (Words ys) := wy
 clear hx hy wx wy rx ry
 go_enter Tryd.func98, Tryd.ntmps98
 go_wp2
 go_loopw [6, 10] (fun cr i wr => ∃ (k : Nat) (c : Int) (zs : List Int), k ≤ n ∧ i = .int .i64 k ∧ 0 ≤ c ∧ c ≤ 1 ∧ cr = .int .u64 c ∧ TwI w wr A oa n xs ys k c zs) (fun _ i _ => n - (intOf i).toNat)
 case atStart => exact ⟨0, 0, [], Nat.zero_le _, rfl, by decide, by decide, rfl, HS⟩
 case round =>
   obtain ⟨k, c, zs, hk, rfl, hc0, hc1, rfl, hI⟩ := hrel
   clear HS
   by_cases hkn : k < n
   · have hkx : k < xs.length := by have := HX.out; omega
     have hky : k < ys.length := by have := HY.out; omega
     obtain ⟨hcx, hfx⟩ := tw_cell hI hkx
     have hcy := (hI.wrote.cellOther hAB (ob + k)).trans (HRY.out.cell k hky)
     have vx := words_at HWX.out k hkx
     have vy := words_at HWY.out k hky
     obtain ⟨u, hu⟩ : ∃ u, u = (xs[k] - ys[k] - c) % 18446744073709551616 := ⟨_, rfl⟩
     obtain ⟨c', hc'⟩ : ∃ c' : Int, c' = if xs[k] < ys[k] + c then 1 else 0 := ⟨_, rfl⟩
     have hadd := fun wx => sub64 xs[k] ys[k] c vx vy hc0 hc1 wx
     rw [← hu, ← hc'] at hadd
     obtain ⟨hw, hq, hb0, hb1⟩ := borrow _ _ _ vx vy hc0 hc1 u c' hu hc'
     have R := tw_step hI hkx hky hkn u c' hw hq
     clear hI vx vy hu hc' hw hq
     have hkn' : (k : Int) < n := by omega
     go_wp2
     go_region
     go_wp2
     go_roundw
     case rel => exact ⟨k + 1, c', _, by omega, by go_num, hb0, hb1, rfl, by first | exact R | exact tw_drew R⟩
     case measure => simp [intOf]; omega
   · obtain rfl : k = n := by omega
     have R := tw_done hI HX.out HY.out hc0 hc1
     clear hI
     go_wp2
     go_end0
     exact R
theorem words_set {zs : List Int} (h : Words zs) (j : Nat) {u : Int} (hu : Word u) : Words (zs.set j u) := by
 intro d hd
 rcases List.mem_or_eq_of_mem_set hd with h' | h'
 · exact h d h'
 · subst h'; exact hu
theorem words_cons {d : Int} {t : List Int} : Words (d :: t) ↔ Word d ∧ Words t := by
 constructor
 · intro h; exact ⟨h d (by simp), fun x hx => h x (by simp [hx])⟩
 · rintro ⟨h1, h2⟩ x hx
   rcases List.mem_cons.1 hx with rfl | hx
   · exact h1
   · exact h2 x hx
theorem val64_nonneg {a : List Int} (h : Words a) : 0 ≤ val64 a := by
 induction a with
 | nil => simp [val64]
 | cons d t ih =>
   obtain ⟨h1, h2⟩ := words_cons.1 h
   have := ih h2
   have := h1.1
   simp only [val64]; omega
theorem wrap_word {x : Int} (h0 : 0 ≤ x) (h1 : x < 18446744073709551616) : IntKind.u64.wrap x = x := by
 rw [IntKind.wrap_u64]; omega
def Blk (W : World) (g : Nat) (vs : List Value) : Prop := g < W.heap.size ∧ ∀ i v, vs[i]? = some v → W.cell? ⟨g, i, none⟩ = some v ∧ W.frozen? ⟨g, i, none⟩ = false
theorem Blk.lt {W : World} {g : Nat} {vs : List Value} (h : Blk W g vs) : g < W.heap.size := h.1
theorem Blk.c {W : World} {g : Nat} {vs : List Value} (h : Blk W g vs) (i : Nat) {v : Value} (hi : vs[i]? = some v) : W.cell? ⟨g, i, none⟩ = some v := (h.2 i v hi).1
theorem Blk.f {W : World} {g : Nat} {vs : List Value} (h : Blk W g vs) (i : Nat) {v : Value} (hi : vs[i]? = some v) : W.frozen? ⟨g, i, none⟩ = false := (h.2 i v hi).2
theorem Blk.cs2 {W : World} {g : Nat} {v0 v1 : Value} {vs : List Value} (h : Blk W g (v0 :: v1 :: vs)) : W.cell? ⟨g, 0, none⟩ = some v0 ∧ W.cell? ⟨g, 1, none⟩ = some v1 := ⟨h.c 0 rfl, h.c 1 rfl⟩
theorem Blk.cf2 {W : World} {g : Nat} {v0 v1 : Value} {vs : List Value} (h : Blk W g (v0 :: v1 :: vs)) : W.cell? ⟨g, 0, none⟩ = some v0 ∧ W.frozen? ⟨g, 0, none⟩ = false ∧ W.cell? ⟨g, 1, none⟩ = some v1 ∧ W.frozen? ⟨g, 1, none⟩ = false := ⟨h.c 0 rfl, h.f 0 rfl, h.c 1 rfl, h.f 1 rfl⟩
theorem Blk.cf4 {W : World} {g : Nat} {v0 v1 v2 v3 : Value} {vs : List Value} (h : Blk W g (v0 :: v1 :: v2 :: v3 :: vs)) : W.cell? ⟨g, 0, none⟩ = some v0 ∧ W.frozen? ⟨g, 0, none⟩ = false ∧ W.cell? ⟨g, 1, none⟩ = some v1 ∧ W.frozen? ⟨g, 1, none⟩ = false ∧ W.cell? ⟨g, 2, none⟩ = some v2 ∧ W.frozen? ⟨g, 2, none⟩ = false ∧ W.cell? ⟨g, 3, none⟩ = some v3 ∧ W.frozen? ⟨g, 3, none⟩ = false := ⟨h.c 0 rfl, h.f 0 rfl, h.c 1 rfl, h.f 1 rfl, h.c 2 rfl, h.f 2 rfl, h.c 3 rfl, h.f 3 rfl⟩
theorem Blk.below {W W' : World} {B g : Nat} {vs : List Value} (h : Blk W g vs) (hB : Below B W W') (hg : g < B) : Blk W' g vs :=
 ⟨Nat.lt_of_lt_of_le h.1 hB.size, fun i _ hi => ⟨(hB.cell (p := ⟨g, i, none⟩) hg).trans (h.c i hi), (hB.frozen (p := ⟨g, i, none⟩) hg).trans (h.f i hi)⟩⟩
theorem Blk.step {W W' : World} {g : Nat} {vs : List Value} (h : Blk W g vs) (hB : Below W.heap.size W W') : Blk W' g vs := h.below hB h.1
theorem Blk.alloc {W : World} {g : Nat} {vs : List Value} (h : Blk W g vs) (o : Obj) : Blk (W.alloc o) g vs := h.step ((Below.refl W.heap.size W).alloc (Nat.le_refl _) o)
theorem Blk.drew {W : World} {g : Nat} {vs : List Value} (h : Blk W g vs) : Blk W.drew g vs := h
theorem Blk.new (W : World) (vs : List Value) (t : TypeId) {g : Nat} (hg : g = W.heap.size) : Blk (W.alloc (.cells vs.toArray t)) g vs := by
 subst hg
 refine ⟨by simp, fun i v hi => ⟨?_, by simp [go_sem]⟩⟩
 simp [go_sem, hi]
theorem Blk.setO {W : World} {g : Nat} {vs : List Value} (h : Blk W g vs) {p : Addr} (hne : g ≠ p.block) (u : Value) : Blk (W.setCell p u) g vs := by
 have hh : (W.setCell p u).heap[g]? = W.heap[g]? := Below.heap_setCell _ _ _ _ hne
 refine ⟨by simpa [World.setCell] using h.1, fun i v hi => ⟨?_, ?_⟩⟩
 · have := h.c i hi
   unfold World.cell? at *
   simpa [hh] using this
 · have := h.f i hi
   unfold World.frozen? at *
   simpa [hh] using this
theorem Blk.setI {W : World} {g : Nat} {vs : List Value} (h : Blk W g vs) (j : Nat) (hj : j < vs.length) (u : Value) : Blk (W.setCell ⟨g, j, none⟩ u) g (vs.set j u) := by
 refine ⟨by simpa [World.setCell] using h.1, fun i v hi => ?_⟩
 by_cases e : i = j
 · subst e
   have hv : v = u := by simpa [hj] using hi.symm
   subst hv
   exact ⟨by simp [go_sem, h.c i (List.getElem?_eq_getElem hj)], by simp [go_sem, h.f i (List.getElem?_eq_getElem hj)]⟩
 · have hi' : vs[i]? = some v := by simpa [List.getElem?_set, Ne.symm e] using hi
   exact ⟨(World.cell?_setCell_other _ _ _ _ (by simp)).trans (h.c i hi'), by simp [go_sem, h.f i hi']⟩
def ArgsB (w W : World) (vss : List (List Value)) : Prop := Below w.heap.size w W ∧ ∀ j vs, vss[j]? = some vs → Blk W (w.heap.size + j) vs
theorem ArgsB.below {w W : World} {vss : List (List Value)} (h : ArgsB w W vss) : Below w.heap.size w W := h.1
theorem ArgsB.b {w W : World} {vss : List (List Value)} (h : ArgsB w W vss) (j : Nat) {vs : List Value} (hj : vss[j]? = some vs) : Blk W (w.heap.size + j) vs := h.2 j vs hj
theorem ArgsB.step {w W W' : World} {vss : List (List Value)} (h : ArgsB w W vss) (hB : Below W.heap.size W W') : ArgsB w W' vss := ⟨h.1.trans (hB.mono h.1.size), fun j vs hj => (h.2 j vs hj).step hB⟩
theorem ArgsB.drew {w W : World} {vss : List (List Value)} (h : ArgsB w W vss) : ArgsB w W.drew vss := ⟨h.1.drew, h.2⟩
theorem Blk.set4 {wx : World} {vs : List Value} {v0 v1 v2 v3 : Value} {g g' : Nat} (G : Blk wx g' vs) (hg : g' ≠ g) :
   Blk ((((wx.setCell ⟨g, 0, none⟩ v0).setCell ⟨g, 1, none⟩ v1).setCell ⟨g, 2, none⟩ v2).setCell ⟨g, 3, none⟩ v3) g' vs :=
 (((G.setO (by exact hg) _).setO (by exact hg) _).setO (by exact hg) _).setO (by exact hg) _
def agg (xs : List Int) : Value := .agg (xs.map (Value.int .u64)).toArray
def AggP (n : Nat) (v : Int) (w : World) (e : Ending) (w' : World) : Prop := ∃ zs : List Int, e = .returned (agg zs) ∧ zs.length = n ∧ Words zs ∧ val64 zs = v ∧ Below w.heap.size w w'
structure Mk (w wr : World) (g gp : Nat) (vs : List Value) (zs : List Int) : Prop where
 below : Below w.heap.size w wr
 r : Blk wr g vs
 p : Blk wr gp (zs.map (Value.int .u64))
theorem Mk.set {w wr : World} {g gp : Nat} {vs : List Value} {zs : List Int} (h : Mk w wr g gp vs zs) (hne : g ≠ gp) (hg : w.heap.size ≤ gp) (j : Nat) (hj : j < zs.length) (u : Int) : Mk w (wr.setCell ⟨gp, j, none⟩ (.int .u64 u)) g gp vs (zs.set j u) :=
 ⟨h.below.setCell hg _, h.r.setO hne _, by have := h.p.setI j (by simpa using hj) (.int .u64 u); rwa [← List.map_set] at this⟩
theorem Mk.cp {w wr : World} {g gp : Nat} {vs : List Value} {zs : List Int} (h : Mk w wr g gp vs zs) (j : Nat) (hj : j < zs.length) : wr.cell? ⟨gp, j, none⟩ = some (.int .u64 zs[j]) ∧ wr.frozen? ⟨gp, j, none⟩ = false := ⟨h.p.c j (by simp [hj]), h.p.f j (v := .int .u64 zs[j]) (by simp [hj])⟩
def MinusP (xs ys : List Int) (w : World) (e : Ending) (w' : World) : Prop :=
 ∃ (zs : List Int) (c : Int), e = .returned (.agg (zs.map (Value.int .u64)).toArray) ∧ zs.length = xs.length ∧ Words zs ∧ 0 ≤ c ∧ c ≤ 1 ∧ val64 zs = val64 xs - val64 ys + c * pw64 xs.length ∧ Below w.heap.size w w'
theorem Row.drewd {w : World} {A off : Nat} {xs : List Int} (h : Row w A off xs) : Row w.drew A off xs := row_drew h
theorem row_other {w w' : World} {A B oa ob n : Nat} {xs : List Int} (h : Row w B ob xs) (hw : Wrote A oa n w w') (hne : B ≠ A) : Row w' B ob xs :=
 ⟨fun i hi => (hw.cellOther hne _).trans (h.cell i hi), fun i hi => (hw.frzOther hne _).trans (h.frz i hi), by rw [hw.size]; exact h.lt⟩
theorem list4 {l : List Int} (h : l.length = 4) : ∃ z0 z1 z2 z3, l = [z0, z1, z2, z3] := by
 match l, h with
 | [z0, z1, z2, z3], _ => exact ⟨z0, z1, z2, z3, rfl⟩
theorem list8 {l : List Int} (h : l.length = 8) : ∃ z0 z1 z2 z3 z4 z5 z6 z7, l = [z0, z1, z2, z3, z4, z5, z6, z7] := by
 match l, h with
 | [z0, z1, z2, z3, z4, z5, z6, z7], _ => exact ⟨z0, z1, z2, z3, z4, z5, z6, z7, rfl⟩
theorem row_of8 {w : World} {A : Nat} {x0 x1 x2 x3 x4 x5 x6 x7 : Int} (hl : A < w.heap.size) (h0 : w.cell? ⟨A, 0, none⟩ = some (.int .u64 x0)) (h1 : w.cell? ⟨A, 1, none⟩ = some (.int .u64 x1)) (h2 : w.cell? ⟨A, 2, none⟩ = some (.int .u64 x2)) (h3 : w.cell? ⟨A, 3, none⟩ = some (.int .u64 x3)) (h4 : w.cell? ⟨A, 4, none⟩ = some (.int .u64 x4)) (h5 : w.cell? ⟨A, 5, none⟩ = some (.int .u64 x5)) (h6 : w.cell? ⟨A, 6, none⟩ = some (.int .u64 x6)) (h7 : w.cell? ⟨A, 7, none⟩ = some (.int .u64 x7)) (f0 : w.frozen? ⟨A, 0, none⟩ = false) (f1 : w.frozen? ⟨A, 1, none⟩ = false) (f2 : w.frozen? ⟨A, 2, none⟩ = false) (f3 : w.frozen? ⟨A, 3, none⟩ = false) (f4 : w.frozen? ⟨A, 4, none⟩ = false) (f5 : w.frozen? ⟨A, 5, none⟩ = false) (f6 : w.frozen? ⟨A, 6, none⟩ = false) (f7 : w.frozen? ⟨A, 7, none⟩ = false) : Row w A 0 [x0, x1, x2, x3, x4, x5, x6, x7] := by
 refine ⟨fun i hi => ?_, fun i hi => ?_, hl⟩
 · simp only [Nat.zero_add]
   match i, hi with
   | 0, _ => exact h0
   | 1, _ => exact h1
   | 2, _ => exact h2
   | 3, _ => exact h3
   | 4, _ => exact h4
   | 5, _ => exact h5
   | 6, _ => exact h6
   | 7, _ => exact h7
 · simp only [Nat.zero_add]
   match i, hi with
   | 0, _ => exact f0
   | 1, _ => exact f1
   | 2, _ => exact f2
   | 3, _ => exact f3
   | 4, _ => exact f4
   | 5, _ => exact f5
   | 6, _ => exact f6
   | 7, _ => exact f7
theorem row_cells8 {w : World} {A : Nat} {x0 x1 x2 x3 x4 x5 x6 x7 : Int} (h : Row w A 0 [x0, x1, x2, x3, x4, x5, x6, x7]) : w.cell? ⟨A, 0, none⟩ = some (.int .u64 x0) ∧ w.cell? ⟨A, 1, none⟩ = some (.int .u64 x1) ∧ w.cell? ⟨A, 2, none⟩ = some (.int .u64 x2) ∧ w.cell? ⟨A, 3, none⟩ = some (.int .u64 x3) ∧ w.cell? ⟨A, 4, none⟩ = some (.int .u64 x4) ∧ w.cell? ⟨A, 5, none⟩ = some (.int .u64 x5) ∧ w.cell? ⟨A, 6, none⟩ = some (.int .u64 x6) ∧ w.cell? ⟨A, 7, none⟩ = some (.int .u64 x7) :=
 ⟨by simpa using h.cell 0 (by simp), by simpa using h.cell 1 (by simp), by simpa using h.cell 2 (by simp), by simpa using h.cell 3 (by simp), by simpa using h.cell 4 (by simp), by simpa using h.cell 5 (by simp), by simpa using h.cell 6 (by simp), by simpa using h.cell 7 (by simp)⟩
theorem row_frz8 {w : World} {A : Nat} {x0 x1 x2 x3 x4 x5 x6 x7 : Int} (h : Row w A 0 [x0, x1, x2, x3, x4, x5, x6, x7]) : w.frozen? ⟨A, 0, none⟩ = false ∧ w.frozen? ⟨A, 1, none⟩ = false ∧ w.frozen? ⟨A, 2, none⟩ = false ∧ w.frozen? ⟨A, 3, none⟩ = false ∧ w.frozen? ⟨A, 4, none⟩ = false ∧ w.frozen? ⟨A, 5, none⟩ = false ∧ w.frozen? ⟨A, 6, none⟩ = false ∧ w.frozen? ⟨A, 7, none⟩ = false :=
 ⟨by simpa using h.frz 0 (by simp), by simpa using h.frz 1 (by simp), by simpa using h.frz 2 (by simp), by simpa using h.frz 3 (by simp), by simpa using h.frz 4 (by simp), by simpa using h.frz 5 (by simp), by simpa using h.frz 6 (by simp), by simpa using h.frz 7 (by simp)⟩
theorem minus8_ret {w w1 : World} {xs ys : List Int} {e : Ending} {u0 u1 u2 u3 u4 u5 u6 u7 : Value} (h : MinusP xs ys w e w1) : MinusP xs ys w e ((((((((w1.setCell ⟨w.heap.size + 1 + 1, 0, none⟩ u0).setCell ⟨w.heap.size + 1 + 1, 1, none⟩ u1).setCell ⟨w.heap.size + 1 + 1, 2, none⟩ u2).setCell ⟨w.heap.size + 1 + 1, 3, none⟩ u3).setCell ⟨w.heap.size + 1 + 1, 4, none⟩ u4).setCell ⟨w.heap.size + 1 + 1, 5, none⟩ u5).setCell ⟨w.heap.size + 1 + 1, 6, none⟩ u6).setCell ⟨w.heap.size + 1 + 1, 7, none⟩ u7) := by
 obtain ⟨zs, c, h1, h2, h3, h4, h5, h6, h7⟩ := h
 exact ⟨zs, c, h1, h2, h3, h4, h5, h6, ((((((((h7.setCell (by show w.heap.size ≤ w.heap.size + 1 + 1; omega) _).setCell (by show w.heap.size ≤ w.heap.size + 1 + 1; omega) _).setCell (by show w.heap.size ≤ w.heap.size + 1 + 1; omega) _).setCell (by show w.heap.size ≤ w.heap.size + 1 + 1; omega) _).setCell (by show w.heap.size ≤ w.heap.size + 1 + 1; omega) _).setCell (by show w.heap.size ≤ w.heap.size + 1 + 1; omega) _).setCell (by show w.heap.size ≤ w.heap.size + 1 + 1; omega) _).setCell (by show w.heap.size ≤ w.heap.size + 1 + 1; omega) _)⟩
set_option maxRecDepth 100000 in
set_option maxHeartbeats 2000000 in
theorem minus8 (x0 x1 x2 x3 x4 x5 x6 x7 y0 y1 y2 y3 y4 y5 y6 y7 : Int) (wx : Words [x0, x1, x2, x3, x4, x5, x6, x7]) (wy : Words [y0, y1, y2, y3, y4, y5, y6, y7]) (w : World) :
   Calls Tryd.prog 96 #[.agg #[.int .u64 x0, .int .u64 x1, .int .u64 x2, .int .u64 x3, .int .u64 x4, .int .u64 x5, .int .u64 x6, .int .u64 x7], .agg #[.int .u64 y0, .int .u64 y1, .int .u64 y2, .int .u64 y3, .int .u64 y4, .int .u64 y5, .int .u64 y6, .int .u64 y7]] w (MinusP [x0, x1, x2, x3, x4, x5, x6, x7] [y0, y1, y2, y3, y4, y5, y6, y7] w) := by
 have rx : Row (((w.alloc (Obj.cells #[Value.int IntKind.u64 x0, Value.int IntKind.u64 x1, Value.int IntKind.u64 x2, Value.int IntKind.u64 x3, Value.int IntKind.u64 x4, Value.int IntKind.u64 x5, Value.int IntKind.u64 x6, Value.int IntKind.u64 x7] 127)).alloc (Obj.cells #[Value.int IntKind.u64 y0, Value.int IntKind.u64 y1, Value.int IntKind.u64 y2, Value.int IntKind.u64 y3, Value.int IntKind.u64 y4, Value.int IntKind.u64 y5, Value.int IntKind.u64 y6, Value.int IntKind.u64 y7] 127)).alloc (Obj.cells #[Value.int IntKind.u64 0, Value.int IntKind.u64 0, Value.int IntKind.u64 0, Value.int IntKind.u64 0, Value.int IntKind.u64 0, Value.int IntKind.u64 0, Value.int IntKind.u64 0, Value.int IntKind.u64 0] 127)) w.heap.size 0 [x0, x1, x2, x3, x4, x5, x6, x7] := row_of8 (by simp <;> omega) (by simp [go_sem]) (by simp [go_sem]) (by simp [go_sem]) (by simp [go_sem]) (by simp [go_sem]) (by simp [go_sem]) (by simp [go_sem]) (by simp [go_sem]) (by simp [go_sem]) (by simp [go_sem]) (by simp [go_sem]) (by simp [go_sem]) (by simp [go_sem]) (by simp [go_sem]) (by simp [go_sem]) (by simp [go_sem])
 have ry : Row (((w.alloc (Obj.cells #[Value.int IntKind.u64 x0, Value.int IntKind.u64 x1, Value.int IntKind.u64 x2, Value.int IntKind.u64 x3, Value.int IntKind.u64 x4, Value.int IntKind.u64 x5, Value.int IntKind.u64 x6, Value.int IntKind.u64 x7] 127)).alloc (Obj.cells #[Value.int IntKind.u64 y0, Value.int IntKind.u64 y1, Value.int IntKind.u64 y2, Value.int IntKind.u64 y3, Value.int IntKind.u64 y4, Value.int IntKind.u64 y5, Value.int IntKind.u64 y6, Value.int IntKind.u64 y7] 127)).alloc (Obj.cells #[Value.int IntKind.u64 0, Value.int IntKind.u64 0, Value.int IntKind.u64 0, Value.int IntKind.u64 0, Value.int IntKind.u64 0, Value.int IntKind.u64 0, Value.int IntKind.u64 0, Value.int IntKind.u64 0] 127)) (w.heap.size + 1) 0 [y0, y1, y2, y3, y4, y5, y6, y7] := row_of8 (by simp <;> omega) (by simp [go_sem]) (by simp [go_sem]) (by simp [go_sem]) (by simp [go_sem]) (by simp [go_sem]) (by simp [go_sem]) (by simp [go_sem]) (by simp [go_sem]) (by simp [go_sem]) (by simp [go_sem]) (by simp [go_sem]) (by simp [go_sem]) (by simp [go_sem]) (by simp [go_sem]) (by simp [go_sem]) (by simp [go_sem])
 have rr : Row (((w.alloc (Obj.cells #[Value.int IntKind.u64 x0, Value.int IntKind.u64 x1, Value.int IntKind.u64 x2, Value.int IntKind.u64 x3, Value.int IntKind.u64 x4, Value.int IntKind.u64 x5, Value.int IntKind.u64 x6, Value.int IntKind.u64 x7] 127)).alloc (Obj.cells #[Value.int IntKind.u64 y0, Value.int IntKind.u64 y1, Value.int IntKind.u64 y2, Value.int IntKind.u64 y3, Value.int IntKind.u64 y4, Value.int IntKind.u64 y5, Value.int IntKind.u64 y6, Value.int IntKind.u64 y7] 127)).alloc (Obj.cells #[Value.int IntKind.u64 0, Value.int IntKind.u64 0, Value.int IntKind.u64 0, Value.int IntKind.u64 0, Value.int IntKind.u64 0, Value.int IntKind.u64 0, Value.int IntKind.u64 0, Value.int IntKind.u64 0] 127)) (w.heap.size + 1 + 1) 0 [0, 0, 0, 0, 0, 0, 0, 0] := row_of8 (by simp <;> omega) (by simp [go_sem]) (by simp [go_sem]) (by simp [go_sem]) (by simp [go_sem]) (by simp [go_sem]) (by simp [go_sem]) (by simp [go_sem]) (by simp [go_sem]) (by simp [go_sem]) (by simp [go_sem]) (by simp [go_sem]) (by simp [go_sem]) (by simp [go_sem]) (by simp [go_sem]) (by simp [go_sem]) (by simp [go_sem])
 have hB : Below w.heap.size w (((w.alloc (Obj.cells #[Value.int IntKind.u64 x0, Value.int IntKind.u64 x1, Value.int IntKind.u64 x2, Value.int IntKind.u64 x3, Value.int IntKind.u64 x4, Value.int IntKind.u64 x5, Value.int IntKind.u64 x6, Value.int IntKind.u64 x7] 127)).alloc (Obj.cells #[Value.int IntKind.u64 y0, Value.int IntKind.u64 y1, Value.int IntKind.u64 y2, Value.int IntKind.u64 y3, Value.int IntKind.u64 y4, Value.int IntKind.u64 y5, Value.int IntKind.u64 y6, Value.int IntKind.u64 y7] 127)).alloc (Obj.cells #[Value.int IntKind.u64 0, Value.int IntKind.u64 0, Value.int IntKind.u64 0, Value.int IntKind.u64 0, Value.int IntKind.u64 0, Value.int IntKind.u64 0, Value.int IntKind.u64 0, Value.int IntKind.u64 0] 127)) := (((Below.refl _ _).alloc (Nat.le_refl _) _).alloc (by simp) _).alloc (by simp; omega) _
 go_enter Tryd.func96, Tryd.ntmps96
 go_wp2
 generalize ((w.alloc (Obj.cells #[Value.int IntKind.u64 x0, Value.int IntKind.u64 x1, Value.int IntKind.u64 x2, Value.int IntKind.u64 x3, Value.int IntKind.u64 x4, Value.int IntKind.u64 x5, Value.int IntKind.u64 x6, Value.int IntKind.u64 x7] 127)).alloc (Obj.cells #[Value.int IntKind.u64 y0, Value.int IntKind.u64 y1, Value.int IntKind.u64 y2, Value.int IntKind.u64 y3, Value.int IntKind.u64 y4, Value.int IntKind.u64 y5, Value.int IntKind.u64 y6, Value.int IntKind.u64 y7] 127)).alloc (Obj.cells #[Value.int IntKind.u64 0, Value.int IntKind.u64 0, Value.int IntKind.u64 0, Value.int IntKind.u64 0, Value.int IntKind.u64 0, Value.int IntKind.u64 0, Value.int IntKind.u64 0, Value.int IntKind.u64 0] 127) = W at *
 go_region_with ((go_at_call 98; refine (takeWords_any w.heap.size (w.heap.size + 1) 0 0 8 8 8 8 [x0, x1, x2, x3, x4, x5, x6, x7] [y0, y1, y2, y3, y4, y5, y6, y7] _ rfl rfl wx wy (row_drew rx) (row_drew ry) (by omega) (by omega)).mono ?_; rintro e w1 ⟨zs, c, rfl, h1, h2, h3, h4, h5, h6, h7⟩))
 obtain ⟨z0, z1, z2, z3, z4, z5, z6, z7, rfl⟩ := list8 h1
 have HP : Hid (MinusP [x0, x1, x2, x3, x4, x5, x6, x7] [y0, y1, y2, y3, y4, y5, y6, y7] w (.returned (.agg #[.int .u64 z0, .int .u64 z1, .int .u64 z2, .int .u64 z3, .int .u64 z4, .int .u64 z5, .int .u64 z6, .int .u64 z7])) w1) := ⟨[z0, z1, z2, z3, z4, z5, z6, z7], c, rfl, rfl, h2, h3, h4, h5, (hB.drew).trans (h7.below (Nat.le_refl _))⟩
 obtain ⟨c0, c1, c2, c3, c4, c5, c6, c7⟩ := row_cells8 h6
 have rr1 := row_other rr.drewd h7 (by omega)
 obtain ⟨g0, g1, g2, g3, g4, g5, g6, g7⟩ := row_cells8 rr1
 obtain ⟨f0, f1, f2, f3, f4, f5, f6, f7⟩ := row_frz8 rr1
 have hne : w.heap.size + 1 + 1 ≠ w.heap.size := by omega
 clear rx ry rr hB h2 h3 h4 h5 h6 h7 h1 rr1
 go_wp2
 refine bodyPost_ret (v := .agg #[.int .u64 z0, .int .u64 z1, .int .u64 z2, .int .u64 z3, .int .u64 z4, .int .u64 z5, .int .u64 z6, .int .u64 z7]) (by simp [results, Tryd.results96, go_sem, g0, g1, g2, g3, g4, g5, g6, g7]) rfl ?_
 exact minus8_ret HP.out
def BoolP (b : Bool) (w : World) (e : Ending) (w' : World) : Prop := e = .returned (.bool b) ∧ Below w.heap.size w w'
open Go.RowKit Go.Shelf
theorem mulLays : Lays.n264 Tryd.prog ⟨fun _ => 93, fun n => if n = 46 then 85 else 84, fun _ => 0⟩ where
 mixed := by kernel_rfl
 f264 := by kernel_rfl
 t46 := by kernel_rfl
 a46 := fun w => by kernel_rfl
 z46 := fun w => by kernel_rfl
 v46 := fun w => by kernel_rfl
 t53 := by kernel_rfl
 a53 := fun w => by kernel_rfl
 z53 := fun w => by kernel_rfl
 v53 := fun w => by kernel_rfl
def MulP (x y : Int) (w : World) (e : Ending) (w' : World) : Prop := e = .returned (.tuple #[.int .u64 (x * y / 18446744073709551616), .int .u64 (x * y % 18446744073709551616)]) ∧ w' = w
theorem mul64 (x y : Int) (hx : Word x) (hy : Word y) (w : World) : Calls Tryd.prog 93 #[.int .u64 x, .int .u64 y] w (MulP x y w) := by
 obtain ⟨hx0, hx1⟩ := hx
 obtain ⟨hy0, hy1⟩ := hy
 obtain ⟨x, rfl⟩ := Int.eq_ofNat_of_zero_le hx0
 obtain ⟨y, rfl⟩ := Int.eq_ofNat_of_zero_le hy0
 refine (Any.bits_Mul64 mulLays x y (by omega) (by omega) w).mono ?_
 rintro e w' ⟨rfl, rfl⟩
 exact ⟨by simp, rfl⟩
abbrev L8 (x0 x1 x2 x3 x4 x5 x6 x7 : Int) : Value := .agg #[.int .u64 x0, .int .u64 x1, .int .u64 x2, .int .u64 x3, .int .u64 x4, .int .u64 x5, .int .u64 x6, .int .u64 x7]
def LongP (x0 x1 x2 x3 x4 x5 x6 x7 : Int) (w : World) (e : Ending) (w' : World) : Prop := e = .returned (L8 x0 x1 x2 x3 x4 x5 x6 x7) ∧ Below w.heap.size w w'
def fillW (a3 : Int) : Int := if a3 < 9223372036854775808 then 0 else 18446744073709551615
set_option maxRecDepth 100000 in
set_option maxHeartbeats 400000 in
theorem longOf_any (a3 a2 a1 a0 : Int) (h3 : Word a3) (w : World) :
   Calls Tryd.prog 95 #[.agg #[.int .u64 a3, .int .u64 a2, .int .u64 a1, .int .u64 a0]] w (LongP a0 a1 a2 a3 (fillW a3) (fillW a3) (fillW a3) (fillW a3) w) := by
 obtain ⟨f, hf⟩ : ∃ f, fillW a3 = f := ⟨_, rfl⟩
 have hd : IntKind.u64.wrap (wrap64 a3 / 9223372036854775808) = f := by
   unfold Word at h3
   rw [← hf, IntKind.wrap_u64]
   unfold fillW wrap64
   split <;> omega
 rw [hf]
 go_enter Tryd.func95, Tryd.ntmps95
 go_wp2
 refine bodyPost_ret (v := L8 a0 a1 a2 a3 f f f f) (by simp [results, Tryd.results95, go_sem]) rfl ?_
 exact ⟨rfl, ((Below.refl _ _).alloc (Nat.le_refl _) _).alloc (by simp) _⟩
def sl (x0 x1 x2 x3 x4 x5 x6 x7 : Int) : Int := val64 [x0, x1, x2, x3, x4, x5, x6, x7] - (if x7 < 9223372036854775808 then 0 else 13407807929942597099574024998205846127479365820592393377723561443721764030073546976801874298166903427690031858186486050853753882811946569946433649006084096)
def SignP (x0 x1 x2 x3 x4 x5 x6 x7 : Int) (b : Bool) (w : World) (e : Ending) (w' : World) : Prop :=
 ∃ z0 z1 z2 z3 z4 z5 z6 z7, e = .returned (L8 z0 z1 z2 z3 z4 z5 z6 z7) ∧ Words [z0, z1, z2, z3, z4, z5, z6, z7] ∧ (∃ c, 0 ≤ c ∧ c ≤ 1 ∧ val64 [z0, z1, z2, z3, z4, z5, z6, z7] = if b then 0 - val64 [x0, x1, x2, x3, x4, x5, x6, x7] + c * 13407807929942597099574024998205846127479365820592393377723561443721764030073546976801874298166903427690031858186486050853753882811946569946433649006084096 else val64 [x0, x1, x2, x3, x4, x5, x6, x7]) ∧ Below w.heap.size w w'
theorem pw64_8 : pw64 8 = 13407807929942597099574024998205846127479365820592393377723561443721764030073546976801874298166903427690031858186486050853753882811946569946433649006084096 := by decide
set_option maxRecDepth 100000 in
set_option maxHeartbeats 1000000 in
theorem signed_any (x0 x1 x2 x3 x4 x5 x6 x7 : Int) (b : Bool) (wx : Words [x0, x1, x2, x3, x4, x5, x6, x7]) (w : World) :
   Calls Tryd.prog 87 #[L8 x0 x1 x2 x3 x4 x5 x6 x7, .bool b] w (SignP x0 x1 x2 x3 x4 x5 x6 x7 b w) := by
 have B0 := (Blk.new w [.int .u64 x0, .int .u64 x1, .int .u64 x2, .int .u64 x3, .int .u64 x4, .int .u64 x5, .int .u64 x6, .int .u64 x7] 127 rfl).alloc (.cells #[.int .u64 0, .int .u64 0, .int .u64 0, .int .u64 0, .int .u64 0, .int .u64 0, .int .u64 0, .int .u64 0] 127)
 have B1 := Blk.new (w.alloc (.cells #[.int .u64 x0, .int .u64 x1, .int .u64 x2, .int .u64 x3, .int .u64 x4, .int .u64 x5, .int .u64 x6, .int .u64 x7] 127)) [.int .u64 0, .int .u64 0, .int .u64 0, .int .u64 0, .int .u64 0, .int .u64 0, .int .u64 0, .int .u64 0] 127 (g := w.heap.size + 1) (by simp)
 have HB0 := ((Below.refl _ w).alloc (Nat.le_refl _) (.cells #[.int .u64 x0, .int .u64 x1, .int .u64 x2, .int .u64 x3, .int .u64 x4, .int .u64 x5, .int .u64 x6, .int .u64 x7] 127)).alloc (by simp) (.cells #[.int .u64 0, .int .u64 0, .int .u64 0, .int .u64 0, .int .u64 0, .int .u64 0, .int .u64 0, .int .u64 0] 127)
 have w0 : Words [0, 0, 0, 0, 0, 0, 0, 0] := by
   intro d hd
   simp at hd
   subst hd
   exact ⟨by decide, by decide⟩
 cases b
 · go_enter Tryd.func87, Tryd.ntmps87
   go_wp2
   refine bodyPost_ret (v := L8 x0 x1 x2 x3 x4 x5 x6 x7) (by simp [results, Tryd.results87, go_sem]) rfl ?_
   exact ⟨x0, x1, x2, x3, x4, x5, x6, x7, rfl, wx, ⟨0, by decide, by decide, by simp⟩, ((Below.refl _ _).alloc (Nat.le_refl _) _).alloc (by simp) _⟩
 · go_enter Tryd.func87, Tryd.ntmps87
   go_wp2_with fail
   refine (minus8 0 0 0 0 0 0 0 0 x0 x1 x2 x3 x4 x5 x6 x7 w0 wx _).mono ?_
   rintro e w1 ⟨zs, c, rfl, h1, h2, h3, h4, h5, hB⟩
   obtain ⟨z0, z1, z2, z3, z4, z5, z6, z7, rfl⟩ := list8 h1
   replace B1 := B1.step hB
   have HB : Below w.heap.size w w1 := HB0.trans (hB.mono HB0.size)
   have HV : val64 [z0, z1, z2, z3, z4, z5, z6, z7] = 0 - val64 [x0, x1, x2, x3, x4, x5, x6, x7] + c * 13407807929942597099574024998205846127479365820592393377723561443721764030073546976801874298166903427690031858186486050853753882811946569946433649006084096 := by
     rw [h5, show ([0, 0, 0, 0, 0, 0, 0, 0] : List Int).length = 8 from rfl, pw64_8]
     simp [val64]
   have c0 := B1.c 0 rfl; have f0 := B1.f 0 rfl; have c1 := B1.c 1 rfl; have f1 := B1.f 1 rfl; have c2 := B1.c 2 rfl; have f2 := B1.f 2 rfl; have c3 := B1.c 3 rfl; have f3 := B1.f 3 rfl; have c4 := B1.c 4 rfl; have f4 := B1.f 4 rfl; have c5 := B1.c 5 rfl; have f5 := B1.f 5 rfl; have c6 := B1.c 6 rfl; have f6 := B1.f 6 rfl; have c7 := B1.c 7 rfl; have f7 := B1.f 7 rfl
   have lt := B1.lt
   clear hB h5 h1 HB0 B0
   go_wp2
   refine bodyPost_ret (v := L8 z0 z1 z2 z3 z4 z5 z6 z7) (by simp [results, Tryd.results87, go_sem, c0, c1, c2, c3, c4, c5, c6, c7]) rfl ?_
   refine ⟨z0, z1, z2, z3, z4, z5, z6, z7, rfl, h2, ⟨c, h3, h4, by rw [if_pos rfl]; exact HV⟩, ?_⟩
   repeat' (refine Below.setCell ?_ (by simp) _)
   exact HB
theorem mul64d (x y hi lo : Int) (hx : Word x) (hy : Word y) (h1 : x * y / 18446744073709551616 = hi) (h2 : x * y % 18446744073709551616 = lo) (w : World) : Calls Tryd.prog 93 #[.int .u64 x, .int .u64 y] w (fun e w' => e = .returned (.tuple #[.int .u64 hi, .int .u64 lo]) ∧ w' = w) := by
 refine (mul64 x y hx hy w).mono ?_
 rintro e w' ⟨rfl, rfl⟩
 rw [h1, h2]
 exact ⟨rfl, rfl⟩
theorem add64d (x y s c : Int) (hx : Word x) (hy : Word y) (h1 : (x + y) % 18446744073709551616 = s) (h2 : (x + y) / 18446744073709551616 = c) (w : World) : (callFunc 94 #[.int .u64 x, .int .u64 y, .int .u64 0]).run Tryd.prog w = .ok (.value (.tuple #[.int .u64 s, .int .u64 c])) w := by
 rw [add64 x y 0 hx hy (by decide) (by decide) w, Int.add_zero, h1, h2]
def put (rs : List Int) (place : Nat) (zs : List Int) : List Int := rs.take place ++ (zs ++ rs.drop (place + zs.length))
end Go.Proofs.YtjcpdihdlklapaaDoor
