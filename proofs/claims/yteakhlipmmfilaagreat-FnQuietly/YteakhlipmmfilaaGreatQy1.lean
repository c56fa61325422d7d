/- Part 1 of the walks that the proof leans on. -/
import Derived.Test.YteakhlipmmfilaaGreatRows
import Derived.WalkKit
import Derived.WalkSpells
import Derived.WalkLawsBesides
import Derived.Laws.Bits64b
import Derived.Deep.QuietTactic
import Derived.BigQuiet
import Derived.Laws.Externs
import Derived.Shelf.Spec.BitsCarry
import Derived.BigRegion
import Derived.Deep.CutBlock
import Derived.Deep.DeepCutAuto
import Derived.Deep.RegionWith
import Derived.Shelf.Bits.Mul64
import Derived.Deep.RegionHeld3
import Derived.Deep.LoopGhost
import Derived.WalkMore
namespace Go.Proofs.YteakhlipmmfilaaGreat
def val : List Int → Int
 | [] => 0
 | d :: t => d + 4294967296 * val t
def Dig (ds : List Int) : Prop := ∀ d ∈ ds, 0 ≤ d ∧ d < 4294967296
def pw : Nat → Int
 | 0 => 1
 | n + 1 => 4294967296 * pw n
theorem pw_pos (n : Nat) : 0 < pw n := by
 induction n with
 | zero => simp [pw]
 | succ n ih => simp only [pw]; omega
theorem pw_add (a b : Nat) : pw (a + b) = pw a * pw b := by
 induction a with
 | zero => simp [pw]
 | succ n ih => rw [Nat.succ_add, pw, ih, pw, Int.mul_assoc]
theorem pw_mono {a b : Nat} (h : a ≤ b) : pw a ≤ pw b := by
 obtain ⟨k, rfl⟩ := Nat.exists_eq_add_of_le h
 rw [pw_add]
 have h1 := pw_pos a
 have h2 := pw_pos k
 have : pw a * 1 ≤ pw a * pw k := Int.mul_le_mul_of_nonneg_left (by omega) (by omega)
 omega
theorem dig_nil : Dig [] := by intro d h; simp at h
theorem dig_cons {d : Int} {t : List Int} : Dig (d :: t) ↔ (0 ≤ d ∧ d < 4294967296) ∧ Dig t := by
 constructor
 · intro h; exact ⟨h d (by simp), fun x hx => h x (by simp [hx])⟩
 · rintro ⟨h1, h2⟩ x hx
   rcases List.mem_cons.1 hx with rfl | hx
   · exact h1
   · exact h2 x hx
theorem dig_append {a b : List Int} : Dig (a ++ b) ↔ Dig a ∧ Dig b := by
 constructor
 · intro h; exact ⟨fun x hx => h x (by simp [hx]), fun x hx => h x (by simp [hx])⟩
 · rintro ⟨h1, h2⟩ x hx
   rcases List.mem_append.1 hx with hx | hx
   · exact h1 x hx
   · exact h2 x hx
theorem dig_take {a : List Int} (h : Dig a) (n : Nat) : Dig (a.take n) := fun x hx => h x (List.mem_of_mem_take hx)
theorem dig_drop {a : List Int} (h : Dig a) (n : Nat) : Dig (a.drop n) := fun x hx => h x (List.mem_of_mem_drop hx)
theorem dig_at {a : List Int} (h : Dig a) (n : Nat) (hn : n < a.length) : 0 ≤ a[n] ∧ a[n] < 4294967296 := h _ (List.getElem_mem hn)
theorem val_append (a b : List Int) : val (a ++ b) = val a + pw a.length * val b := by
 induction a with
 | nil => simp [val, pw]
 | cons d t ih =>
   simp only [List.cons_append, val, List.length_cons, pw, ih, Int.mul_add, Int.mul_assoc]
   omega
theorem val_snoc (a : List Int) (d : Int) : val (a ++ [d]) = val a + pw a.length * d := by
 rw [val_append]; simp [val]
theorem val_nonneg {a : List Int} (h : Dig a) : 0 ≤ val a := by
 induction a with
 | nil => simp [val]
 | cons d t ih =>
   obtain ⟨h1, h2⟩ := dig_cons.1 h
   have := ih h2
   simp only [val]; omega
theorem val_lt {a : List Int} (h : Dig a) : val a < pw a.length := by
 induction a with
 | nil => simp [val, pw]
 | cons d t ih =>
   obtain ⟨h1, h2⟩ := dig_cons.1 h
   have := ih h2
   simp only [val, List.length_cons, pw]; omega
theorem val_zeros (n : Nat) : val (List.replicate n 0) = 0 := by
 induction n with
 | zero => rfl
 | succ n ih => simp [List.replicate_succ, val, ih]
theorem val_take_succ (a : List Int) (k : Nat) (h : k < a.length) : val (a.take (k + 1)) = val (a.take k) + pw k * a[k] := by
 rw [List.take_succ_eq_append_getElem h, val_snoc]
 simp [Nat.min_eq_left (Nat.le_of_lt h)]
theorem val_take_all (a : List Int) (k : Nat) (h : a.length ≤ k) : val (a.take k) = val a := by
 rw [List.take_of_length_le h]
def Nrm (ds : List Int) : Prop := Dig ds ∧ (ds = [] ∨ ∃ t d, ds = t ++ [d] ∧ d ≠ 0)
theorem nrm_nil : Nrm [] := ⟨dig_nil, Or.inl rfl⟩
theorem nrm_low {ds : List Int} (h : Nrm ds) (hne : ds ≠ []) : pw (ds.length - 1) ≤ val ds := by
 obtain ⟨hd, h | ⟨t, d, rfl, h⟩⟩ := h
 · exact absurd h hne
 · obtain ⟨h1, h2⟩ := dig_append.1 hd
   have h3 := (dig_cons.1 h2).1
   rw [val_snoc]
   have h4 := val_nonneg h1
   have h5 := pw_pos t.length
   have : pw t.length * 1 ≤ pw t.length * d := Int.mul_le_mul_of_nonneg_left (by omega) (by omega)
   simp only [List.length_append, List.length_cons, List.length_nil]
   simp only [Nat.zero_add, Nat.add_sub_cancel]
   omega
theorem nrm_pos {ds : List Int} (h : Nrm ds) (hne : ds ≠ []) : 0 < val ds := by
 have := nrm_low h hne
 have := pw_pos (ds.length - 1)
 omega
theorem nrm_zero {ds : List Int} (h : Nrm ds) : val ds = 0 ↔ ds = [] := by
 constructor
 · intro h0
   by_cases hne : ds = []
   · exact hne
   · have := nrm_pos h hne; omega
 · rintro rfl; rfl
theorem nrm_more {a b : List Int} (ha : Nrm a) (hb : Nrm b) (h : a.length < b.length) : val a < val b := by
 have h1 := val_lt ha.1
 have hne : b ≠ [] := by intro h'; simp [h'] at h
 have h2 := nrm_low hb hne
 have h3 := pw_mono (a := a.length) (b := b.length - 1) (by omega)
 omega
theorem val_cut (ds : List Int) (n : Nat) (h : ∀ j, n ≤ j → (hj : j < ds.length) → ds[j] = 0) : val (ds.take n) = val ds := by
 by_cases hn : ds.length ≤ n
 · rw [List.take_of_length_le hn]
 · have e : ds = ds.take n ++ ds.drop n := (List.take_append_drop n ds).symm
   have hz : ds.drop n = List.replicate (ds.length - n) 0 := by
     apply List.ext_getElem
     · simp
     · intro i h1 h2
       simp only [List.getElem_drop, List.getElem_replicate]
       exact h _ (by omega) _
   have h2 : val ds = val (ds.take n) + pw (ds.take n).length * val (ds.drop n) := by
     have := val_append (ds.take n) (ds.drop n)
     rwa [List.take_append_drop] at this
   rw [h2, hz, val_zeros, Int.mul_zero, Int.add_zero]
theorem nrm_take {ds : List Int} (hd : Dig ds) (n : Nat) (hn : n < ds.length) (h0 : ds[n] ≠ 0) : Nrm (ds.take (n + 1)) := by
 refine ⟨dig_take hd _, Or.inr ⟨ds.take n, ds[n], List.take_succ_eq_append_getElem hn, h0⟩⟩
def cmpI (x y : Int) : Int := if x < y then -1 else if y < x then 1 else 0
theorem cmpI_lt {x y : Int} (h : x < y) : cmpI x y = -1 := by simp [cmpI, h]
theorem cmpI_gt {x y : Int} (h : y < x) : cmpI x y = 1 := by unfold cmpI; rw [if_neg (by omega), if_pos h]
theorem cmpI_eq {x y : Int} (h : x = y) : cmpI x y = 0 := by subst h; simp [cmpI]
theorem val_split (a : List Int) (k : Nat) (h : k < a.length) : val a = val (a.take k) + pw k * (a[k] + 4294967296 * val (a.drop (k + 1))) := by
 have h1 := val_append (a.take k) (a.drop k)
 rw [List.take_append_drop, List.drop_eq_getElem_cons h] at h1
 simpa [val, Nat.min_eq_left (Nat.le_of_lt h)] using h1
theorem val_above {a b : List Int} (ha : Dig a) (hb : Dig b) (k : Nat) (h1 : k < a.length) (h2 : k < b.length) (he : a.drop (k + 1) = b.drop (k + 1)) (hlt : a[k] < b[k]) : val a < val b := by
 rw [val_split a k h1, val_split b k h2, he]
 have e1 := val_lt (dig_take ha k)
 have e2 := val_nonneg (dig_take hb k)
 have e3 : (a.take k).length = k := by simp; omega
 rw [e3] at e1
 have e4 := pw_pos k
 generalize pw k = p at *
 generalize 4294967296 * val (List.drop (k + 1) b) = r
 have e5 : p * (a[k] + r) + p ≤ p * (b[k] + r) := by
   have : p * (a[k] + r + 1) ≤ p * (b[k] + r) := Int.mul_le_mul_of_nonneg_left (by omega) (by omega)
   rw [Int.mul_add p (a[k] + r) 1] at this
   omega
 omega
theorem val_take_getD (a : List Int) (k : Nat) : val (a.take (k + 1)) = val (a.take k) + pw k * a.getD k 0 := by
 by_cases h : k < a.length
 · rw [val_take_succ a k h]; simp [List.getD, h]
 · rw [List.take_of_length_le (by omega), List.take_of_length_le (by omega)]; simp [List.getD, h]
theorem sub_eq (xs ys zs : List Int) (k : Nat) (hl : zs.length = k) (cv c' v : Int) (hc : cv = 0 ∨ cv = 1) (hc' : c' = 0 ∨ c' = 1)
   (eq : val zs = val (xs.take k) - val (ys.take k) + cv * pw k) (he : v = xs.getD k 0 - ys.getD k 0 - cv + c' * 4294967296) :
   val (zs ++ [v]) = val (xs.take (k + 1)) - val (ys.take (k + 1)) + c' * pw (k + 1) := by
 rw [val_snoc, hl, val_take_getD, val_take_getD, eq, he, pw]
 rcases hc with rfl | rfl <;> rcases hc' with rfl | rfl <;> simp only [Int.mul_sub, Int.mul_add, Int.mul_one, Int.mul_zero, Int.zero_mul, Int.one_mul] <;> omega
theorem sub_end (xs ys zs : List Int) (n : Nat) (hx : xs.length = n) (hz : zs.length = n) (dx : Dig xs) (dy : Dig ys) (dz : Dig zs) (hle : val ys ≤ val xs) (cv : Int) (hc : cv = 0 ∨ cv = 1)
   (eq : val zs = val (xs.take n) - val (ys.take n) + cv * pw n) : val zs = val xs - val ys := by
 rw [val_take_all xs n (by omega)] at eq
 have h1 := val_lt dx
 have h2 := val_lt dz
 rw [hx] at h1; rw [hz] at h2
 have h3 : val (ys.take n) = val ys := by
   by_cases hn : ys.length ≤ n
   · exact val_take_all ys n hn
   · have e := val_append (ys.take n) (ys.drop n)
     rw [List.take_append_drop] at e
     have e1 : (ys.take n).length = n := by simp; omega
     rw [e1] at e
     have e2 := val_nonneg (dig_take dy n)
     have e3 := val_nonneg (dig_drop dy n)
     by_cases e4 : val (ys.drop n) = 0
     · rw [e4] at e; omega
     · exfalso
       have : pw n * 1 ≤ pw n * val (ys.drop n) := Int.mul_le_mul_of_nonneg_left (by omega) (by have := pw_pos n; omega)
       omega
 rw [h3] at eq
 rcases hc with rfl | rfl
 · omega
 · omega
theorem left_eq (ds zs : List Int) (q k : Nat) (hl : zs.length = q + k) (p c x : Int) (eq : val zs + c * pw (q + k) = pw q * (p * val (ds.take k))) (hk : k < ds.length) (hx : x = c + ds[k] * p) :
   val (zs ++ [x % 4294967296]) + x / 4294967296 * pw (q + (k + 1)) = pw q * (p * val (ds.take (k + 1))) := by
 rw [val_snoc, hl, val_take_succ ds k hk, show q + (k + 1) = (q + k) + 1 by omega, pw]
 have e1 : x / 4294967296 * (4294967296 * pw (q + k)) = pw (q + k) * (4294967296 * (x / 4294967296)) := by
   rw [Int.mul_comm (pw (q + k)), Int.mul_comm 4294967296 (x / 4294967296), Int.mul_assoc]
 have e2 : pw (q + k) * (x % 4294967296) + pw (q + k) * (4294967296 * (x / 4294967296)) = pw (q + k) * x := by
   rw [← Int.mul_add, Int.emod_add_mul_ediv]
 have e3 : pw q * (p * (val (ds.take k) + pw k * ds[k])) = pw q * (p * val (ds.take k)) + pw (q + k) * (ds[k] * p) := by
   rw [pw_add, Int.mul_add, Int.mul_add, Int.mul_assoc (pw q), ← Int.mul_assoc p, Int.mul_comm p (pw k), Int.mul_assoc (pw k), Int.mul_comm p ds[k]]
 rw [e3, ← eq, e1, Int.add_assoc, e2, hx, Int.mul_add, Int.mul_comm c]
 omega
theorem left_carry (c d p : Int) (hc0 : 0 ≤ c) (hc : c < p) (hd0 : 0 ≤ d) (hd : d < 4294967296) : 0 ≤ c + d * p ∧ (c + d * p) / 4294967296 < p := by
 have h1 : 0 ≤ d * p := Int.mul_nonneg hd0 (by omega)
 have h2 : d * p ≤ 4294967295 * p := Int.mul_le_mul_of_nonneg_right (by omega) (by omega)
 exact ⟨by omega, by omega⟩
theorem pw_two (n : Nat) : pw n = ((2 ^ (32 * n) : Nat) : Int) := by
 induction n with
 | zero => simp [pw]
 | succ n ih =>
   rw [pw, ih, show 32 * (n + 1) = 32 * n + 32 by omega, Nat.pow_add]
   simp [Int.mul_comm]
def BitsOf (v : Int) (b : Nat) : Prop := 0 ≤ v ∧ v < 2 ^ b ∧ (b = 0 ∨ (2 : Int) ^ (b - 1) ≤ v)
theorem ipow2 (r : Nat) : ((2 : Int) ^ r) = (((2 : Nat) ^ r : Nat) : Int) := by simp
theorem ipow2_mono {a b : Nat} (h : a ≤ b) : (2 : Int) ^ a ≤ 2 ^ b := by
 rw [ipow2, ipow2]
 have := Nat.pow_le_pow_right (n := 2) (by omega) h
 omega
theorem bits_top (ds : List Int) (hd : Dig ds) (t : Int) (l : List Int) (hds : ds = l ++ [t]) (j : Nat) (hj : BitsOf t j) (ht : t ≠ 0) : BitsOf (val ds) (32 * l.length + j) := by
 subst hds
 obtain ⟨h1, h2⟩ := dig_append.1 hd
 have e1 := val_lt h1
 have e2 := val_nonneg h1
 obtain ⟨g0, g1, g2⟩ := hj
 have hp : (2 : Int) ^ (32 * l.length) = pw l.length := by rw [pw_two, ipow2]
 have p0 := pw_pos l.length
 have e3 : (2 : Int) ^ (32 * l.length + j) = pw l.length * 2 ^ j := by rw [Int.pow_add, hp]
 rw [val_snoc]
 refine ⟨by have := Int.mul_nonneg (Int.le_of_lt p0) g0; omega, ?_, Or.inr ?_⟩
 · rw [e3]
   have : pw l.length * (t + 1) ≤ pw l.length * 2 ^ j := Int.mul_le_mul_of_nonneg_left (by omega) (by omega)
   rw [Int.mul_add] at this
   omega
 · have hj0 : j ≠ 0 := by
     rintro rfl
     simp at g1; omega
   rcases g2 with g2 | g2
   · omega
   · rw [show 32 * l.length + j - 1 = 32 * l.length + (j - 1) by omega, Int.pow_add, hp]
     have : pw l.length * 2 ^ (j - 1) ≤ pw l.length * t := Int.mul_le_mul_of_nonneg_left g2 (by omega)
     omega
theorem bits_half {t x : Int} {j : Nat} (ht : 0 ≤ t) (hx : x = t / 2 ^ j) (hj : j = 0 ∨ (2 : Int) ^ (j - 1) ≤ t) (h0 : x = 0) : BitsOf t j := by
 refine ⟨ht, ?_, hj⟩
 have hp : (0 : Int) < 2 ^ j := Int.pow_pos (by decide)
 rw [h0] at hx
 exact Int.lt_of_not_ge (fun h => by
   have := (Int.le_ediv_iff_mul_le hp (a := 1) (b := t)).2 (by omega)
   omega)
theorem bits_half_step {t x : Int} {j : Nat} (hx : x = t / 2 ^ j) (h0 : 0 < x) : x / 2 = t / 2 ^ (j + 1) ∧ (j + 1 = 0 ∨ (2 : Int) ^ (j + 1 - 1) ≤ t) := by
 have hp : (0 : Int) < 2 ^ j := Int.pow_pos (by decide)
 constructor
 · rw [hx, Int.pow_succ, Int.ediv_ediv_of_nonneg (by omega)]
 · right
   simp only [Nat.add_sub_cancel]
   have : 1 * 2 ^ j ≤ t := (Int.le_ediv_iff_mul_le hp).1 (by omega)
   omega
open Go.RowKit
def Rd (w : World) (ao : Option Addr) (ds : List Int) : Prop :=
 ∀ i, (h : i < ds.length) → ∃ b off, ao = some ⟨b, off, none⟩ ∧ b < w.heap.size ∧ w.cell? ⟨b, off + i, none⟩ = some (.int .u32 ds[i])
theorem Rd.nil (w : World) (ao : Option Addr) : Rd w ao [] := by intro i h; simp at h
theorem Rd.below {w w' : World} {ao : Option Addr} {ds : List Int} (h : Rd w ao ds) {B : Nat} (hb : Below B w w') (hB : w.heap.size ≤ B) : Rd w' ao ds := by
 intro i hi
 obtain ⟨b, off, e, hl, hc⟩ := h i hi
 refine ⟨b, off, e, Nat.lt_of_lt_of_le hl hb.size, ?_⟩
 rw [hb.cell (by show b < B; omega)]; exact hc
theorem Rd.take {w : World} {ao : Option Addr} {ds : List Int} (h : Rd w ao ds) (n : Nat) : Rd w ao (ds.take n) := by
 intro i hi
 have : i < ds.length := by simp at hi; omega
 obtain ⟨b, off, e, hl, hc⟩ := h i this
 exact ⟨b, off, e, hl, by rw [hc]; simp⟩
theorem cell_alloc {w : World} {o : Obj} {b off : Nat} {v : Value} (hb : b < w.heap.size) (h : w.cell? ⟨b, off, none⟩ = some v) : (w.alloc o).cell? ⟨b, off, none⟩ = some v := by
 rw [((Below.refl w.heap.size w).alloc (Nat.le_refl _) o).cell (p := ⟨b, off, none⟩) hb]; exact h
theorem ret_int {k : IntKind} {a b : Int} (h : b = a) : Ending.returned (.int k a) = .returned (.int k b) := by rw [h]
theorem bdrew {B : Nat} {a w : World} (h : Below B a w) (n : Nat) : Below B a (w.drewN n) := ⟨h.os, h.tape, h.output, h.size, h.block⟩
theorem one_cell (k : IntKind) (x : Int) : ∀ u ∈ [Value.int k x], u.oneCell' = true := by
 intro u hu
 simp only [List.mem_singleton] at hu
 subst hu; rfl
theorem Rd.own {w : World} {base g n cap : Nat} {e : TypeId} {zs : List Int} (h : w.ownsRow base e 1 (.slice (some ⟨g, 0, none⟩) n cap) n (zs.map (Value.int .u32))) (hl : zs.length = n) : Rd w (some ⟨g, 0, none⟩) zs := by
 intro i hi
 refine ⟨g, 0, rfl, (h.lt g rfl).2, ?_⟩
 rw [Nat.zero_add, h.cellAt i (by omega)]
 simp [hi]
theorem own_cap {w : World} {base g n cap : Nat} {e : TypeId} {xs : List Value} (h : w.ownsRow base e 1 (.slice (some ⟨g, 0, none⟩) n cap) n xs) : n ≤ cap := by
 rcases h.2 with ⟨h', _⟩ | ⟨g', cap', cur, h', _, _, hc, _⟩
 · simp at h'
 · simp only [Value.slice.injEq, Option.some.injEq, Addr.mk.injEq, and_true, true_and] at h'
   omega
theorem own_shape {w : World} {base n : Nat} {e : TypeId} {v : Value} {xs : List Value} (h : w.ownsRow base e 1 v n xs) (hne : v ≠ .slice none 0 0) : ∃ g cap, v = .slice (some ⟨g, 0, none⟩) n cap := by
 rcases h.2 with ⟨h', _⟩ | ⟨g, cap, _, h', _⟩
 · exact absurd h' hne
 · exact ⟨g, cap, h'⟩
theorem made_one (v : Value) (q : Nat) : (madeCells #[v] q).toList = List.replicate q v := by
 apply List.ext_getElem
 · simp [madeCells]
 · intro i h1 h2
   simp [madeCells, Nat.mod_one]
theorem field_d (x0 x1 : Value) (w : World) : (Instr.field 88 (.agg #[x0, x1]) 1).run Tryz.prog w = .ok x1 w := by kernel_rfl
theorem Rd.set {w : World} {ao : Option Addr} {ds : List Int} (h : Rd w ao ds) {p : Addr} {v : Value} (u : Value) (hp : w.cell? p = some v) (hv : ∀ x, v ≠ .int .u32 x) : Rd (w.setCell p u) ao ds := by
 intro i hi
 obtain ⟨b, off, e, hl, hc⟩ := h i hi
 refine ⟨b, off, e, by simpa [World.setCell] using hl, ?_⟩
 have hne : p ≠ ⟨b, off + i, none⟩ := by
   intro e'
   rw [e', hc] at hp
   exact hv _ (by simpa using hp.symm)
 exact (World.cell?_setCell_other _ _ _ _ hne).trans hc
theorem Rd.lit (w : World) {cs : Array Value} {e : TypeId} {zs : List Int} {g : Nat} (hg : g = w.heap.size) (h : cs.toList = zs.map (Value.int .u32)) (hl : zs.length ≤ maxLen) : Rd (w.alloc (.cells cs e)) (some ⟨g, 0, none⟩) zs := by
 subst hg
 have hs : cs.size = zs.length * 1 := by rw [← Array.length_toList, h]; simp
 have := World.ownsRow_lit (base := w.heap.size) (e := e) (size := 1) w cs zs.length (Nat.le_refl _) hl hs
 rw [h] at this
 exact Rd.own this rfl
theorem res2 {w w3 : World} {a b : Value} {T : TypeId} (h : Below (w.heap.size + 1) (w.alloc (.cells #[a, b] T)) w3) :
   w3.cell? ⟨w.heap.size, 0, none⟩ = some a ∧ w3.cell? ⟨w.heap.size, 1, none⟩ = some b ∧ w3.frozen? ⟨w.heap.size, 0, none⟩ = false ∧ w3.frozen? ⟨w.heap.size, 1, none⟩ = false ∧ w.heap.size < w3.heap.size ∧ Below w.heap.size w w3 := by
 refine ⟨?_, ?_, ?_, ?_, ?_, ((Below.refl _ _).alloc (Nat.le_refl _) _).trans (h.mono (Nat.le_succ _))⟩
 · rw [h.cell (p := ⟨w.heap.size, 0, none⟩) (Nat.lt_succ_self _)]; simp [go_sem]
 · rw [h.cell (p := ⟨w.heap.size, 1, none⟩) (Nat.lt_succ_self _)]; simp [go_sem]
 · rw [h.frozen (p := ⟨w.heap.size, 0, none⟩) (Nat.lt_succ_self _)]; simp [go_sem]
 · rw [h.frozen (p := ⟨w.heap.size, 1, none⟩) (Nat.lt_succ_self _)]; simp [go_sem]
 · have := h.size; simp at this; omega
theorem bcell {W w1 : World} (hb : Below W.heap.size W w1) : (∀ b o, b < W.heap.size → w1.cell? ⟨b, o, none⟩ = W.cell? ⟨b, o, none⟩) ∧ (∀ b o, b < W.heap.size → w1.frozen? ⟨b, o, none⟩ = W.frozen? ⟨b, o, none⟩) :=
 ⟨fun b o h => hb.cell (p := ⟨b, o, none⟩) h, fun b o h => hb.frozen (p := ⟨b, o, none⟩) h⟩
structure IsNum (w : World) (s : Bool) (ao : Option Addr) (n cap : Nat) (ds : List Int) (z : Int) (k : Nat) : Prop where
 neg : s = decide (z < 0)
 len : ds.length = n
 cap : n ≤ cap
 rd : Rd w ao ds
 nrm : Nrm ds
 val : val ds = (z.natAbs : Int)
 le : n ≤ k
def NumP (k : Nat) (z : Int) (w : World) (e : Ending) (w' : World) : Prop :=
 ∃ (s : Bool) (ao : Option Addr) (n cap : Nat) (ds : List Int), e = .returned (.agg #[.bool s, .slice ao n cap]) ∧ IsNum w' s ao n cap ds z k ∧ Below w.heap.size w w'
theorem num_ret {w w3 : World} {s : Bool} {ao : Option Addr} {n cap : Nat} {ds : List Int} {z : Int} {k R : Nat} {b0 : Bool} {a0 : Option Addr} {n0 c0 : Nat} (hR : w.heap.size ≤ R) (h0 : w3.cell? ⟨R, 0, none⟩ = some (.bool b0)) (h1 : w3.cell? ⟨R, 1, none⟩ = some (.slice a0 n0 c0))
   (h : IsNum w3 s ao n cap ds z k) (hb : Below w.heap.size w w3) : NumP k z w (.returned (.agg #[.bool s, .slice ao n cap])) ((w3.setCell ⟨R, 0, none⟩ (.bool s)).setCell ⟨R, 1, none⟩ (.slice ao n cap)) := by
 refine ⟨s, ao, n, cap, ds, rfl, ⟨h.neg, h.len, h.cap, ?_, h.nrm, h.val, h.le⟩, (hb.setCell hR _).setCell hR _⟩
 have h2 : (w3.setCell ⟨R, 0, none⟩ (.bool s)).cell? ⟨R, 1, none⟩ = some (.slice a0 n0 c0) := (World.cell?_setCell_other _ _ _ _ (by simp)).trans h1
 exact (h.rd.set _ h0 (by simp)).set _ h2 (by simp)
theorem num_of {w : World} {neg s : Bool} {ao : Option Addr} {n cap : Nat} {ds' : List Int} {z : Int} {k : Nat} {v : Int} (k1 : ds'.length = n) (k2 : n ≤ cap) (k3 : n ≤ k) (k4 : Nrm ds') (k5 : val ds' = v) (k6 : s = (neg && decide (v ≠ 0))) (k7 : Rd w ao ds')
   (hv : v = (z.natAbs : Int)) (hn : z ≠ 0 → neg = decide (z < 0)) : IsNum w s ao n cap ds' z k := by
 refine ⟨?_, k1, k2, k7, k4, by rw [k5, hv], k3⟩
 by_cases hz : z = 0
 · subst hz; rw [k6, hv]; simp
 · rw [k6, hn hz, hv]; simp [hz]
theorem IsNum.below {w w' : World} {s : Bool} {ao : Option Addr} {n cap : Nat} {ds : List Int} {z : Int} {k : Nat} (h : IsNum w s ao n cap ds z k) (hb : Below w.heap.size w w') : IsNum w' s ao n cap ds z k :=
 ⟨h.neg, h.len, h.cap, h.rd.below hb (Nat.le_refl _), h.nrm, h.val, h.le⟩
theorem IsNum.zero {w : World} {s : Bool} {ao : Option Addr} {n cap : Nat} {ds : List Int} {z : Int} {k : Nat} (h : IsNum w s ao n cap ds z k) : n = 0 ↔ z = 0 := by
 have h1 := nrm_zero h.nrm
 have h2 := h.val
 have h3 := h.len
 constructor
 · intro h0
   have : ds = [] := List.eq_nil_of_length_eq_zero (by omega)
   have := h1.2 this; omega
 · rintro rfl
   have : ds = [] := h1.1 (by rw [h2]; rfl)
   rw [this] at h3; simpa using h3.symm
def TrimP (neg : Bool) (n : Nat) (ds : List Int) (w : World) (e : Ending) (w' : World) : Prop :=
 ∃ (neg' : Bool) (ao' : Option Addr) (n' cap' : Nat) (ds' : List Int), e = .returned (.agg #[.bool neg', .slice ao' n' cap']) ∧
     ds'.length = n' ∧ n' ≤ cap' ∧ n' ≤ n ∧ Nrm ds' ∧ val ds' = val ds ∧ neg' = (neg && decide (val ds ≠ 0)) ∧ Rd w' ao' ds' ∧ Below w.heap.size w w'
theorem trim_some (neg : Bool) (n cap : Nat) (ds : List Int) (w w' : World) {b off : Nat} (hn : ds.length = n) (hc : n ≤ cap) (hd : Dig ds) (hr : Rd w (some ⟨b, off, none⟩) ds) (m : Nat) (hm : m < ds.length) (h0 : ds[m] ≠ 0)
   (hz : ∀ j, m + 1 ≤ j → (h : j < ds.length) → ds[j] = 0) (hb : Below w.heap.size w w') :
   TrimP neg n ds w (.returned (.agg #[.bool neg, .slice (some ⟨b, off, none⟩) (m + 1) cap])) w' := by
 have hv := val_cut ds (m + 1) hz
 have hnr := nrm_take hd m hm h0
 refine ⟨neg, _, m + 1, cap, ds.take (m + 1), rfl, by simp; omega, by omega, by omega, hnr, hv, ?_, (hr.take _).below hb (Nat.le_refl _), hb⟩
 have hne : ds.take (m + 1) ≠ [] := by intro h; have := congrArg List.length h; simp at this; subst this; simp at hm
 have := nrm_pos hnr hne
 simp; intro _; omega
theorem trim_none (neg : Bool) (n : Nat) (ds : List Int) (w w' : World) (hz : ∀ j, (h : j < ds.length) → ds[j] = 0) (hb : Below w.heap.size w w') :
   TrimP neg n ds w (.returned (.agg #[.bool false, .slice none 0 0])) w' := by
 have hv := val_cut ds 0 (fun j _ h => hz j h)
 simp [val] at hv
 exact ⟨false, none, 0, 0, [], rfl, rfl, Nat.le_refl _, Nat.zero_le _, nrm_nil, by simp [val, ← hv], by simp [← hv], Rd.nil _ _, hb⟩
set_option maxHeartbeats 400000 in
theorem trim_any (neg : Bool) (ao : Option Addr) (n cap : Nat) (ds : List Int) (w : World) (hn : ds.length = n) (hc : n ≤ cap) (hd : Dig ds) (hr : Rd w ao ds) (hm : n ≤ 1000000000) :
   Calls Tryz.prog 140 #[.bool neg, .slice ao n cap] w (TrimP neg n ds w) := by
 go_enter Tryz.func140, Tryz.ntmps140
 go_wp2
 go_loop [5] (fun i => ∃ k : Nat, k ≤ n ∧ i = .int .i64 k ∧ ∀ j, k ≤ j → (h : j < ds.length) → ds[j] = 0) (fun i => (intOf i).toNat)
 case atStart => exact ⟨n, Nat.le_refl _, rfl, fun j h1 h2 => by omega⟩
 case round =>
   obtain ⟨k, hk, rfl, hz⟩ := hrel
   have HN : Hid (ds.length = n) := hn
   have HD : Hid (Dig ds) := hd
   have HZ : Hid (∀ j, k ≤ j → (h : j < ds.length) → ds[j] = 0) := hz
   have HR : Hid (Rd w ao ds) := hr
   clear hz hr hd hn
   by_cases hk0 : 0 < k
   · obtain ⟨m, rfl⟩ : ∃ m, k = m + 1 := ⟨k - 1, by omega⟩
     have hml : m < ds.length := by have := HN.out; omega
     obtain ⟨b, off, rfl, hbl, hcell0⟩ := HR.out m hml
     have hcell := cell_alloc (o := Obj.cells #[Value.bool false, Value.slice none 0 0] 88) hbl hcell0
     clear hcell0
     go_wp2
     · go_round
       case rel =>
         have h0 : (ds[m] == 0) = true := by assumption
         exact ⟨m, by omega, by go_num, fun j h1 h2 => by
           by_cases e : j = m
           · subst e; simpa using h0
           · exact HZ.out j (by omega) h2⟩
       case measure => simp [intOf]
     · refine bodyPost_ret (v := .agg #[.bool neg, .slice (some ⟨b, off, none⟩) (m + 1) cap]) (by simp [results, Tryz.results140, go_sem]) rfl ?_
       have h0 : (ds[m] == 0) = false := by assumption
       exact trim_some neg n cap ds w _ HN.out hc HD.out HR.out m hml (by simpa using h0) HZ.out ((Below.refl _ _).alloc (Nat.le_refl _) _)
   · go_wp2
     refine bodyPost_ret (v := .agg #[.bool false, .slice none 0 0]) (by simp [results, Tryz.results140, go_sem]) rfl ?_
     exact trim_none neg n ds w _ (fun j h => HZ.out j (by omega) h) ((Below.refl _ _).alloc (Nat.le_refl _) _)
theorem Tryz.info88 : (Tryz.prog.info? 161).map (fun i => (i.zero, i.size, i.bytes)) = some (some (.int .u32 0), 1, 4) := by kernel_rfl
def DigsP (n : Nat) (z : Int) (w : World) (e : Ending) (w' : World) : Prop :=
 ∃ (ao : Option Addr) (cap : Nat) (zs : List Int), e = .returned (.slice ao n cap) ∧ zs.length = n ∧ n ≤ cap ∧ Dig zs ∧ val zs = z ∧ Rd w' ao zs ∧ Below w.heap.size w w'
structure SubI (w wr : World) (n : Nat) (xs ys : List Int) (k : Nat) (cv : Int) (zs : List Int) : Prop where
 len : zs.length = k
 dig : Dig zs
 eq : val zs = val (xs.take k) - val (ys.take k) + cv * pw k
 own : wr.ownsRow w.heap.size 161 1 (.slice (some ⟨w.heap.size, 0, none⟩) k n) k (zs.map (Value.int .u32))
 below : Below w.heap.size w wr
theorem sub_step {w wr w2 : World} {n : Nat} {xs ys : List Int} {k : Nat} {cv : Int} {zs : List Int} (hI : SubI w wr n xs ys k cv zs) (hc0 : 0 ≤ cv) (hc1 : cv ≤ 1) (v c' : Int) (hc' : c' = 0 ∨ c' = 1) (h0 : 0 ≤ v) (h1 : v < 4294967296)
   (he : v = xs.getD k 0 - ys.getD k 0 - cv + c' * 4294967296) {o : Obj} (hown : w2.ownsRow w.heap.size 161 1 (.slice (some ⟨w.heap.size, 0, none⟩) (k + 1) n) (k + 1) (zs.map (Value.int .u32) ++ [.int .u32 v]))
   (hgrow : (wr.alloc o).grownBy w2 (some w.heap.size)) : SubI w w2 n xs ys (k + 1) c' (zs ++ [v]) := by
 refine ⟨by simp [hI.len], dig_append.2 ⟨hI.dig, dig_cons.2 ⟨⟨h0, h1⟩, dig_nil⟩⟩, sub_eq xs ys zs k hI.len cv c' v (by omega) hc' hI.eq he, by simpa using hown, ?_⟩
 have hs := hI.below.size
 refine (hI.below.alloc hs o).grown hgrow (by simp; omega) ?_
 intro j hj
 cases hj
 exact Nat.le_refl _
theorem sub_done {w wr : World} {n : Nat} {xs ys : List Int} {cv : Int} {zs : List Int} (hI : SubI w wr n xs ys n cv zs) (hc0 : 0 ≤ cv) (hc1 : cv ≤ 1) (hx : xs.length = n) (dx : Dig xs) (dy : Dig ys) (hle : val ys ≤ val xs) :
   DigsP n (val xs - val ys) w (.returned (.slice (some ⟨w.heap.size, 0, none⟩) n n)) wr :=
 ⟨_, n, zs, rfl, hI.len, Nat.le_refl _, hI.dig, sub_end xs ys zs n hx hI.len dx dy hI.dig hle cv (by omega) hI.eq, Rd.own hI.own hI.len, hI.below⟩
set_option maxRecDepth 100000 in
set_option maxHeartbeats 400000 in
theorem subAbs_any (ao bo : Option Addr) (n m ca cb : Nat) (xs ys : List Int) (w : World) (hx : xs.length = n) (hy : ys.length = m) (dx : Dig xs) (dy : Dig ys) (rx : Rd w ao xs) (ry : Rd w bo ys) (hm : n ≤ 1000000) (_hm' : m ≤ 1000000)
   (hle : val ys ≤ val xs) :
   Calls Tryz.prog 143 #[.slice ao n ca, .slice bo m cb] w (DigsP n (val xs - val ys) w) := by
 obtain ⟨i0, hi, hz0, hz1, hz2⟩ := info_parts Tryz.info88
 have HX : Hid (xs.length = n) := hx
 have HY : Hid (ys.length = m) := hy
 have HDX : Hid (Dig xs) := dx
 have HDY : Hid (Dig ys) := dy
 have HRX : Hid (Rd w ao xs) := rx
 have HRY : Hid (Rd w bo ys) := ry
 have HLE : Hid (val ys ≤ val xs) := hle
 clear rx ry dx dy hx hy hle
 go_enter Tryz.func143, Tryz.ntmps143
 go_wp2_with (at_make; refine wpList_make_own _ rfl _ _ 86 rfl w.heap.size 161 i0 (.int .u32 0) 1 Tryz.underlying86 hi hz0 hz1 _ _ _ n rfl rfl rfl (by rw [hz2]; omega) (by unfold maxLen; omega) (Nat.le_refl _) ?_)
 intro w1 hown hgrow
 go_wp2
 go_loopw [5, 6, 7] (fun o c i wr => ∃ (k : Nat) (cv : Int) (zs : List Int), k ≤ n ∧ i = .int .i64 k ∧ 0 ≤ cv ∧ cv ≤ 1 ∧ c = .int .u64 cv ∧ o = .slice (some ⟨w.heap.size, 0, none⟩) k n ∧ SubI w wr n xs ys k cv zs) (fun _ _ i _ => n - (intOf i).toNat)
 case atStart => exact ⟨0, 0, [], Nat.zero_le _, rfl, by decide, by decide, rfl, rfl, ⟨rfl, dig_nil, by simp [val], hown, (Below.refl _ _).grown hgrow (Nat.le_refl _) (by simp)⟩⟩
 case round =>
   obtain ⟨k, cv, zs, hk, rfl, hc0, hc1, rfl, rfl, hI⟩ := hrel
   by_cases hkn : k < n
   · have hkx : k < xs.length := by have := HX.out; omega
     obtain ⟨b, off, rfl, hbl, hcx0⟩ := HRX.out k hkx
     have hcx := (hI.below.cell (p := ⟨b, off + k, none⟩) hbl).trans hcx0
     clear hcx0
     have hxd := dig_at HDX.out k hkx
     obtain ⟨hx0, hx1⟩ := hxd
     by_cases hkm : k < m
     · have hky : k < ys.length := by have := HY.out; omega
       obtain ⟨b', off', rfl, hbl', hcy0⟩ := HRY.out k hky
       have hcy := (hI.below.cell (p := ⟨b', off' + k, none⟩) hbl').trans hcy0
       clear hcy0
       obtain ⟨hy0, hy1⟩ := dig_at HDY.out k hky
       by_cases hlt : xs[k] < cv + ys[k]
       · go_wp2_with (at_builtin; refine wpList_append_fits _ rfl _ _ 86 rfl w.heap.size 161 i0 1 Tryz.underlying86 hi hz1 w.heap.size k n _ rfl (hI.own.alloc _) ⟨wr.heap.size, 0, none⟩ 1 1 [.int .u32 (xs[k] + 4294967296 - (cv + ys[k]))] rfl rfl (cell_one_new _ _ _) (one_cell _ _) (by omega) ?_)
         intro w2 hown2 hgrow2
         go_wp2
         go_roundw
         case rel => exact ⟨k + 1, 1, zs ++ [xs[k] + 4294967296 - (cv + ys[k])], by omega, by go_num, by decide, by decide, rfl, rfl, sub_step hI hc0 hc1 _ 1 (by decide) (by omega) (by omega) (by simp [List.getD, hkx, hky] <;> omega) hown2 hgrow2⟩
         case measure => simp [intOf]; omega
       · go_wp2_with (at_builtin; refine wpList_append_fits _ rfl _ _ 86 rfl w.heap.size 161 i0 1 Tryz.underlying86 hi hz1 w.heap.size k n _ rfl (hI.own.alloc _) ⟨wr.heap.size, 0, none⟩ 1 1 [.int .u32 (xs[k] - (cv + ys[k]))] rfl rfl (cell_one_new _ _ _) (one_cell _ _) (by omega) ?_)
         intro w2 hown2 hgrow2
         go_wp2
         go_roundw
         case rel => exact ⟨k + 1, 0, zs ++ [xs[k] - (cv + ys[k])], by omega, by go_num, by decide, by decide, rfl, rfl, sub_step hI hc0 hc1 _ 0 (by decide) (by omega) (by omega) (by simp [List.getD, hkx, hky] <;> omega) hown2 hgrow2⟩
         case measure => simp [intOf]; omega
     · by_cases hlt : xs[k] < cv
       · go_wp2_with (at_builtin; refine wpList_append_fits _ rfl _ _ 86 rfl w.heap.size 161 i0 1 Tryz.underlying86 hi hz1 w.heap.size k n _ rfl (hI.own.alloc _) ⟨wr.heap.size, 0, none⟩ 1 1 [.int .u32 (xs[k] + 4294967296 - cv)] rfl rfl (cell_one_new _ _ _) (one_cell _ _) (by omega) ?_)
         intro w2 hown2 hgrow2
         go_wp2
         go_roundw
         case rel => exact ⟨k + 1, 1, zs ++ [xs[k] + 4294967296 - cv], by omega, by go_num, by decide, by decide, rfl, rfl, sub_step hI hc0 hc1 _ 1 (by decide) (by omega) (by omega) (by have := HY.out; simp [List.getD, hkx, show ¬ k < ys.length by omega] <;> omega) hown2 hgrow2⟩
         case measure => simp [intOf]; omega
       · go_wp2_with (at_builtin; refine wpList_append_fits _ rfl _ _ 86 rfl w.heap.size 161 i0 1 Tryz.underlying86 hi hz1 w.heap.size k n _ rfl (hI.own.alloc _) ⟨wr.heap.size, 0, none⟩ 1 1 [.int .u32 (xs[k] - cv)] rfl rfl (cell_one_new _ _ _) (one_cell _ _) (by omega) ?_)
         intro w2 hown2 hgrow2
         go_wp2
         go_roundw
         case rel => exact ⟨k + 1, 0, zs ++ [xs[k] - cv], by omega, by go_num, by decide, by decide, rfl, rfl, sub_step hI hc0 hc1 _ 0 (by decide) (by omega) (by omega) (by have := HY.out; simp [List.getD, hkx, show ¬ k < ys.length by omega] <;> omega) hown2 hgrow2⟩
         case measure => simp [intOf]; omega
   · go_wp2
     go_ret
     obtain rfl : k = n := by omega
     exact sub_done hI hc0 hc1 HX.out HDX.out HDY.out HLE.out
theorem pow_le_32 (r : Nat) (hr : r ≤ 32) : (2 : Nat) ^ r ≤ 4294967296 := by
 have := Nat.pow_le_pow_right (n := 2) (by omega) hr
 simpa using this
theorem ipow (r : Nat) : ((2 : Int) ^ r) = (((2 : Nat) ^ r : Nat) : Int) := by simp
theorem shl_bound (d : Nat) (r : Nat) (hr : r ≤ 32) (hd : d < 4294967296) : d * 2 ^ r ≤ 4294967295 * 2 ^ r ∧ d * 2 ^ r < 18446744073709551616 := by
 have h1 := pow_le_32 r hr
 have h2 : d * 2 ^ r ≤ 4294967295 * 2 ^ r := Nat.mul_le_mul_right _ (by omega)
 exact ⟨h2, by omega⟩
theorem or_shl (c d : Int) (r : Nat) (hr : r ≤ 32) (hc0 : 0 ≤ c) (hc : c < 2 ^ r) (hd0 : 0 ≤ d) (hd : d < 4294967296) :
   bits .or .u64 c (IntKind.u64.wrap (d * 2 ^ r)) = c + d * 2 ^ r := by
 obtain ⟨c, rfl⟩ := Int.eq_ofNat_of_zero_le hc0
 obtain ⟨d, rfl⟩ := Int.eq_ofNat_of_zero_le hd0
 rw [ipow] at hc ⊢
 have hc' : c < 2 ^ r := by omega
 obtain ⟨h1, h2⟩ := shl_bound d r hr (by omega)
 have h3 := pow_le_32 r hr
 have e : ((d : Int) * ((2 ^ r : Nat) : Int)) = ((d * 2 ^ r : Nat) : Int) := (Int.natCast_mul _ _).symm
 rw [e, IntKind.wrap_u64, show ((d * 2 ^ r : Nat) : Int) % 18446744073709551616 = ((d * 2 ^ r : Nat) : Int) by omega, bits_or_u64_nat c (d * 2 ^ r) (by omega) h2]
 have e2 := Nat.two_pow_add_eq_or_of_lt hc' d
 rw [Nat.mul_comm] at e2
 rw [Nat.or_comm, ← e2]
 omega
structure LeftI (w wr : World) (ds : List Int) (q : Nat) (p : Int) (k : Nat) (c : Int) (g cp : Nat) (zs : List Int) : Prop where
 len : zs.length = q + k
 dig : Dig zs
 eq : val zs + c * pw (q + k) = pw q * (p * val (ds.take k))
 own : wr.ownsRow w.heap.size 161 1 (.slice (some ⟨g, 0, none⟩) (q + k) cp) (q + k) (zs.map (Value.int .u32))
 below : Below w.heap.size w wr
def NrmP (k : Nat) (z : Int) (w : World) (e : Ending) (w' : World) : Prop :=
 ∃ (ao : Option Addr) (n cap : Nat) (zs : List Int), e = .returned (.slice ao n cap) ∧ zs.length = n ∧ n ≤ cap ∧ n ≤ k ∧ Nrm zs ∧ val zs = z ∧ Rd w' ao zs ∧ Below w.heap.size w w'
theorem left_start (w w1 : World) (ds : List Int) (q : Nat) (p : Int) (hown : w1.ownsRow w.heap.size 161 1 (.slice (some ⟨w.heap.size, 0, none⟩) q q) q (madeCells #[Value.int .u32 0] q).toList) (hgrow : w.grownBy w1 none) :
   LeftI w w1 ds q p 0 0 w.heap.size q (List.replicate q 0) := by
 refine ⟨by simp, fun d hd => by rw [List.eq_of_mem_replicate hd]; decide, by simp [val_zeros, val], ?_, (Below.refl _ _).grown hgrow (Nat.le_refl _) (by simp)⟩
 rw [made_one] at hown
 simpa using hown
theorem left_step {w wr w2 : World} {ds : List Int} {q : Nat} {p : Int} {k : Nat} {c : Int} {g cp : Nat} {zs : List Int} (hI : LeftI w wr ds q p k c g cp zs) (hk : k < ds.length) (x : Int) (hx : x = c + ds[k] * p) (g' cp' : Nat) {o : Obj}
   (hown : w2.ownsRow w.heap.size 161 1 (.slice (some ⟨g', 0, none⟩) (q + k + 1) cp') (q + k + 1) (zs.map (Value.int .u32) ++ [.int .u32 (x % 4294967296)])) (hgrow : (wr.alloc o).grownBy w2 (some g)) :
   LeftI w w2 ds q p (k + 1) (x / 4294967296) g' cp' (zs ++ [x % 4294967296]) := by
 refine ⟨by simp [hI.len, Nat.add_assoc], dig_append.2 ⟨hI.dig, dig_cons.2 ⟨⟨by omega, by omega⟩, dig_nil⟩⟩, left_eq ds zs q k hI.len p c x hI.eq hk hx, by simpa [Nat.add_assoc] using hown, ?_⟩
 have hs := hI.below.size
 refine (hI.below.alloc hs o).grown hgrow (by simp; omega) ?_
 intro j hj
 cases hj
 exact (hI.own.lt g rfl).1
theorem left_last {w wr w2 : World} {ds : List Int} {q : Nat} {p : Int} {k : Nat} {c : Int} {g cp : Nat} {zs : List Int} (hI : LeftI w wr ds q p k c g cp zs) (hc0 : 0 ≤ c) (hc1 : c < 4294967296) {g' cp' : Nat} {o : Obj}
   (hown : w2.ownsRow w.heap.size 161 1 (.slice (some ⟨g', 0, none⟩) (q + k + 1) cp') (q + k + 1) (zs.map (Value.int .u32) ++ [.int .u32 c])) (hgrow : (wr.alloc o).grownBy w2 (some g)) :
   (zs ++ [c]).length = q + k + 1 ∧ Dig (zs ++ [c]) ∧ val (zs ++ [c]) = val zs + c * pw (q + k) ∧ Rd w2 (some ⟨g', 0, none⟩) (zs ++ [c]) ∧ Below w.heap.size w w2 := by
 have hl : (zs ++ [c]).length = q + k + 1 := by simp [hI.len]
 refine ⟨hl, dig_append.2 ⟨hI.dig, dig_cons.2 ⟨⟨hc0, hc1⟩, dig_nil⟩⟩, by rw [val_snoc, hI.len, Int.mul_comm c], Rd.own (by simpa using hown) hl, ?_⟩
 have hs := hI.below.size
 refine (hI.below.alloc hs o).grown hgrow (by simp; omega) ?_
 intro j hj
 cases hj
 exact (hI.own.lt g rfl).1
set_option maxRecDepth 100000 in
set_option maxHeartbeats 1000000 in
theorem left_any (ao : Option Addr) (n cap : Nat) (s : Nat) (ds : List Int) (w : World) (hn : ds.length = n) (hd : Dig ds) (hr : Rd w ao ds) (hm : n ≤ 1000000) (hs : s ≤ 1000000) :
   Calls Tryz.prog 148 #[.slice ao n cap, .int .i64 s] w (NrmP (s / 32 + n + 1) (pw (s / 32) * (2 ^ (s % 32) * val ds)) w) := by
 obtain ⟨i0, hi, hz0, hz1, hz2⟩ := info_parts Tryz.info88
 have HN : Hid (ds.length = n) := hn
 have HD : Hid (Dig ds) := hd
 have HR : Hid (Rd w ao ds) := hr
 clear hn hd hr
 go_enter Tryz.func148, Tryz.ntmps148
 go_wp2_with (at_make; refine wpList_make_full _ rfl _ _ 86 rfl w.heap.size 161 i0 (.int .u32 0) 1 Tryz.underlying86 hi hz0 hz1 _ _ _ _ (s / 32) rfl rfl (by omega) (by omega) (by rw [hz2]; omega) (by unfold maxLen; omega) (Nat.le_refl _) ?_)
 intro w1 hown hgrow
 have HS := left_start w w1 ds (s / 32) (2 ^ (s % 32)) hown hgrow
 clear hown hgrow
 go_wp2
 go_loopw [5, 7, 8] (fun o c i wr => ∃ (k : Nat) (cv : Int) (zs : List Int) (g cp : Nat), k ≤ n ∧ i = .int .i64 k ∧ 0 ≤ cv ∧ cv < 2 ^ (s % 32) ∧ c = .int .u64 cv ∧ o = .slice (some ⟨g, 0, none⟩) (s / 32 + k) cp ∧ LeftI w wr ds (s / 32) (2 ^ (s % 32)) k cv g cp zs) (fun _ _ i _ => n - (intOf i).toNat)
 case atStart => exact ⟨0, 0, _, _, _, Nat.zero_le _, rfl, by decide, Int.pow_pos (by decide), rfl, rfl, HS⟩
 case round =>
   obtain ⟨k, cv, zs, g, cp, hk, rfl, hc0, hc1, rfl, rfl, hI⟩ := hrel
   clear HS
   by_cases hkn : k < n
   · have hkx : k < ds.length := by have := HN.out; omega
     obtain ⟨b, off, rfl, hbl, hcx0⟩ := HR.out k hkx
     have hcx := (hI.below.cell (p := ⟨b, off + k, none⟩) hbl).trans hcx0
     clear hcx0
     obtain ⟨hx0, hx1⟩ := dig_at HD.out k hkx
     obtain ⟨x, hx⟩ : ∃ x, x = cv + ds[k] * 2 ^ (s % 32) := ⟨_, rfl⟩
     have hor : bits .or .u64 cv (IntKind.u64.wrap (ds[k] * 2 ^ (s % 32))) = x := by rw [hx]; exact or_shl cv _ _ (by omega) hc0 hc1 hx0 hx1
     obtain ⟨hy0, hy1⟩ := left_carry cv ds[k] (2 ^ (s % 32)) hc0 hc1 hx0 hx1
     rw [← hx] at hy0 hy1
     have HX : Hid (x = cv + ds[k] * 2 ^ (s % 32)) := hx
     have HC : Hid (cv < 2 ^ (s % 32)) := hc1
     have HY : Hid (x / 4294967296 < 2 ^ (s % 32)) := hy1
     clear hx hc1 hy1
     have hlen := hI.len
     go_wp2_with (at_builtin; refine wpList_append_own _ rfl _ _ 86 rfl w.heap.size 161 i0 (.int .u32 0) 1 4 Tryz.underlying86 hi hz0 hz1 hz2 rfl (by decide) _ _ _ rfl (hI.own.alloc _) ⟨wr.heap.size, 0, none⟩ 1 1 [.int .u32 (x % 4294967296)] rfl rfl (cell_one_new _ _ _) (one_cell _ _) (by unfold maxLen; omega) (by omega) (by have := hI.below.size; simp; omega) ?_)
     intro v' w2 hown2 hgrow2 hnn
     obtain ⟨g', cp', hv⟩ := own_shape hown2 hnn
     subst hv
     have R := left_step hI hkx x HX.out g' cp' hown2 hgrow2
     clear hown2 hgrow2 hnn hI
     go_wp2
     go_roundw
     case rel => exact ⟨k + 1, x / 4294967296, _, g', cp', by omega, by go_num, by omega, HY.out, rfl, by rw [Nat.add_assoc], R⟩
     case measure => simp [intOf]; omega
   · obtain rfl : k = n := by omega
     have HEQ := hI.eq
     rw [List.take_of_length_le (by have := HN.out; omega)] at HEQ
     have hp32 : (2 : Int) ^ (s % 32) ≤ 4294967296 := by rw [ipow]; have := pow_le_32 (s % 32) (by omega); omega
     have hc2 : cv < 4294967296 := by omega
     have HQ : Hid (val zs + cv * pw (s / 32 + k) = pw (s / 32) * (2 ^ (s % 32) * val ds)) := HEQ
     clear HEQ hp32 hc1
     have hlen := hI.len
     have hle := own_cap hI.own
     by_cases hcp : 0 < cv
     · go_wp2_with (at_builtin; refine wpList_append_own _ rfl _ _ 86 rfl w.heap.size 161 i0 (.int .u32 0) 1 4 Tryz.underlying86 hi hz0 hz1 hz2 rfl (by decide) _ _ _ rfl (hI.own.alloc _) ⟨wr.heap.size, 0, none⟩ 1 1 [.int .u32 cv] rfl rfl (cell_one_new _ _ _) (one_cell _ _) (by unfold maxLen; omega) (by omega) (by have := hI.below.size; simp; omega) ?_)
       intro v' w2 hown2 hgrow2 hnn
       obtain ⟨g', cp', hv⟩ := own_shape hown2 hnn
       subst hv
       have R := left_last hI (by omega) (by omega) hown2 hgrow2
       have hle2 := own_cap hown2
       clear hown2 hgrow2 hnn hI
       go_wp2_with fail
       refine (trim_any false _ _ _ (zs ++ [cv]) _ R.1 hle2 R.2.1 R.2.2.2.1 (by omega)).mono ?_
       rintro e w3 ⟨neg', ao', n', cap', ds', rfl, h1, h2, h3, h4, h5, _, h7, h8⟩
       have HF : Hid (val ds' = pw (s / 32) * (2 ^ (s % 32) * val ds)) := by show _ = _; rw [h5, R.2.2.1, HQ.out]
       have HB := R.2.2.2.2.trans (h8.mono R.2.2.2.2.size)
       clear h5 R h8
       have hfd := field_d
       go_wp2
       go_ret
       exact ⟨_, _, _, ds', rfl, h1, h2, h3, h4, HF.out, h7, HB⟩
     · obtain rfl : cv = 0 := by omega
       have R1 := hI.dig
       have R2 := Rd.own hI.own hI.len
       have R3 := hI.below
       clear hI
       go_wp2_with fail
       refine (trim_any false _ _ _ zs _ hlen hle R1 R2 (by omega)).mono ?_
       rintro e w3 ⟨neg', ao', n', cap', ds', rfl, h1, h2, h3, h4, h5, _, h7, h8⟩
       have HF : Hid (val ds' = pw (s / 32) * (2 ^ (s % 32) * val ds)) := by show _ = _; rw [h5, ← HQ.out]; simp
       have HB := R3.trans (h8.mono R3.size)
       clear h5 R1 R2 R3 h8
       have hfd := field_d
       go_wp2
       go_ret
       exact ⟨_, _, _, ds', rfl, h1, h2, by omega, h4, HF.out, h7, HB⟩
def IntP (z : Int) (w : World) (e : Ending) (w' : World) : Prop := e = .returned (.int .i64 z) ∧ Below w.heap.size w w'
set_option maxHeartbeats 400000 in
theorem cmpAbs_ne (ao bo : Option Addr) (n m ca cb : Nat) (w : World) (_hm : n ≤ 1000000) (_hm' : m ≤ 1000000) (z : Int) (hz : (n < m ∧ z = -1) ∨ (m < n ∧ z = 1)) :
   Calls Tryz.prog 142 #[.slice ao n ca, .slice bo m cb] w (IntP z w) := by
 have hne : ((n : Int) != (m : Int)) = true := by rw [bne_iff_ne]; omega
 rcases hz with ⟨h1, rfl⟩ | ⟨h1, rfl⟩
 · go_enter Tryz.func142, Tryz.ntmps142
   go_wp2
   go_ret
   exact ⟨rfl, Below.refl _ _⟩
 · have h2 : ¬ n < m := by omega
   go_enter Tryz.func142, Tryz.ntmps142
   go_wp2
   go_ret
   exact ⟨rfl, Below.refl _ _⟩
set_option maxHeartbeats 400000 in
theorem cmpAbs_eq (ao bo : Option Addr) (n ca cb : Nat) (xs ys : List Int) (w : World) (hx : xs.length = n) (hy : ys.length = n) (dx : Dig xs) (dy : Dig ys) (rx : Rd w ao xs) (ry : Rd w bo ys) (hm : n ≤ 1000000) :
   Calls Tryz.prog 142 #[.slice ao n ca, .slice bo n cb] w (IntP (cmpI (val xs) (val ys)) w) := by
 go_enter Tryz.func142, Tryz.ntmps142
 go_wp2
 go_loopw [5] (fun i wr => ∃ k : Nat, k ≤ n ∧ i = .int .i64 ((k : Int) - 1) ∧ xs.drop k = ys.drop k ∧ Below w.heap.size w wr) (fun i _ => (intOf i + 1).toNat)
 case atStart => exact ⟨n, Nat.le_refl _, rfl, by rw [List.drop_of_length_le (by omega), List.drop_of_length_le (by omega)], Below.refl _ _⟩
 case round =>
   obtain ⟨k, hk, rfl, hz, hb⟩ := hrel
   have HX : Hid (xs.length = n) := hx
   have HY : Hid (ys.length = n) := hy
   have HDX : Hid (Dig xs) := dx
   have HDY : Hid (Dig ys) := dy
   have HZ : Hid (xs.drop k = ys.drop k) := hz
   have HRX : Hid (Rd w ao xs) := rx
   have HRY : Hid (Rd w bo ys) := ry
   clear hz rx ry dx dy hx hy
   by_cases hk0 : 0 < k
   · obtain ⟨m, rfl⟩ : ∃ m, k = m + 1 := ⟨k - 1, by omega⟩
     have hmx : m < xs.length := by have := HX.out; omega
     have hmy : m < ys.length := by have := HY.out; omega
     obtain ⟨b, off, rfl, hbl, hcx0⟩ := HRX.out m hmx
     obtain ⟨b', off', rfl, hbl', hcy0⟩ := HRY.out m hmy
     have hcx := (hb.cell (p := ⟨b, off + m, none⟩) hbl).trans hcx0
     have hcy := (hb.cell (p := ⟨b', off' + m, none⟩) hbl').trans hcy0
     clear hcx0 hcy0
     rw [show (((m + 1 : Nat) : Int) - 1) = (m : Int) by omega]
     have hmn : (m : Int) < n := by omega
     rcases Int.lt_trichotomy xs[m] ys[m] with hlt | heq | hgt
     · go_wp2
       go_quiet (fail)
       go_wp2
       go_ret
       exact ⟨ret_int (cmpI_lt (val_above HDX.out HDY.out m hmx hmy HZ.out hlt)), bdrew hb _⟩
     · have h1 : ¬ xs[m] < ys[m] := by omega
       have h2 : ¬ ys[m] < xs[m] := by omega
       have HE : Hid (xs[m] = ys[m]) := heq
       clear heq
       go_wp2
       go_quiet (fail)
       go_wp2
       go_quiet (fail)
       go_wp2
       go_roundw
       case rel => exact ⟨m, by omega, rfl, by rw [List.drop_eq_getElem_cons hmx, List.drop_eq_getElem_cons hmy, HZ.out, HE.out], bdrew hb _⟩
       case measure => simp [intOf]
     · have h1 : ¬ xs[m] < ys[m] := by omega
       go_wp2
       go_quiet (fail)
       go_wp2
       go_quiet (fail)
       go_wp2
       go_ret
       exact ⟨ret_int (cmpI_gt (val_above HDY.out HDX.out m hmy hmx HZ.out.symm hgt)), bdrew (bdrew hb _) _⟩
   · go_wp2
     go_ret
     exact ⟨ret_int (cmpI_eq (by
       have : k = 0 := by omega
       subst this
       have := HZ.out
       simp only [List.drop_zero] at this
       rw [this])), hb⟩
theorem cmpAbs_any (ao bo : Option Addr) (n m ca cb : Nat) (xs ys : List Int) (w : World) (hx : xs.length = n) (hy : ys.length = m) (dx : Nrm xs) (dy : Nrm ys) (rx : Rd w ao xs) (ry : Rd w bo ys) (hm : n ≤ 1000000) (hm' : m ≤ 1000000) :
   Calls Tryz.prog 142 #[.slice ao n ca, .slice bo m cb] w (IntP (cmpI (val xs) (val ys)) w) := by
 rcases Nat.lt_trichotomy n m with h | h | h
 · exact cmpAbs_ne ao bo n m ca cb w hm hm' _ (Or.inl ⟨h, cmpI_lt (nrm_more dx dy (by omega))⟩)
 · subst h
   exact cmpAbs_eq ao bo n ca cb xs ys w hx hy dx.1 dy.1 rx ry hm
 · exact cmpAbs_ne ao bo n m ca cb w hm hm' _ (Or.inr ⟨h, cmpI_gt (nrm_more dy dx (by omega))⟩)
def BitsP (v : Int) (w : World) (e : Ending) (w' : World) : Prop := ∃ b : Nat, e = .returned (.int .i64 b) ∧ BitsOf v b ∧ Below w.heap.size w w'
set_option maxHeartbeats 400000 in
theorem bits_any (ao : Option Addr) (n cap : Nat) (ds : List Int) (w : World) (hn : ds.length = n) (hd : Nrm ds) (hr : Rd w ao ds) (hm : n ≤ 1000000) :
   Calls Tryz.prog 154 #[.slice ao n cap] w (BitsP (val ds) w) := by
 by_cases h0 : n = 0
 · subst h0
   have : ds = [] := List.eq_nil_of_length_eq_zero hn
   subst this
   clear hn hd hr
   go_enter Tryz.func154, Tryz.ntmps154
   go_wp2
   go_ret
   exact ⟨0, rfl, ⟨by decide, by decide, Or.inl rfl⟩, Below.refl _ _⟩
 · obtain ⟨m, rfl⟩ : ∃ m, n = m + 1 := ⟨n - 1, by omega⟩
   have hml : m < ds.length := by omega
   obtain ⟨b, off, rfl, hbl, hcell⟩ := hr m hml
   obtain ⟨l, t, hds, ht⟩ : ∃ l t, ds = l ++ [t] ∧ t ≠ 0 := by
     rcases hd.2 with h | h
     · rw [h] at hn; simp at hn
     · exact h
   have hll : l.length = m := by rw [hds] at hn; simpa using hn
   have hlast : ds[m] = t := by subst hds; simp [← hll]
   rw [hlast] at hcell
   have htd : 0 ≤ t ∧ t < 4294967296 := by have := dig_at hd.1 m hml; rw [hlast] at this; exact this
   obtain ⟨ht0, ht1⟩ := htd
   have H : Hid (∀ j, BitsOf t j → BitsOf (val ds) (32 * m + j)) := fun j hj => by
     have := bits_top ds hd.1 t l hds j hj ht
     rwa [hll] at this
   clear hd hr hn hlast hds hll hml
   go_enter Tryz.func154, Tryz.ntmps154
   go_wp2
   go_loop [3, 4] (fun nn x => ∃ (j : Nat) (xv : Int), j ≤ 32 ∧ nn = .int .i64 ((m : Int) * 32 + j) ∧ x = .int .u32 xv ∧ 0 ≤ xv ∧ xv < 4294967296 ∧ xv = t / 2 ^ j ∧ (j = 0 ∨ (2 : Int) ^ (j - 1) ≤ t)) (fun _ x => (intOf x).toNat)
   case atStart => exact ⟨0, t, by omega, by simp, rfl, ht0, ht1, by simp, Or.inl rfl⟩
   case round =>
     obtain ⟨j, xv, hj, rfl, rfl, hx0, hx1, hxe, hjj⟩ := hrel
     have HX : Hid (xv = t / 2 ^ j) := hxe
     have HJ : Hid (j = 0 ∨ (2 : Int) ^ (j - 1) ≤ t) := hjj
     clear hxe hjj
     by_cases hp : 0 < xv
     · go_wp2
       go_round
       case rel =>
         obtain ⟨g1, g2⟩ := bits_half_step HX.out hp
         have g3 : j < 32 := by
           apply Nat.lt_of_not_le
           intro h
           have := ipow2_mono h
           rcases g2 with g2 | g2
           · omega
           · simp only [Nat.add_sub_cancel] at g2; omega
         exact ⟨j + 1, xv / 2, by omega, by go_num, rfl, by omega, by omega, g1, g2⟩
       case measure => simp [intOf]; omega
     · go_wp2
       go_ret
       exact ⟨32 * m + j, ret_int (by omega), H.out j (bits_half ht0 HX.out HJ.out (by omega)), Below.refl _ _⟩
set_option maxRecDepth 100000 in
set_option maxHeartbeats 400000 in
theorem int_any (n : Int) (w : World) (h0 : -9223372036854775808 ≤ n) (h1 : n ≤ 9223372036854775807) :
   Calls Tryz.prog 91 #[.int .i64 n] w (NumP 2 n w) := by
 by_cases hn : n < 0
 · obtain ⟨u, hu⟩ : ∃ u, u = -n := ⟨_, rfl⟩
   have hw : IntKind.u64.wrap (-IntKind.u64.wrap n) = u := by rw [IntKind.wrap_u64, IntKind.wrap_u64]; omega
   have HU : Hid (u = -n) := hu
   have hu0 : 0 < u := by omega
   have hu1 : u ≤ 9223372036854775808 := by omega
   clear hu
   go_enter Tryz.func91, Tryz.ntmps91
   go_wp2_with fail
   refine (trim_any true _ 2 2 [u % 4294967296, u / 4294967296] _ rfl (Nat.le_refl _) (dig_cons.2 ⟨by omega, dig_cons.2 ⟨by omega, dig_nil⟩⟩) (Rd.lit _ (by simp) rfl (by simp [maxLen])) (by omega)).mono ?_
   rintro e w3 ⟨neg', ao', n', cap', ds', rfl, k1, k2, k3, k4, k5, k6, k7, k8⟩
   obtain ⟨c0, c1, f0, f1, hz, hB⟩ := res2 (((Below.refl (w.heap.size + 1) _).alloc (by simp) _).trans (k8.mono (by simp)))
   have HN := num_of (z := n) k1 k2 k3 k4 k5 k6 k7 (by have := HU.out; simp [val]; omega) (by intro _; simp [hn])
   have HB : Hid (Below w.heap.size w w3) := hB
   clear k1 k2 k3 k4 k5 k6 k7 k8 hB
   go_wp2
   refine bodyPost_ret (v := .agg #[.bool neg', .slice ao' n' cap']) (by simp [results, Tryz.results91, go_sem, c0, c1]) rfl ?_
   exact num_ret (Nat.le_refl _) c0 c1 HN HB.out
 · go_enter Tryz.func91, Tryz.ntmps91
   go_wp2_with fail
   refine (trim_any false _ 2 2 [n % 4294967296, n / 4294967296] _ rfl (Nat.le_refl _) (dig_cons.2 ⟨by omega, dig_cons.2 ⟨by omega, dig_nil⟩⟩) (Rd.lit _ (by simp) rfl (by simp [maxLen])) (by omega)).mono ?_
   rintro e w3 ⟨neg', ao', n', cap', ds', rfl, k1, k2, k3, k4, k5, k6, k7, k8⟩
   obtain ⟨c0, c1, f0, f1, hz, hB⟩ := res2 (((Below.refl (w.heap.size + 1) _).alloc (by simp) _).trans (k8.mono (by simp)))
   have HN := num_of (z := n) k1 k2 k3 k4 k5 k6 k7 (by simp [val]; omega) (by intro _; simp [hn])
   have HB : Hid (Below w.heap.size w w3) := hB
   clear k1 k2 k3 k4 k5 k6 k7 k8 hB
   go_wp2
   refine bodyPost_ret (v := .agg #[.bool neg', .slice ao' n' cap']) (by simp [results, Tryz.results91, go_sem, c0, c1]) rfl ?_
   exact num_ret (Nat.le_refl _) c0 c1 HN HB.out
set_option maxHeartbeats 400000 in
theorem sign_any (s : Bool) (ao : Option Addr) (n cap : Nat) (ds : List Int) (z : Int) (k : Nat) (w : World) (h : IsNum w s ao n cap ds z k) :
   Calls Tryz.prog 104 #[.agg #[.bool s, .slice ao n cap]] w (IntP (cmpI z 0) w) := by
 have h1 := h.zero
 have h2 := h.neg
 by_cases hz : z = 0
 · have hn := h1.2 hz
   subst hn
   clear h1 h2 h
   go_enter Tryz.func104, Tryz.ntmps104
   go_wp2
   go_ret
   exact ⟨ret_int (cmpI_eq hz), (Below.refl _ _).alloc (Nat.le_refl _) _⟩
 · have hn : ((n : Int) == 0) = false := beq_eq_false_iff_ne.2 (by have := fun h => hz (h1.1 h); omega)
   clear h1 h
   by_cases hs : z < 0
   · have : s = true := by rw [h2]; simpa using hs
     subst this
     clear h2
     go_enter Tryz.func104, Tryz.ntmps104
     go_wp2
     go_ret
     exact ⟨ret_int (cmpI_lt hs), (Below.refl _ _).alloc (Nat.le_refl _) _⟩
   · have : s = false := by rw [h2]; simpa using hs
     subst this
     clear h2
     go_enter Tryz.func104, Tryz.ntmps104
     go_wp2
     go_ret
     exact ⟨ret_int (cmpI_gt (by omega)), (Below.refl _ _).alloc (Nat.le_refl _) _⟩
def Word (x : Int) : Prop := 0 ≤ x ∧ x < 18446744073709551616
def uw (a3 a2 a1 a0 : Int) : Int := a0 + 18446744073709551616 * (a1 + 18446744073709551616 * (a2 + 18446744073709551616 * a3))
def sw (a3 a2 a1 a0 : Int) : Int := if a3 < 9223372036854775808 then uw a3 a2 a1 a0 else uw a3 a2 a1 a0 - 115792089237316195423570985008687907853269984665640564039457584007913129639936
def told (z : Int) : Bool := decide (-57896044618658097711785492504343953926634992332820282019728792003956564819968 ≤ z ∧ z < 57896044618658097711785492504343953926634992332820282019728792003956564819968)
def eight (ds : List Int) (k : Nat) : List Value := (List.range 8).map fun i => .int .u64 (if i < k then ds.getD i 0 else 0)
def val64 : List Int → Int
 | [] => 0
 | d :: t => d + 18446744073709551616 * val64 t
theorem wrap_word {x : Int} (h0 : 0 ≤ x) (h1 : x < 18446744073709551616) : IntKind.u64.wrap x = x := by
 rw [IntKind.wrap_u64]; omega
def Blk (W : World) (g : Nat) (vs : List Value) : Prop := g < W.heap.size ∧ ∀ i v, vs[i]? = some v → W.cell? ⟨g, i, none⟩ = some v ∧ W.frozen? ⟨g, i, none⟩ = false
theorem Blk.lt {W : World} {g : Nat} {vs : List Value} (h : Blk W g vs) : g < W.heap.size := h.1
theorem Blk.c {W : World} {g : Nat} {vs : List Value} (h : Blk W g vs) (i : Nat) {v : Value} (hi : vs[i]? = some v) : W.cell? ⟨g, i, none⟩ = some v := (h.2 i v hi).1
theorem Blk.f {W : World} {g : Nat} {vs : List Value} (h : Blk W g vs) (i : Nat) {v : Value} (hi : vs[i]? = some v) : W.frozen? ⟨g, i, none⟩ = false := (h.2 i v hi).2
theorem Blk.cs2 {W : World} {g : Nat} {v0 v1 : Value} {vs : List Value} (h : Blk W g (v0 :: v1 :: vs)) : W.cell? ⟨g, 0, none⟩ = some v0 ∧ W.cell? ⟨g, 1, none⟩ = some v1 := ⟨h.c 0 rfl, h.c 1 rfl⟩
theorem Blk.cf2 {W : World} {g : Nat} {v0 v1 : Value} {vs : List Value} (h : Blk W g (v0 :: v1 :: vs)) : W.cell? ⟨g, 0, none⟩ = some v0 ∧ W.frozen? ⟨g, 0, none⟩ = false ∧ W.cell? ⟨g, 1, none⟩ = some v1 ∧ W.frozen? ⟨g, 1, none⟩ = false := ⟨h.c 0 rfl, h.f 0 rfl, h.c 1 rfl, h.f 1 rfl⟩
theorem Blk.cs4 {W : World} {g : Nat} {v0 v1 v2 v3 : Value} {vs : List Value} (h : Blk W g (v0 :: v1 :: v2 :: v3 :: vs)) : W.cell? ⟨g, 0, none⟩ = some v0 ∧ W.cell? ⟨g, 1, none⟩ = some v1 ∧ W.cell? ⟨g, 2, none⟩ = some v2 ∧ W.cell? ⟨g, 3, none⟩ = some v3 := ⟨h.c 0 rfl, h.c 1 rfl, h.c 2 rfl, h.c 3 rfl⟩
theorem Blk.cf6 {W : World} {g : Nat} {v0 v1 v2 v3 v4 v5 : Value} {vs : List Value} (h : Blk W g (v0 :: v1 :: v2 :: v3 :: v4 :: v5 :: vs)) : W.cell? ⟨g, 0, none⟩ = some v0 ∧ W.frozen? ⟨g, 0, none⟩ = false ∧ W.cell? ⟨g, 1, none⟩ = some v1 ∧ W.frozen? ⟨g, 1, none⟩ = false ∧ W.cell? ⟨g, 2, none⟩ = some v2 ∧ W.frozen? ⟨g, 2, none⟩ = false ∧ W.cell? ⟨g, 3, none⟩ = some v3 ∧ W.frozen? ⟨g, 3, none⟩ = false ∧ W.cell? ⟨g, 4, none⟩ = some v4 ∧ W.frozen? ⟨g, 4, none⟩ = false ∧ W.cell? ⟨g, 5, none⟩ = some v5 ∧ W.frozen? ⟨g, 5, none⟩ = false := ⟨h.c 0 rfl, h.f 0 rfl, h.c 1 rfl, h.f 1 rfl, h.c 2 rfl, h.f 2 rfl, h.c 3 rfl, h.f 3 rfl, h.c 4 rfl, h.f 4 rfl, h.c 5 rfl, h.f 5 rfl⟩
theorem Blk.cs12 {W : World} {g : Nat} {v0 v1 v2 v3 v4 v5 v6 v7 v8 v9 v10 v11 : Value} {vs : List Value} (h : Blk W g (v0 :: v1 :: v2 :: v3 :: v4 :: v5 :: v6 :: v7 :: v8 :: v9 :: v10 :: v11 :: vs)) : W.cell? ⟨g, 0, none⟩ = some v0 ∧ W.cell? ⟨g, 1, none⟩ = some v1 ∧ W.cell? ⟨g, 2, none⟩ = some v2 ∧ W.cell? ⟨g, 3, none⟩ = some v3 ∧ W.cell? ⟨g, 4, none⟩ = some v4 ∧ W.cell? ⟨g, 5, none⟩ = some v5 ∧ W.cell? ⟨g, 6, none⟩ = some v6 ∧ W.cell? ⟨g, 7, none⟩ = some v7 ∧ W.cell? ⟨g, 8, none⟩ = some v8 ∧ W.cell? ⟨g, 9, none⟩ = some v9 ∧ W.cell? ⟨g, 10, none⟩ = some v10 ∧ W.cell? ⟨g, 11, none⟩ = some v11 := ⟨h.c 0 rfl, h.c 1 rfl, h.c 2 rfl, h.c 3 rfl, h.c 4 rfl, h.c 5 rfl, h.c 6 rfl, h.c 7 rfl, h.c 8 rfl, h.c 9 rfl, h.c 10 rfl, h.c 11 rfl⟩
theorem Blk.cf12 {W : World} {g : Nat} {v0 v1 v2 v3 v4 v5 v6 v7 v8 v9 v10 v11 : Value} {vs : List Value} (h : Blk W g (v0 :: v1 :: v2 :: v3 :: v4 :: v5 :: v6 :: v7 :: v8 :: v9 :: v10 :: v11 :: vs)) : W.cell? ⟨g, 0, none⟩ = some v0 ∧ W.frozen? ⟨g, 0, none⟩ = false ∧ W.cell? ⟨g, 1, none⟩ = some v1 ∧ W.frozen? ⟨g, 1, none⟩ = false ∧ W.cell? ⟨g, 2, none⟩ = some v2 ∧ W.frozen? ⟨g, 2, none⟩ = false ∧ W.cell? ⟨g, 3, none⟩ = some v3 ∧ W.frozen? ⟨g, 3, none⟩ = false ∧ W.cell? ⟨g, 4, none⟩ = some v4 ∧ W.frozen? ⟨g, 4, none⟩ = false ∧ W.cell? ⟨g, 5, none⟩ = some v5 ∧ W.frozen? ⟨g, 5, none⟩ = false ∧ W.cell? ⟨g, 6, none⟩ = some v6 ∧ W.frozen? ⟨g, 6, none⟩ = false ∧ W.cell? ⟨g, 7, none⟩ = some v7 ∧ W.frozen? ⟨g, 7, none⟩ = false ∧ W.cell? ⟨g, 8, none⟩ = some v8 ∧ W.frozen? ⟨g, 8, none⟩ = false ∧ W.cell? ⟨g, 9, none⟩ = some v9 ∧ W.frozen? ⟨g, 9, none⟩ = false ∧ W.cell? ⟨g, 10, none⟩ = some v10 ∧ W.frozen? ⟨g, 10, none⟩ = false ∧ W.cell? ⟨g, 11, none⟩ = some v11 ∧ W.frozen? ⟨g, 11, none⟩ = false := ⟨h.c 0 rfl, h.f 0 rfl, h.c 1 rfl, h.f 1 rfl, h.c 2 rfl, h.f 2 rfl, h.c 3 rfl, h.f 3 rfl, h.c 4 rfl, h.f 4 rfl, h.c 5 rfl, h.f 5 rfl, h.c 6 rfl, h.f 6 rfl, h.c 7 rfl, h.f 7 rfl, h.c 8 rfl, h.f 8 rfl, h.c 9 rfl, h.f 9 rfl, h.c 10 rfl, h.f 10 rfl, h.c 11 rfl, h.f 11 rfl⟩
theorem Blk.below {W W' : World} {B g : Nat} {vs : List Value} (h : Blk W g vs) (hB : Below B W W') (hg : g < B) : Blk W' g vs :=
 ⟨Nat.lt_of_lt_of_le h.1 hB.size, fun i _ hi => ⟨(hB.cell (p := ⟨g, i, none⟩) hg).trans (h.c i hi), (hB.frozen (p := ⟨g, i, none⟩) hg).trans (h.f i hi)⟩⟩
theorem Blk.step {W W' : World} {g : Nat} {vs : List Value} (h : Blk W g vs) (hB : Below W.heap.size W W') : Blk W' g vs := h.below hB h.1
theorem Blk.alloc {W : World} {g : Nat} {vs : List Value} (h : Blk W g vs) (o : Obj) : Blk (W.alloc o) g vs := h.step ((Below.refl W.heap.size W).alloc (Nat.le_refl _) o)
theorem Blk.drew {W : World} {g : Nat} {vs : List Value} (h : Blk W g vs) : Blk W.drew g vs := h
theorem Blk.new (W : World) (vs : List Value) (t : TypeId) {g : Nat} (hg : g = W.heap.size) : Blk (W.alloc (.cells vs.toArray t)) g vs := by
 subst hg
 refine ⟨by simp, fun i v hi => ⟨?_, by simp [go_sem]⟩⟩
 simp [go_sem, hi]
theorem Blk.setO {W : World} {g : Nat} {vs : List Value} (h : Blk W g vs) {p : Addr} (hne : g ≠ p.block) (u : Value) : Blk (W.setCell p u) g vs := by
 have hh : (W.setCell p u).heap[g]? = W.heap[g]? := Below.heap_setCell _ _ _ _ hne
 refine ⟨by simpa [World.setCell] using h.1, fun i v hi => ⟨?_, ?_⟩⟩
 · have := h.c i hi
   unfold World.cell? at *
   simpa [hh] using this
 · have := h.f i hi
   unfold World.frozen? at *
   simpa [hh] using this
theorem Blk.setI {W : World} {g : Nat} {vs : List Value} (h : Blk W g vs) (j : Nat) (hj : j < vs.length) (u : Value) : Blk (W.setCell ⟨g, j, none⟩ u) g (vs.set j u) := by
 refine ⟨by simpa [World.setCell] using h.1, fun i v hi => ?_⟩
 by_cases e : i = j
 · subst e
   have hv : v = u := by simpa [hj] using hi.symm
   subst hv
   exact ⟨by simp [go_sem, h.c i (List.getElem?_eq_getElem hj)], by simp [go_sem, h.f i (List.getElem?_eq_getElem hj)]⟩
 · have hi' : vs[i]? = some v := by simpa [List.getElem?_set, Ne.symm e] using hi
   exact ⟨(World.cell?_setCell_other _ _ _ _ (by simp)).trans (h.c i hi'), by simp [go_sem, h.f i hi']⟩
def ArgsB (w W : World) (vss : List (List Value)) : Prop := Below w.heap.size w W ∧ ∀ j vs, vss[j]? = some vs → Blk W (w.heap.size + j) vs
theorem ArgsB.below {w W : World} {vss : List (List Value)} (h : ArgsB w W vss) : Below w.heap.size w W := h.1
theorem ArgsB.b {w W : World} {vss : List (List Value)} (h : ArgsB w W vss) (j : Nat) {vs : List Value} (hj : vss[j]? = some vs) : Blk W (w.heap.size + j) vs := h.2 j vs hj
theorem ArgsB.step {w W W' : World} {vss : List (List Value)} (h : ArgsB w W vss) (hB : Below W.heap.size W W') : ArgsB w W' vss := ⟨h.1.trans (hB.mono h.1.size), fun j vs hj => (h.2 j vs hj).step hB⟩
theorem ArgsB.alloc {w W : World} {vss : List (List Value)} (h : ArgsB w W vss) (o : Obj) : ArgsB w (W.alloc o) vss := h.step ((Below.refl W.heap.size W).alloc (Nat.le_refl _) o)
theorem ArgsB.drew {w W : World} {vss : List (List Value)} (h : ArgsB w W vss) : ArgsB w W.drew vss := ⟨h.1.drew, h.2⟩
theorem ArgsB.set {w W : World} {vss : List (List Value)} (h : ArgsB w W vss) {p : Addr} (hp : w.heap.size + vss.length ≤ p.block) (u : Value) : ArgsB w (W.setCell p u) vss := by
 refine ⟨h.1.setCell (by omega) u, fun j vs hj => (h.2 j vs hj).setO ?_ u⟩
 have : j < vss.length := by
   apply Decidable.byContradiction
   intro hn
   rw [List.getElem?_eq_none (by omega)] at hj
   simp at hj
 omega
def agg (xs : List Int) : Value := .agg (xs.map (Value.int .u64)).toArray
def BoolP (b : Bool) (w : World) (e : Ending) (w' : World) : Prop := e = .returned (.bool b) ∧ Below w.heap.size w w'
open Go.RowKit Go.Shelf
def sl (x0 x1 x2 x3 x4 x5 x6 x7 : Int) : Int := val64 [x0, x1, x2, x3, x4, x5, x6, x7] - (if x7 < 9223372036854775808 then 0 else 13407807929942597099574024998205846127479365820592393377723561443721764030073546976801874298166903427690031858186486050853753882811946569946433649006084096)
def put (rs : List Int) (place : Nat) (zs : List Int) : List Int := rs.take place ++ (zs ++ rs.drop (place + zs.length))
structure AddI (w wr : World) (xs ys : List Int) (k c : Nat) (cv : Int) (zs : List Int) : Prop where
 len : zs.length = k
 dig : Dig zs
 eq : val zs + cv * pw k = val (xs.take k) + val (ys.take k)
 own : wr.ownsRow w.heap.size 161 1 (.slice (some ⟨w.heap.size, 0, none⟩) k c) k (zs.map (Value.int .u32))
 below : Below w.heap.size w wr
theorem add_eq (xs ys zs : List Int) (k : Nat) (hl : zs.length = k) (cv x : Int) (eq : val zs + cv * pw k = val (xs.take k) + val (ys.take k)) (hx : x = cv + xs.getD k 0 + ys.getD k 0) :
   val (zs ++ [x % 4294967296]) + x / 4294967296 * pw (k + 1) = val (xs.take (k + 1)) + val (ys.take (k + 1)) := by
 rw [val_snoc, hl, val_take_getD, val_take_getD, pw]
 have e1 : pw k * (x % 4294967296) + x / 4294967296 * (4294967296 * pw k) = pw k * x := by
   have : x = x % 4294967296 + 4294967296 * (x / 4294967296) := by omega
   generalize x / 4294967296 = q at *
   generalize x % 4294967296 = r at *
   subst this
   grind
 have e2 : pw k * x = cv * pw k + pw k * xs.getD k 0 + pw k * ys.getD k 0 := by rw [hx]; grind
 omega
theorem add_step {w wr w2 : World} {xs ys : List Int} {k c : Nat} {cv : Int} {zs : List Int} (hI : AddI w wr xs ys k c cv zs) (x : Int) (hx : x = cv + xs.getD k 0 + ys.getD k 0) {o : Obj}
   (hown : w2.ownsRow w.heap.size 161 1 (.slice (some ⟨w.heap.size, 0, none⟩) (k + 1) c) (k + 1) (zs.map (Value.int .u32) ++ [.int .u32 (x % 4294967296)]))
   (hgrow : (wr.alloc o).grownBy w2 (some w.heap.size)) : AddI w w2 xs ys (k + 1) c (x / 4294967296) (zs ++ [x % 4294967296]) := by
 refine ⟨by simp [hI.len], dig_append.2 ⟨hI.dig, dig_cons.2 ⟨⟨by omega, by omega⟩, dig_nil⟩⟩, add_eq xs ys zs k hI.len cv x hI.eq hx, by simpa using hown, ?_⟩
 have hs := hI.below.size
 refine (hI.below.alloc hs o).grown hgrow (by simp; omega) ?_
 intro j hj
 cases hj
 exact Nat.le_refl _
def DigleP (k : Nat) (z : Int) (w : World) (e : Ending) (w' : World) : Prop :=
 ∃ (ao : Option Addr) (n cap : Nat) (zs : List Int), e = .returned (.slice ao n cap) ∧ zs.length = n ∧ n ≤ cap ∧ n ≤ k ∧ Dig zs ∧ val zs = z ∧ Rd w' ao zs ∧ Below w.heap.size w w'
theorem add_done {w wr : World} {n : Nat} {xs ys : List Int} {zs : List Int} (hI : AddI w wr xs ys n (n + 1) 0 zs) (hx : xs.length = n) (hy : ys.length ≤ n) :
   DigleP (n + 1) (val xs + val ys) w (.returned (.slice (some ⟨w.heap.size, 0, none⟩) n (n + 1))) wr := by
 refine ⟨_, n, n + 1, zs, rfl, hI.len, by omega, by omega, hI.dig, ?_, Rd.own hI.own hI.len, hI.below⟩
 have := hI.eq
 rw [val_take_all xs n (by omega), val_take_all ys n hy] at this
 simpa using this
theorem add_done1 {w wr w2 : World} {n : Nat} {xs ys : List Int} {cv : Int} {zs : List Int} (hI : AddI w wr xs ys n (n + 1) cv zs) (h0 : 0 ≤ cv) (h1 : cv < 4294967296) (hx : xs.length = n) (hy : ys.length ≤ n) {o : Obj}
   (hown : w2.ownsRow w.heap.size 161 1 (.slice (some ⟨w.heap.size, 0, none⟩) (n + 1) (n + 1)) (n + 1) (zs.map (Value.int .u32) ++ [.int .u32 cv])) (hgrow : (wr.alloc o).grownBy w2 (some w.heap.size)) :
   DigleP (n + 1) (val xs + val ys) w (.returned (.slice (some ⟨w.heap.size, 0, none⟩) (n + 1) (n + 1))) w2 := by
 have hl : (zs ++ [cv]).length = n + 1 := by simp [hI.len]
 refine ⟨_, n + 1, n + 1, zs ++ [cv], rfl, hl, Nat.le_refl _, Nat.le_refl _, dig_append.2 ⟨hI.dig, dig_cons.2 ⟨⟨h0, h1⟩, dig_nil⟩⟩, ?_, Rd.own (by simpa using hown) hl, ?_⟩
 · have := hI.eq
   rw [val_take_all xs n (by omega), val_take_all ys n hy] at this
   rw [val_snoc, hI.len, Int.mul_comm, this]
 · have hs := hI.below.size
   refine (hI.below.alloc hs o).grown hgrow (by simp; omega) ?_
   intro j hj
   cases hj
   exact Nat.le_refl _
set_option maxRecDepth 100000 in
set_option maxHeartbeats 1000000 in
theorem addAbs_ge (ao bo : Option Addr) (n m ca cb : Nat) (xs ys : List Int) (w : World) (hx : xs.length = n) (hy : ys.length = m) (dx : Dig xs) (dy : Dig ys) (rx : Rd w ao xs) (ry : Rd w bo ys) (hm : n ≤ 1000000) (hnm : m ≤ n) :
   Calls Tryz.prog 141 #[.slice ao n ca, .slice bo m cb] w (DigleP (n + 1) (val xs + val ys) w) := by
 obtain ⟨i0, hi, hz0, hz1, hz2⟩ := info_parts Tryz.info88
 have HX : Hid (xs.length = n) := hx
 have HY : Hid (ys.length = m) := hy
 have HDX : Hid (Dig xs) := dx
 have HDY : Hid (Dig ys) := dy
 have HRX : Hid (Rd w ao xs) := rx
 have HRY : Hid (Rd w bo ys) := ry
 have hnm' : ¬ n < m := by omega
 clear rx ry dx dy hx hy
 go_enter Tryz.func141, Tryz.ntmps141
 go_wp2_with (at_make; refine wpList_make_own _ rfl _ _ 86 rfl w.heap.size 161 i0 (.int .u32 0) 1 Tryz.underlying86 hi hz0 hz1 _ _ _ (n + 1) rfl rfl (by omega) (by rw [hz2]; omega) (by unfold maxLen; omega) (Nat.le_refl _) ?_)
 intro w1 hown hgrow
 have HS : AddI w w1 xs ys 0 (n + 1) 0 [] := ⟨rfl, dig_nil, by simp [val], hown, (Below.refl _ _).grown hgrow (Nat.le_refl _) (by simp)⟩
 clear hown hgrow
 go_wp2
 go_loopw [5, 6, 7] (fun o c i wr => ∃ (k : Nat) (cv : Int) (zs : List Int), k ≤ n ∧ i = .int .i64 k ∧ 0 ≤ cv ∧ cv ≤ 1 ∧ c = .int .u64 cv ∧ o = .slice (some ⟨w.heap.size, 0, none⟩) k (n + 1) ∧ AddI w wr xs ys k (n + 1) cv zs) (fun _ _ i _ => n - (intOf i).toNat)
 case atStart => exact ⟨0, 0, [], Nat.zero_le _, rfl, by decide, by decide, rfl, rfl, HS⟩
 case round =>
   obtain ⟨k, cv, zs, hk, rfl, hc0, hc1, rfl, rfl, hI⟩ := hrel
   clear HS
   by_cases hkn : k < n
   · have hkx : k < xs.length := by have := HX.out; omega
     obtain ⟨b, off, rfl, hbl, hcx0⟩ := HRX.out k hkx
     have hcx := (hI.below.cell (p := ⟨b, off + k, none⟩) hbl).trans hcx0
     clear hcx0
     obtain ⟨hx0, hx1⟩ := dig_at HDX.out k hkx
     by_cases hkm : k < m
     · have hky : k < ys.length := by have := HY.out; omega
       obtain ⟨b', off', rfl, hbl', hcy0⟩ := HRY.out k hky
       have hcy := (hI.below.cell (p := ⟨b', off' + k, none⟩) hbl').trans hcy0
       clear hcy0
       obtain ⟨hy0, hy1⟩ := dig_at HDY.out k hky
       go_wp2_with (at_builtin; refine wpList_append_fits _ rfl _ _ 86 rfl w.heap.size 161 i0 1 Tryz.underlying86 hi hz1 w.heap.size k (n + 1) _ rfl (hI.own.alloc _) ⟨wr.heap.size, 0, none⟩ 1 1 [.int .u32 ((cv + xs[k] + ys[k]) % 4294967296)] rfl rfl (cell_one_new _ _ _) (one_cell _ _) (by omega) ?_)
       intro w2 hown2 hgrow2
       go_wp2
       go_roundw
       case rel => exact ⟨k + 1, (cv + xs[k] + ys[k]) / 4294967296, _, by omega, by go_num, by omega, by omega, rfl, rfl, add_step hI _ (by simp [List.getD, hkx, hky]) hown2 hgrow2⟩
       case measure => simp [intOf]; omega
     · have hky : ¬ k < ys.length := by have := HY.out; omega
       go_wp2_with (at_builtin; refine wpList_append_fits _ rfl _ _ 86 rfl w.heap.size 161 i0 1 Tryz.underlying86 hi hz1 w.heap.size k (n + 1) _ rfl (hI.own.alloc _) ⟨wr.heap.size, 0, none⟩ 1 1 [.int .u32 ((cv + xs[k]) % 4294967296)] rfl rfl (cell_one_new _ _ _) (one_cell _ _) (by omega) ?_)
       intro w2 hown2 hgrow2
       go_wp2
       go_roundw
       case rel => exact ⟨k + 1, (cv + xs[k]) / 4294967296, _, by omega, by go_num, by omega, by omega, rfl, rfl, add_step hI _ (by simp [List.getD, hkx, hky]) hown2 hgrow2⟩
       case measure => simp [intOf]; omega
   · obtain rfl : k = n := by omega
     by_cases hcp : 0 < cv
     · obtain rfl : cv = 1 := by omega
       go_wp2_with (at_builtin; refine wpList_append_fits _ rfl _ _ 86 rfl w.heap.size 161 i0 1 Tryz.underlying86 hi hz1 w.heap.size k (k + 1) _ rfl (hI.own.alloc _) ⟨wr.heap.size, 0, none⟩ 1 1 [.int .u32 1] rfl rfl (cell_one_new _ _ _) (one_cell _ _) (by omega) ?_)
       intro w2 hown2 hgrow2
       go_wp2
       go_ret
       exact add_done1 hI (by omega) (by omega) HX.out (by have := HY.out; omega) hown2 hgrow2
     · obtain rfl : cv = 0 := by omega
       go_wp2
       go_ret
       exact add_done hI HX.out (by have := HY.out; omega)
set_option maxRecDepth 100000 in
set_option maxHeartbeats 1000000 in
theorem addAbs_lt (ao bo : Option Addr) (n m ca cb : Nat) (xs ys : List Int) (w : World) (hx : xs.length = n) (hy : ys.length = m) (dx : Dig xs) (dy : Dig ys) (rx : Rd w ao xs) (ry : Rd w bo ys) (hm : n ≤ 1000000) (hnm : m < n) :
   Calls Tryz.prog 141 #[.slice bo m cb, .slice ao n ca] w (DigleP (n + 1) (val xs + val ys) w) := by
 obtain ⟨i0, hi, hz0, hz1, hz2⟩ := info_parts Tryz.info88
 have HX : Hid (xs.length = n) := hx
 have HY : Hid (ys.length = m) := hy
 have HDX : Hid (Dig xs) := dx
 have HDY : Hid (Dig ys) := dy
 have HRX : Hid (Rd w ao xs) := rx
 have HRY : Hid (Rd w bo ys) := ry
 clear rx ry dx dy hx hy
 go_enter Tryz.func141, Tryz.ntmps141
 go_wp2_with (at_make; refine wpList_make_own _ rfl _ _ 86 rfl w.heap.size 161 i0 (.int .u32 0) 1 Tryz.underlying86 hi hz0 hz1 _ _ _ (n + 1) rfl rfl (by omega) (by rw [hz2]; omega) (by unfold maxLen; omega) (Nat.le_refl _) ?_)
 intro w1 hown hgrow
 have HS : AddI w w1 xs ys 0 (n + 1) 0 [] := ⟨rfl, dig_nil, by simp [val], hown, (Below.refl _ _).grown hgrow (Nat.le_refl _) (by simp)⟩
 clear hown hgrow
 go_wp2
 go_loopw [5, 6, 7] (fun o c i wr => ∃ (k : Nat) (cv : Int) (zs : List Int), k ≤ n ∧ i = .int .i64 k ∧ 0 ≤ cv ∧ cv ≤ 1 ∧ c = .int .u64 cv ∧ o = .slice (some ⟨w.heap.size, 0, none⟩) k (n + 1) ∧ AddI w wr xs ys k (n + 1) cv zs) (fun _ _ i _ => n - (intOf i).toNat)
 case atStart => exact ⟨0, 0, [], Nat.zero_le _, rfl, by decide, by decide, rfl, rfl, HS⟩
 case round =>
   obtain ⟨k, cv, zs, hk, rfl, hc0, hc1, rfl, rfl, hI⟩ := hrel
   clear HS
   by_cases hkn : k < n
   · have hkx : k < xs.length := by have := HX.out; omega
     obtain ⟨b, off, rfl, hbl, hcx0⟩ := HRX.out k hkx
     have hcx := (hI.below.cell (p := ⟨b, off + k, none⟩) hbl).trans hcx0
     clear hcx0
     obtain ⟨hx0, hx1⟩ := dig_at HDX.out k hkx
     by_cases hkm : k < m
     · have hky : k < ys.length := by have := HY.out; omega
       obtain ⟨b', off', rfl, hbl', hcy0⟩ := HRY.out k hky
       have hcy := (hI.below.cell (p := ⟨b', off' + k, none⟩) hbl').trans hcy0
       clear hcy0
       obtain ⟨hy0, hy1⟩ := dig_at HDY.out k hky
       go_wp2_with (at_builtin; refine wpList_append_fits _ rfl _ _ 86 rfl w.heap.size 161 i0 1 Tryz.underlying86 hi hz1 w.heap.size k (n + 1) _ rfl (hI.own.alloc _) ⟨wr.heap.size, 0, none⟩ 1 1 [.int .u32 ((cv + xs[k] + ys[k]) % 4294967296)] rfl rfl (cell_one_new _ _ _) (one_cell _ _) (by omega) ?_)
       intro w2 hown2 hgrow2
       go_wp2
       go_roundw
       case rel => exact ⟨k + 1, (cv + xs[k] + ys[k]) / 4294967296, _, by omega, by go_num, by omega, by omega, rfl, rfl, add_step hI _ (by simp [List.getD, hkx, hky]) hown2 hgrow2⟩
       case measure => simp [intOf]; omega
     · have hky : ¬ k < ys.length := by have := HY.out; omega
       go_wp2_with (at_builtin; refine wpList_append_fits _ rfl _ _ 86 rfl w.heap.size 161 i0 1 Tryz.underlying86 hi hz1 w.heap.size k (n + 1) _ rfl (hI.own.alloc _) ⟨wr.heap.size, 0, none⟩ 1 1 [.int .u32 ((cv + xs[k]) % 4294967296)] rfl rfl (cell_one_new _ _ _) (one_cell _ _) (by omega) ?_)
       intro w2 hown2 hgrow2
       go_wp2
       go_roundw
       case rel => exact ⟨k + 1, (cv + xs[k]) / 4294967296, _, by omega, by go_num, by omega, by omega, rfl, rfl, add_step hI _ (by simp [List.getD, hkx, hky]) hown2 hgrow2⟩
       case measure => simp [intOf]; omega
   · obtain rfl : k = n := by omega
     by_cases hcp : 0 < cv
     · obtain rfl : cv = 1 := by omega
       go_wp2_with (at_builtin; refine wpList_append_fits _ rfl _ _ 86 rfl w.heap.size 161 i0 1 Tryz.underlying86 hi hz1 w.heap.size k (k + 1) _ rfl (hI.own.alloc _) ⟨wr.heap.size, 0, none⟩ 1 1 [.int .u32 1] rfl rfl (cell_one_new _ _ _) (one_cell _ _) (by omega) ?_)
       intro w2 hown2 hgrow2
       go_wp2
       go_ret
       exact add_done1 hI (by omega) (by omega) HX.out (by have := HY.out; omega) hown2 hgrow2
     · obtain rfl : cv = 0 := by omega
       go_wp2
       go_ret
       exact add_done hI HX.out (by have := HY.out; omega)
theorem addAbs_any (ao bo : Option Addr) (n m ca cb k : Nat) (xs ys : List Int) (w : World) (hx : xs.length = n) (hy : ys.length = m) (dx : Dig xs) (dy : Dig ys) (rx : Rd w ao xs) (ry : Rd w bo ys) (h1 : n ≤ k) (h2 : m ≤ k) (hk : k ≤ 1000000) :
   Calls Tryz.prog 141 #[.slice ao n ca, .slice bo m cb] w (DigleP (k + 1) (val xs + val ys) w) := by
 by_cases hnm : m ≤ n
 · refine (addAbs_ge ao bo n m ca cb xs ys w hx hy dx dy rx ry (by omega) hnm).mono ?_
   rintro e w' ⟨a, l, c, zs, he, g1, g2, g3, g⟩
   exact ⟨a, l, c, zs, he, g1, g2, by omega, g⟩
 · refine (addAbs_lt bo ao m n cb ca ys xs w hy hx dy dx ry rx (by omega) (by omega)).mono ?_
   rintro e w' ⟨a, l, c, zs, he, g1, g2, g3, g4, g5, g6, g7⟩
   exact ⟨a, l, c, zs, he, g1, g2, by omega, g4, by rw [g5, Int.add_comm], g6, g7⟩
structure Two (w W : World) (A0 A1 B0 B1 : Value) : Prop where
 a0 : W.cell? ⟨w.heap.size, 0, none⟩ = some A0
 a1 : W.cell? ⟨w.heap.size, 1, none⟩ = some A1
 b0 : W.cell? ⟨w.heap.size + 1, 0, none⟩ = some B0
 b1 : W.cell? ⟨w.heap.size + 1, 1, none⟩ = some B1
 r0 : W.cell? ⟨w.heap.size + 1 + 1, 0, none⟩ = some (.bool false)
 r1 : W.cell? ⟨w.heap.size + 1 + 1, 1, none⟩ = some (.slice none 0 0)
 f0 : W.frozen? ⟨w.heap.size + 1 + 1, 0, none⟩ = false
 f1 : W.frozen? ⟨w.heap.size + 1 + 1, 1, none⟩ = false
 sz : w.heap.size + 1 + 1 < W.heap.size
 below : Below w.heap.size w W
theorem two_start (w : World) (A0 A1 B0 B1 : Value) : Two w (((w.alloc (Obj.cells #[A0, A1] 88)).alloc (Obj.cells #[B0, B1] 88)).alloc (Obj.cells #[Value.bool false, Value.slice none 0 0] 88)) A0 A1 B0 B1 :=
 ⟨by simp [go_sem], by simp [go_sem], by simp [go_sem], by simp [go_sem], by simp [go_sem], by simp [go_sem], by simp [go_sem], by simp [go_sem], by simp, (((Below.refl _ _).alloc (Nat.le_refl _) _).alloc (by simp) _).alloc (by simp; omega) _⟩
theorem Two.step {w W W' : World} {A0 A1 B0 B1 : Value} (h : Two w W A0 A1 B0 B1) (hb : Below W.heap.size W W') : Two w W' A0 A1 B0 B1 := by
 have hs := h.sz
 have hc := fun b o (hl : b < W.heap.size) => hb.cell (p := ⟨b, o, none⟩) hl
 have hf := fun b o (hl : b < W.heap.size) => hb.frozen (p := ⟨b, o, none⟩) hl
 exact ⟨(hc _ _ (by omega)).trans h.a0, (hc _ _ (by omega)).trans h.a1, (hc _ _ (by omega)).trans h.b0, (hc _ _ (by omega)).trans h.b1, (hc _ _ hs).trans h.r0, (hc _ _ hs).trans h.r1, (hf _ _ hs).trans h.f0, (hf _ _ hs).trans h.f1,
   Nat.lt_of_lt_of_le hs hb.size, h.below.trans (hb.mono h.below.size)⟩
theorem Two.drew {w W : World} {A0 A1 B0 B1 : Value} (h : Two w W A0 A1 B0 B1) : Two w W.drew A0 A1 B0 B1 := ⟨h.a0, h.a1, h.b0, h.b1, h.r0, h.r1, h.f0, h.f1, h.sz, h.below.drew⟩
theorem two_keep {w W : World} {u v : Value} (a o : Nat) {c : Value} (ha : a ≠ w.heap.size + 1 + 1) (hc : W.cell? ⟨a, o, none⟩ = some c) :
   ((W.setCell ⟨w.heap.size + 1 + 1, 0, none⟩ u).setCell ⟨w.heap.size + 1 + 1, 1, none⟩ v).cell? ⟨a, o, none⟩ = some c := by
 have hn : ∀ j, (⟨w.heap.size + 1 + 1, j, none⟩ : Addr) ≠ ⟨a, o, none⟩ := by intro j e; simp only [Addr.mk.injEq] at e; exact ha e.1.symm
 rw [World.cell?_setCell_other _ _ _ _ (hn 1), World.cell?_setCell_other _ _ _ _ (hn 0)]
 exact hc
theorem abs_add {x y : Int} (h : decide (x < 0) = decide (y < 0)) : ((x.natAbs : Int) + y.natAbs) = ((x + y).natAbs : Int) := by
 have : (x < 0) ↔ (y < 0) := by simpa using h
 omega
theorem sign_add {x y : Int} {s : Bool} (h1 : s = decide (x < 0)) (h : decide (x < 0) = decide (y < 0)) : x + y ≠ 0 → s = decide (x + y < 0) := by
 intro hz
 rw [h1]
 have : (x < 0) ↔ (y < 0) := by simpa using h
 rw [decide_eq_decide]; omega
theorem abs_sub {x y : Int} {s t : Bool} (hs : s = decide (x < 0)) (ht : t = decide (y < 0)) (hne : s ≠ t) (h : (y.natAbs : Int) ≤ x.natAbs) : ((x.natAbs : Int) - y.natAbs) = ((x + y).natAbs : Int) ∧ (x + y ≠ 0 → s = decide (x + y < 0)) := by
 have : ¬ ((x < 0) ↔ (y < 0)) := by intro h'; apply hne; rw [hs, ht, decide_eq_decide]; exact h'
 constructor
 · omega
 · intro hz; rw [hs, decide_eq_decide]; omega
theorem num_ret' {w w3 : World} {s : Bool} {ao : Option Addr} {n cap : Nat} {ds : List Int} {z : Int} {k R : Nat} {b0 : Bool} {a0 : Option Addr} {n0 c0 : Nat} (hR : w.heap.size ≤ R) (h0 : w3.cell? ⟨R, 0, none⟩ = some (.bool b0)) (h1 : w3.cell? ⟨R, 1, none⟩ = some (.slice a0 n0 c0))
   (h : IsNum w3 s ao n cap ds z k) (hb : Below w.heap.size w w3) {w4 : World} (hw : w4 = ((w3.setCell ⟨R, 0, none⟩ (.bool s)).setCell ⟨R, 1, none⟩ (.slice ao n cap)).drew ∨ w4 = (w3.setCell ⟨R, 0, none⟩ (.bool s)).setCell ⟨R, 1, none⟩ (.slice ao n cap) := by first | exact Or.inl rfl | exact Or.inr rfl) :
   NumP k z w (.returned (.agg #[.bool s, .slice ao n cap])) w4 := by
 obtain ⟨s', ao', n', cap', ds', e, hN, hB⟩ := num_ret hR h0 h1 h hb
 rcases hw with rfl | rfl
 · exact ⟨s', ao', n', cap', ds', e, ⟨hN.neg, hN.len, hN.cap, hN.rd, hN.nrm, hN.val, hN.le⟩, hB.drew⟩
 · exact ⟨s', ao', n', cap', ds', e, hN, hB⟩
def Nn (z : Int) : Prop := 0 ≤ z
def Ng (z : Int) : Prop := z < 0
set_option maxRecDepth 100000 in
set_option maxHeartbeats 1000000 in
theorem add_same (s : Bool) (ao bo : Option Addr) (n m ca cb k : Nat) (xs ys : List Int) (x y : Int) (w : World) (hx : IsNum w s ao n ca xs x k) (hy : IsNum w s bo m cb ys y k) (hk : k ≤ 1000000) :
   Calls Tryz.prog 92 #[.agg #[.bool s, .slice ao n ca], .agg #[.bool s, .slice bo m cb]] w (NumP (k + 1) (x + y) w) := by
 have hss : (s == s) = true := by simp
 have hsg : decide (x < 0) = decide (y < 0) := hx.neg.symm.trans hy.neg
 have HV : Hid (val xs + val ys = ((x + y).natAbs : Int) ∧ (x + y ≠ 0 → s = decide (x + y < 0))) := ⟨by rw [hx.val, hy.val]; exact abs_add hsg, sign_add hx.neg hsg⟩
 have HX : Hid (xs.length = n) := hx.len
 have HY : Hid (ys.length = m) := hy.len
 have hnk := hx.le
 have hmk := hy.le
 have dx := hx.nrm.1
 have dy := hy.nrm.1
 have T0 := two_start w (.bool s) (.slice ao n ca) (.bool s) (.slice bo m cb)
 have rx := hx.rd.below T0.below (Nat.le_refl _)
 have ry := hy.rd.below T0.below (Nat.le_refl _)
 clear hsg hx hy
 go_enter Tryz.func92, Tryz.ntmps92
 go_wp2
 generalize ((w.alloc (Obj.cells #[Value.bool s, Value.slice ao n ca] 88)).alloc (Obj.cells #[Value.bool s, Value.slice bo m cb] 88)).alloc (Obj.cells #[Value.bool false, Value.slice none 0 0] 88) = W at *
 go_region_held3 (fun w' => w'.cell? ⟨w.heap.size, 0, none⟩ = some (.bool s) ∧ w'.cell? ⟨w.heap.size, 1, none⟩ = some (.slice ao n ca) ∧ w'.cell? ⟨w.heap.size + 1, 1, none⟩ = some (.slice bo m cb)) (first | exact ⟨two_keep _ _ (by omega) T2.a0, two_keep _ _ (by omega) T2.a1, two_keep _ _ (by omega) T2.b1⟩ | exact ⟨T2.a0, T2.a1, T2.b1⟩ | exact ⟨T1.a0, T1.a1, T1.b1⟩ | exact ⟨T0.a0, T0.a1, T0.b1⟩)
   (first
     | (go_at_call 141; refine (addAbs_any ao bo n m ca cb k xs ys _ HX.out HY.out dx dy (by exact rx) (by exact ry) hnk hmk hk).mono ?_; rintro e w1 ⟨ao1, n1, c1, zs, rfl, p1, p2, p3, p4, p5, p6, p7⟩; have T1 := T0.drew.step p7; clear p7)
     | (go_at_call 140; refine (trim_any s _ _ _ zs _ p1 p2 p4 p6 (by omega)).mono ?_; rintro e w2 ⟨neg', ao', n', cap', ds', rfl, k1, k2, k3, k4, k5, k6, k7, k8⟩; have T2 := T1.step k8; have HN := num_of (z := x + y) (k := k + 1) k1 k2 (by omega) k4 (k5.trans p5) (k6.trans (by rw [p5])) k7 HV.out.1 HV.out.2; have c0 := T2.r0; have c1 := T2.r1; have f0 := T2.f0; have f1 := T2.f1; clear k1 k2 k3 k4 k5 k6 k7 k8))
 all_goals go_wp2
 all_goals refine bodyPost_ret (v := .agg #[.bool neg', .slice ao' n' cap']) (by simp [results, Tryz.results92, go_sem, c0, c1]) rfl ?_
 all_goals exact num_ret' (by omega) c0 c1 HN T2.below
set_option maxRecDepth 100000 in
set_option maxHeartbeats 1000000 in
theorem add_ge (s t : Bool) (hst : s ≠ t) (ao bo : Option Addr) (n m ca cb k : Nat) (xs ys : List Int) (x y : Int) (w : World) (hx : IsNum w s ao n ca xs x k) (hy : IsNum w t bo m cb ys y k) (hk : k ≤ 1000000) (hle : val ys ≤ val xs) :
   Calls Tryz.prog 92 #[.agg #[.bool s, .slice ao n ca], .agg #[.bool t, .slice bo m cb]] w (NumP (k + 1) (x + y) w) := by
 have hss : (s == t) = false := by simpa using hst
 have HV : Hid (val xs - val ys = ((x + y).natAbs : Int) ∧ (x + y ≠ 0 → s = decide (x + y < 0))) := by have := hle; rw [hx.val, hy.val] at this ⊢; exact abs_sub hx.neg hy.neg hst this
 have HX : Hid (xs.length = n) := hx.len
 have HY : Hid (ys.length = m) := hy.len
 have hnk := hx.le
 have hmk := hy.le
 have NX := hx.nrm
 have NY := hy.nrm
 have HLE : Hid (val ys ≤ val xs) := hle
 have T0 := two_start w (.bool s) (.slice ao n ca) (.bool t) (.slice bo m cb)
 have rx := hx.rd.below T0.below (Nat.le_refl _)
 have ry := hy.rd.below T0.below (Nat.le_refl _)
 have hcc : Nn (cmpI (val xs) (val ys)) := by show 0 ≤ _; unfold cmpI; split <;> (try split) <;> omega
 clear hx hy hst hle
 go_enter Tryz.func92, Tryz.ntmps92
 go_wp2_with fail
 generalize ((w.alloc (Obj.cells #[Value.bool s, Value.slice ao n ca] 88)).alloc (Obj.cells #[Value.bool t, Value.slice bo m cb] 88)).alloc (Obj.cells #[Value.bool false, Value.slice none 0 0] 88) = W0 at *
 refine (cmpAbs_any ao bo n m ca cb xs ys _ HX.out HY.out NX NY rx ry (by omega) (by omega)).mono ?_
 rintro e W ⟨rfl, hB⟩
 have T := T0.step hB
 have rx := rx.below hB (Nat.le_refl _)
 have ry := ry.below hB (Nat.le_refl _)
 generalize cmpI (val xs) (val ys) = cc at *
 have hcc : 0 ≤ cc := hcc
 clear T0 hB
 have T0 := T
 clear T
 go_wp2
 go_region_held3 (fun w' => w'.cell? ⟨w.heap.size, 0, none⟩ = some (.bool s) ∧ w'.cell? ⟨w.heap.size, 1, none⟩ = some (.slice ao n ca) ∧ w'.cell? ⟨w.heap.size + 1, 1, none⟩ = some (.slice bo m cb)) (first | exact ⟨two_keep _ _ (by omega) T2.a0, two_keep _ _ (by omega) T2.a1, two_keep _ _ (by omega) T2.b1⟩ | exact ⟨T2.a0, T2.a1, T2.b1⟩ | exact ⟨T1.a0, T1.a1, T1.b1⟩ | exact ⟨T0.a0, T0.a1, T0.b1⟩)
   (first
     | (go_at_call 143; refine (subAbs_any ao bo n m ca cb xs ys _ HX.out HY.out NX.1 NY.1 (by exact rx) (by exact ry) (by omega) (by omega) HLE.out).mono ?_; rintro e w1 ⟨ao1, c1, zs, rfl, p1, p2, p4, p5, p6, p7⟩; have T1 := T0.drew.step p7; clear p7)
     | (go_at_call 140; refine (trim_any s _ _ _ zs _ p1 p2 p4 p6 (by omega)).mono ?_; rintro e w2 ⟨neg', ao', n', cap', ds', rfl, k1, k2, k3, k4, k5, k6, k7, k8⟩; have T2 := T1.step k8; have HN := num_of (z := x + y) (k := k + 1) k1 k2 (by omega) k4 (k5.trans p5) (k6.trans (by rw [p5])) k7 HV.out.1 HV.out.2; have c0 := T2.r0; have c1 := T2.r1; have f0 := T2.f0; have f1 := T2.f1; clear k1 k2 k3 k4 k5 k6 k7 k8))
 all_goals go_wp2
 all_goals refine bodyPost_ret (v := .agg #[.bool neg', .slice ao' n' cap']) (by simp [results, Tryz.results92, go_sem, c0, c1]) rfl ?_
 all_goals exact num_ret' (by omega) c0 c1 HN T2.below
set_option maxRecDepth 100000 in
set_option maxHeartbeats 1000000 in
theorem add_lt (s t : Bool) (hst : s ≠ t) (ao bo : Option Addr) (n m ca cb k : Nat) (xs ys : List Int) (x y : Int) (w : World) (hx : IsNum w s ao n ca xs x k) (hy : IsNum w t bo m cb ys y k) (hk : k ≤ 1000000) (hle : val xs < val ys) :
   Calls Tryz.prog 92 #[.agg #[.bool s, .slice ao n ca], .agg #[.bool t, .slice bo m cb]] w (NumP (k + 1) (x + y) w) := by
 have hss : (s == t) = false := by simpa using hst
 have HV : Hid (val ys - val xs = ((x + y).natAbs : Int) ∧ (x + y ≠ 0 → t = decide (x + y < 0))) := by have := hle; rw [hx.val, hy.val] at this ⊢; have h := abs_sub hy.neg hx.neg (fun e => hst e.symm) (by omega); rw [Int.add_comm y x] at h; exact h
 have HX : Hid (xs.length = n) := hx.len
 have HY : Hid (ys.length = m) := hy.len
 have hnk := hx.le
 have hmk := hy.le
 have NX := hx.nrm
 have NY := hy.nrm
 have HLE : Hid (val xs < val ys) := hle
 have T0 := two_start w (.bool s) (.slice ao n ca) (.bool t) (.slice bo m cb)
 have rx := hx.rd.below T0.below (Nat.le_refl _)
 have ry := hy.rd.below T0.below (Nat.le_refl _)
 have hcc : Ng (cmpI (val xs) (val ys)) := by show _ < 0; rw [cmpI_lt hle]; decide
 clear hx hy hst hle
 go_enter Tryz.func92, Tryz.ntmps92
 go_wp2_with fail
 generalize ((w.alloc (Obj.cells #[Value.bool s, Value.slice ao n ca] 88)).alloc (Obj.cells #[Value.bool t, Value.slice bo m cb] 88)).alloc (Obj.cells #[Value.bool false, Value.slice none 0 0] 88) = W0 at *
 refine (cmpAbs_any ao bo n m ca cb xs ys _ HX.out HY.out NX NY rx ry (by omega) (by omega)).mono ?_
 rintro e W ⟨rfl, hB⟩
 have T := T0.step hB
 have rx := rx.below hB (Nat.le_refl _)
 have ry := ry.below hB (Nat.le_refl _)
 generalize cmpI (val xs) (val ys) = cc at *
 have hcc : ¬ 0 ≤ cc := by have : cc < 0 := hcc; omega
 clear T0 hB
 have T0 := T
 clear T
 go_wp2
 go_region_held3 (fun w' => w'.cell? ⟨w.heap.size + 1, 0, none⟩ = some (.bool t) ∧ w'.cell? ⟨w.heap.size + 1, 1, none⟩ = some (.slice bo m cb) ∧ w'.cell? ⟨w.heap.size, 1, none⟩ = some (.slice ao n ca)) (first | exact ⟨two_keep _ _ (by omega) T2.b0, two_keep _ _ (by omega) T2.b1, two_keep _ _ (by omega) T2.a1⟩ | exact ⟨T2.b0, T2.b1, T2.a1⟩ | exact ⟨T1.b0, T1.b1, T1.a1⟩ | exact ⟨T0.b0, T0.b1, T0.a1⟩)
   (first
     | (go_at_call 143; refine (subAbs_any bo ao m n cb ca ys xs _ HY.out HX.out NY.1 NX.1 (by exact ry) (by exact rx) (by omega) (by omega) (Int.le_of_lt HLE.out)).mono ?_; rintro e w1 ⟨ao1, c1, zs, rfl, p1, p2, p4, p5, p6, p7⟩; have T1 := T0.drew.step p7; clear p7)
     | (go_at_call 140; refine (trim_any t _ _ _ zs _ p1 p2 p4 p6 (by omega)).mono ?_; rintro e w2 ⟨neg', ao', n', cap', ds', rfl, k1, k2, k3, k4, k5, k6, k7, k8⟩; have T2 := T1.step k8; have HN := num_of (z := x + y) (k := k + 1) k1 k2 (by omega) k4 (k5.trans p5) (k6.trans (by rw [p5])) k7 HV.out.1 HV.out.2; have c0 := T2.r0; have c1 := T2.r1; have f0 := T2.f0; have f1 := T2.f1; clear k1 k2 k3 k4 k5 k6 k7 k8))
 all_goals go_wp2
 all_goals refine bodyPost_ret (v := .agg #[.bool neg', .slice ao' n' cap']) (by simp [results, Tryz.results92, go_sem, c0, c1]) rfl ?_
 all_goals exact num_ret' (by omega) c0 c1 HN T2.below
theorem add_any (s t : Bool) (ao bo : Option Addr) (n m ca cb k : Nat) (xs ys : List Int) (x y : Int) (w : World) (hx : IsNum w s ao n ca xs x k) (hy : IsNum w t bo m cb ys y k) (hk : k ≤ 1000000) :
   Calls Tryz.prog 92 #[.agg #[.bool s, .slice ao n ca], .agg #[.bool t, .slice bo m cb]] w (NumP (k + 1) (x + y) w) := by
 by_cases hst : s = t
 · subst hst
   exact add_same s ao bo n m ca cb k xs ys x y w hx hy hk
 · by_cases hle : val ys ≤ val xs
   · exact add_ge s t hst ao bo n m ca cb k xs ys x y w hx hy hk hle
   · exact add_lt s t hst ao bo n m ca cb k xs ys x y w hx hy hk (by omega)
end Go.Proofs.YteakhlipmmfilaaGreat
