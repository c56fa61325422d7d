/- Plain arithmetic of numbers by their digits in base 2 to the 32: no program in sight. -/
namespace Go.Proofs.Ytinilehbhdpdkaa

/-- The number that digits stand for, the lowest first. -/
def val : List Int → Int
  | [] => 0
  | d :: t => d + 4294967296 * val t
/-- Each is a digit. -/
def Dig (ds : List Int) : Prop := ∀ d ∈ ds, 0 ≤ d ∧ d < 4294967296
/-- The base to the n. -/
def pw : Nat → Int
  | 0 => 1
  | n + 1 => 4294967296 * pw n

theorem pw_pos (n : Nat) : 0 < pw n := by
  induction n with
  | zero => simp [pw]
  | succ n ih => simp only [pw]; omega
theorem pw_add (a b : Nat) : pw (a + b) = pw a * pw b := by
  induction a with
  | zero => simp [pw]
  | succ n ih => rw [Nat.succ_add, pw, ih, pw, Int.mul_assoc]
theorem pw_mono {a b : Nat} (h : a ≤ b) : pw a ≤ pw b := by
  obtain ⟨k, rfl⟩ := Nat.exists_eq_add_of_le h
  rw [pw_add]
  have h1 := pw_pos a
  have h2 := pw_pos k
  have : pw a * 1 ≤ pw a * pw k := Int.mul_le_mul_of_nonneg_left (by omega) (by omega)
  omega
theorem pw_lt {a b : Nat} (h : a < b) : 4294967296 * pw a ≤ pw b := by
  have := pw_mono (a := a + 1) (b := b) h
  simpa [pw] using this

theorem dig_nil : Dig [] := by intro d h; simp at h
theorem dig_cons {d : Int} {t : List Int} : Dig (d :: t) ↔ (0 ≤ d ∧ d < 4294967296) ∧ Dig t := by
  constructor
  · intro h; exact ⟨h d (by simp), fun x hx => h x (by simp [hx])⟩
  · rintro ⟨h1, h2⟩ x hx
    rcases List.mem_cons.1 hx with rfl | hx
    · exact h1
    · exact h2 x hx
theorem dig_append {a b : List Int} : Dig (a ++ b) ↔ Dig a ∧ Dig b := by
  constructor
  · intro h; exact ⟨fun x hx => h x (by simp [hx]), fun x hx => h x (by simp [hx])⟩
  · rintro ⟨h1, h2⟩ x hx
    rcases List.mem_append.1 hx with hx | hx
    · exact h1 x hx
    · exact h2 x hx
theorem dig_take {a : List Int} (h : Dig a) (n : Nat) : Dig (a.take n) := fun x hx => h x (List.mem_of_mem_take hx)
theorem dig_drop {a : List Int} (h : Dig a) (n : Nat) : Dig (a.drop n) := fun x hx => h x (List.mem_of_mem_drop hx)
theorem dig_at {a : List Int} (h : Dig a) (n : Nat) (hn : n < a.length) : 0 ≤ a[n] ∧ a[n] < 4294967296 := h _ (List.getElem_mem hn)
theorem dig_getD {a : List Int} (h : Dig a) (n : Nat) : 0 ≤ a.getD n 0 ∧ a.getD n 0 < 4294967296 := by
  by_cases hn : n < a.length
  · have := dig_at h n hn; simpa [List.getD, hn] using this
  · simp [List.getD, hn]

theorem val_append (a b : List Int) : val (a ++ b) = val a + pw a.length * val b := by
  induction a with
  | nil => simp [val, pw]
  | cons d t ih =>
    simp only [List.cons_append, val, List.length_cons, pw, ih, Int.mul_add, Int.mul_assoc]
    omega
theorem val_snoc (a : List Int) (d : Int) : val (a ++ [d]) = val a + pw a.length * d := by
  rw [val_append]; simp [val]
theorem val_nonneg {a : List Int} (h : Dig a) : 0 ≤ val a := by
  induction a with
  | nil => simp [val]
  | cons d t ih =>
    obtain ⟨h1, h2⟩ := dig_cons.1 h
    have := ih h2
    simp only [val]; omega
theorem val_lt {a : List Int} (h : Dig a) : val a < pw a.length := by
  induction a with
  | nil => simp [val, pw]
  | cons d t ih =>
    obtain ⟨h1, h2⟩ := dig_cons.1 h
    have := ih h2
    simp only [val, List.length_cons, pw]; omega
theorem val_zeros (n : Nat) : val (List.replicate n 0) = 0 := by
  induction n with
  | zero => rfl
  | succ n ih => simp [List.replicate_succ, val, ih]
theorem val_take_succ (a : List Int) (k : Nat) (h : k < a.length) : val (a.take (k + 1)) = val (a.take k) + pw k * a[k] := by
  rw [List.take_succ_eq_append_getElem h, val_snoc]
  simp [Nat.min_eq_left (Nat.le_of_lt h)]
theorem val_take_all (a : List Int) (k : Nat) (h : a.length ≤ k) : val (a.take k) = val a := by
  rw [List.take_of_length_le h]

/-- No digit 0 at the high end. -/
def Nrm (ds : List Int) : Prop := Dig ds ∧ (ds = [] ∨ ∃ t d, ds = t ++ [d] ∧ d ≠ 0)
theorem nrm_nil : Nrm [] := ⟨dig_nil, Or.inl rfl⟩
/-- So many digits and no fewer. -/
theorem nrm_low {ds : List Int} (h : Nrm ds) (hne : ds ≠ []) : pw (ds.length - 1) ≤ val ds := by
  obtain ⟨hd, h | ⟨t, d, rfl, h⟩⟩ := h
  · exact absurd h hne
  · obtain ⟨h1, h2⟩ := dig_append.1 hd
    have h3 := (dig_cons.1 h2).1
    rw [val_snoc]
    have h4 := val_nonneg h1
    have h5 := pw_pos t.length
    have : pw t.length * 1 ≤ pw t.length * d := Int.mul_le_mul_of_nonneg_left (by omega) (by omega)
    simp only [List.length_append, List.length_cons, List.length_nil]
    simp only [Nat.zero_add, Nat.add_sub_cancel]
    omega
theorem nrm_pos {ds : List Int} (h : Nrm ds) (hne : ds ≠ []) : 0 < val ds := by
  have := nrm_low h hne
  have := pw_pos (ds.length - 1)
  omega
theorem nrm_zero {ds : List Int} (h : Nrm ds) : val ds = 0 ↔ ds = [] := by
  constructor
  · intro h0
    by_cases hne : ds = []
    · exact hne
    · have := nrm_pos h hne; omega
  · rintro rfl; rfl
theorem nrm_length {ds : List Int} (h : Nrm ds) (k : Nat) (hv : val ds < pw k) : ds.length ≤ k := by
  by_cases hne : ds = []
  · simp [hne]
  · have h1 := nrm_low h hne
    by_cases hk : ds.length ≤ k
    · exact hk
    · exfalso
      have h3 := pw_mono (a := k) (b := ds.length - 1) (by omega)
      omega
/-- More digits is a greater number. -/
theorem nrm_more {a b : List Int} (ha : Nrm a) (hb : Nrm b) (h : a.length < b.length) : val a < val b := by
  have h1 := val_lt ha.1
  have hne : b ≠ [] := by intro h'; simp [h'] at h
  have h2 := nrm_low hb hne
  have h3 := pw_mono (a := a.length) (b := b.length - 1) (by omega)
  omega
theorem val_inj {a b : List Int} (ha : Dig a) (hb : Dig b) (hl : a.length = b.length) (h : val a = val b) : a = b := by
  induction a generalizing b with
  | nil => cases b with
    | nil => rfl
    | cons => simp at hl
  | cons x s ih => cases b with
    | nil => simp at hl
    | cons y t =>
      obtain ⟨h1, h2⟩ := dig_cons.1 ha
      obtain ⟨h3, h4⟩ := dig_cons.1 hb
      simp only [val] at h
      have hxy : x = y := by omega
      subst hxy
      have : s = t := ih h2 h4 (by simpa using hl) (by omega)
      rw [this]
theorem nrm_inj {a b : List Int} (ha : Nrm a) (hb : Nrm b) (h : val a = val b) : a = b := by
  have hl : a.length = b.length := by
    rcases Nat.lt_trichotomy a.length b.length with h1 | h1 | h1
    · have := nrm_more ha hb h1; omega
    · exact h1
    · have := nrm_more hb ha h1; omega
  exact val_inj ha.1 hb.1 hl h

/-- Digits cut at the high end behind which all are 0. -/
theorem val_cut (ds : List Int) (n : Nat) (h : ∀ j, n ≤ j → (hj : j < ds.length) → ds[j] = 0) : val (ds.take n) = val ds := by
  by_cases hn : ds.length ≤ n
  · rw [List.take_of_length_le hn]
  · have e : ds = ds.take n ++ ds.drop n := (List.take_append_drop n ds).symm
    have hz : ds.drop n = List.replicate (ds.length - n) 0 := by
      apply List.ext_getElem
      · simp
      · intro i h1 h2
        simp only [List.getElem_drop, List.getElem_replicate]
        exact h _ (by omega) _
    have h2 : val ds = val (ds.take n) + pw (ds.take n).length * val (ds.drop n) := by
      have := val_append (ds.take n) (ds.drop n)
      rwa [List.take_append_drop] at this
    rw [h2, hz, val_zeros, Int.mul_zero, Int.add_zero]
theorem nrm_take {ds : List Int} (hd : Dig ds) (n : Nat) (hn : n < ds.length) (h0 : ds[n] ≠ 0) : Nrm (ds.take (n + 1)) := by
  refine ⟨dig_take hd _, Or.inr ⟨ds.take n, ds[n], List.take_succ_eq_append_getElem hn, h0⟩⟩

/-- -1, 0 or 1. -/
def cmpI (x y : Int) : Int := if x < y then -1 else if y < x then 1 else 0
theorem cmpI_lt {x y : Int} (h : x < y) : cmpI x y = -1 := by simp [cmpI, h]
theorem cmpI_gt {x y : Int} (h : y < x) : cmpI x y = 1 := by unfold cmpI; rw [if_neg (by omega), if_pos h]
theorem cmpI_eq {x y : Int} (h : x = y) : cmpI x y = 0 := by subst h; simp [cmpI]
theorem val_split (a : List Int) (k : Nat) (h : k < a.length) : val a = val (a.take k) + pw k * (a[k] + 4294967296 * val (a.drop (k + 1))) := by
  have h1 := val_append (a.take k) (a.drop k)
  rw [List.take_append_drop, List.drop_eq_getElem_cons h] at h1
  simpa [val, Nat.min_eq_left (Nat.le_of_lt h)] using h1
theorem val_above {a b : List Int} (ha : Dig a) (hb : Dig b) (k : Nat) (h1 : k < a.length) (h2 : k < b.length) (he : a.drop (k + 1) = b.drop (k + 1)) (hlt : a[k] < b[k]) : val a < val b := by
  rw [val_split a k h1, val_split b k h2, he]
  have e1 := val_lt (dig_take ha k)
  have e2 := val_nonneg (dig_take hb k)
  have e3 : (a.take k).length = k := by simp; omega
  rw [e3] at e1
  have e4 := pw_pos k
  generalize pw k = p at *
  generalize 4294967296 * val (List.drop (k + 1) b) = r
  have e5 : p * (a[k] + r) + p ≤ p * (b[k] + r) := by
    have : p * (a[k] + r + 1) ≤ p * (b[k] + r) := Int.mul_le_mul_of_nonneg_left (by omega) (by omega)
    rw [Int.mul_add p (a[k] + r) 1] at this
    omega
  omega
theorem val_take_getD (a : List Int) (k : Nat) : val (a.take (k + 1)) = val (a.take k) + pw k * a.getD k 0 := by
  by_cases h : k < a.length
  · rw [val_take_succ a k h]; simp [List.getD, h]
  · rw [List.take_of_length_le (by omega), List.take_of_length_le (by omega)]; simp [List.getD, h]
/-- One step of a difference. -/
theorem sub_eq (xs ys zs : List Int) (k : Nat) (hl : zs.length = k) (cv c' v : Int) (hc : cv = 0 ∨ cv = 1) (hc' : c' = 0 ∨ c' = 1)
    (eq : val zs = val (xs.take k) - val (ys.take k) + cv * pw k) (he : v = xs.getD k 0 - ys.getD k 0 - cv + c' * 4294967296) :
    val (zs ++ [v]) = val (xs.take (k + 1)) - val (ys.take (k + 1)) + c' * pw (k + 1) := by
  rw [val_snoc, hl, val_take_getD, val_take_getD, eq, he, pw]
  rcases hc with rfl | rfl <;> rcases hc' with rfl | rfl <;> simp only [Int.mul_sub, Int.mul_add, Int.mul_one, Int.mul_zero, Int.zero_mul, Int.one_mul] <;> omega
/-- The end of a difference. -/
theorem sub_end (xs ys zs : List Int) (n : Nat) (hx : xs.length = n) (hz : zs.length = n) (dx : Dig xs) (dy : Dig ys) (dz : Dig zs) (hle : val ys ≤ val xs) (cv : Int) (hc : cv = 0 ∨ cv = 1)
    (eq : val zs = val (xs.take n) - val (ys.take n) + cv * pw n) : val zs = val xs - val ys := by
  rw [val_take_all xs n (by omega)] at eq
  have h1 := val_lt dx
  have h2 := val_lt dz
  rw [hx] at h1; rw [hz] at h2
  have h3 : val (ys.take n) = val ys := by
    by_cases hn : ys.length ≤ n
    · exact val_take_all ys n hn
    · have e := val_append (ys.take n) (ys.drop n)
      rw [List.take_append_drop] at e
      have e1 : (ys.take n).length = n := by simp; omega
      rw [e1] at e
      have e2 := val_nonneg (dig_take dy n)
      have e3 := val_nonneg (dig_drop dy n)
      by_cases e4 : val (ys.drop n) = 0
      · rw [e4] at e; omega
      · exfalso
        have : pw n * 1 ≤ pw n * val (ys.drop n) := Int.mul_le_mul_of_nonneg_left (by omega) (by have := pw_pos n; omega)
        omega
  rw [h3] at eq
  rcases hc with rfl | rfl
  · omega
  · omega
/-- One step of a shift: x is what was carried and the digit, moved. -/
theorem left_eq (ds zs : List Int) (q k : Nat) (hl : zs.length = q + k) (p c x : Int) (eq : val zs + c * pw (q + k) = pw q * (p * val (ds.take k))) (hk : k < ds.length) (hx : x = c + ds[k] * p) :
    val (zs ++ [x % 4294967296]) + x / 4294967296 * pw (q + (k + 1)) = pw q * (p * val (ds.take (k + 1))) := by
  rw [val_snoc, hl, val_take_succ ds k hk, show q + (k + 1) = (q + k) + 1 by omega, pw]
  have e1 : x / 4294967296 * (4294967296 * pw (q + k)) = pw (q + k) * (4294967296 * (x / 4294967296)) := by
    rw [Int.mul_comm (pw (q + k)), Int.mul_comm 4294967296 (x / 4294967296), Int.mul_assoc]
  have e2 : pw (q + k) * (x % 4294967296) + pw (q + k) * (4294967296 * (x / 4294967296)) = pw (q + k) * x := by
    rw [← Int.mul_add, Int.emod_add_mul_ediv]
  have e3 : pw q * (p * (val (ds.take k) + pw k * ds[k])) = pw q * (p * val (ds.take k)) + pw (q + k) * (ds[k] * p) := by
    rw [pw_add, Int.mul_add, Int.mul_add, Int.mul_assoc (pw q), ← Int.mul_assoc p, Int.mul_comm p (pw k), Int.mul_assoc (pw k), Int.mul_comm p ds[k]]
  rw [e3, ← eq, e1, Int.add_assoc, e2, hx, Int.mul_add, Int.mul_comm c]
  omega
theorem left_carry (c d p : Int) (hc0 : 0 ≤ c) (hc : c < p) (hd0 : 0 ≤ d) (hd : d < 4294967296) : 0 ≤ c + d * p ∧ (c + d * p) / 4294967296 < p := by
  have h1 : 0 ≤ d * p := Int.mul_nonneg hd0 (by omega)
  have h2 : d * p ≤ 4294967295 * p := Int.mul_le_mul_of_nonneg_right (by omega) (by omega)
  exact ⟨by omega, by omega⟩
theorem pw_two (n : Nat) : pw n = ((2 ^ (32 * n) : Nat) : Int) := by
  induction n with
  | zero => simp [pw]
  | succ n ih =>
    rw [pw, ih, show 32 * (n + 1) = 32 * n + 32 by omega, Nat.pow_add]
    simp [Int.mul_comm]
/-- So many binary digits. -/
def BitsOf (v : Int) (b : Nat) : Prop := 0 ≤ v ∧ v < 2 ^ b ∧ (b = 0 ∨ (2 : Int) ^ (b - 1) ≤ v)
theorem ipow2 (r : Nat) : ((2 : Int) ^ r) = (((2 : Nat) ^ r : Nat) : Int) := by simp
theorem ipow2_mono {a b : Nat} (h : a ≤ b) : (2 : Int) ^ a ≤ 2 ^ b := by
  rw [ipow2, ipow2]
  have := Nat.pow_le_pow_right (n := 2) (by omega) h
  omega
theorem bits_unique {v : Int} {a b : Nat} (ha : BitsOf v a) (hb : BitsOf v b) : a = b := by
  obtain ⟨h0, h1, h2⟩ := ha
  obtain ⟨_, h3, h4⟩ := hb
  rcases Nat.lt_trichotomy a b with h | h | h
  · rcases h4 with h4 | h4
    · omega
    · have := ipow2_mono (a := a) (b := b - 1) (by omega); omega
  · exact h
  · rcases h2 with h2 | h2
    · omega
    · have := ipow2_mono (a := b) (b := a - 1) (by omega); omega
theorem bits_le {v : Int} {b : Nat} (h : BitsOf v b) (m : Nat) : b ≤ m ↔ v < 2 ^ m := by
  obtain ⟨h0, h1, h2⟩ := h
  constructor
  · intro hm; have := ipow2_mono hm; omega
  · intro hv
    rcases h2 with h2 | h2
    · omega
    · by_cases hm : b ≤ m
      · exact hm
      · have := ipow2_mono (a := m) (b := b - 1) (by omega); omega
/-- The bits of a number by those of its highest digit. -/
theorem bits_top (ds : List Int) (hd : Dig ds) (t : Int) (l : List Int) (hds : ds = l ++ [t]) (j : Nat) (hj : BitsOf t j) (ht : t ≠ 0) : BitsOf (val ds) (32 * l.length + j) := by
  subst hds
  obtain ⟨h1, h2⟩ := dig_append.1 hd
  have e1 := val_lt h1
  have e2 := val_nonneg h1
  obtain ⟨g0, g1, g2⟩ := hj
  have hp : (2 : Int) ^ (32 * l.length) = pw l.length := by rw [pw_two, ipow2]
  have p0 := pw_pos l.length
  have e3 : (2 : Int) ^ (32 * l.length + j) = pw l.length * 2 ^ j := by rw [Int.pow_add, hp]
  rw [val_snoc]
  refine ⟨by have := Int.mul_nonneg (Int.le_of_lt p0) g0; omega, ?_, Or.inr ?_⟩
  · rw [e3]
    have : pw l.length * (t + 1) ≤ pw l.length * 2 ^ j := Int.mul_le_mul_of_nonneg_left (by omega) (by omega)
    rw [Int.mul_add] at this
    omega
  · have hj0 : j ≠ 0 := by
      rintro rfl
      simp at g1; omega
    rcases g2 with g2 | g2
    · omega
    · rw [show 32 * l.length + j - 1 = 32 * l.length + (j - 1) by omega, Int.pow_add, hp]
      have : pw l.length * 2 ^ (j - 1) ≤ pw l.length * t := Int.mul_le_mul_of_nonneg_left g2 (by omega)
      omega
/-- Halving goes on until nothing is left. -/
theorem bits_half {t x : Int} {j : Nat} (ht : 0 ≤ t) (hx : x = t / 2 ^ j) (hj : j = 0 ∨ (2 : Int) ^ (j - 1) ≤ t) (h0 : x = 0) : BitsOf t j := by
  refine ⟨ht, ?_, hj⟩
  have hp : (0 : Int) < 2 ^ j := Int.pow_pos (by decide)
  rw [h0] at hx
  exact Int.lt_of_not_ge (fun h => by
    have := (Int.le_ediv_iff_mul_le hp (a := 1) (b := t)).2 (by omega)
    omega)
theorem bits_half_step {t x : Int} {j : Nat} (hx : x = t / 2 ^ j) (h0 : 0 < x) : x / 2 = t / 2 ^ (j + 1) ∧ (j + 1 = 0 ∨ (2 : Int) ^ (j + 1 - 1) ≤ t) := by
  have hp : (0 : Int) < 2 ^ j := Int.pow_pos (by decide)
  constructor
  · rw [hx, Int.pow_succ, Int.ediv_ediv_of_nonneg (by omega)]
  · right
    simp only [Nat.add_sub_cancel]
    have : 1 * 2 ^ j ≤ t := (Int.le_ediv_iff_mul_le hp).1 (by omega)
    omega
end Go.Proofs.Ytinilehbhdpdkaa
