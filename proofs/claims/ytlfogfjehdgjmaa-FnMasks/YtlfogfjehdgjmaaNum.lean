/- Plain arithmetic of numbers by their digits in base 2 to the 32: no program in sight. -/
namespace Go.Proofs.Ytlfogfjehdgjmaa

/-- The number that digits stand for, the lowest first. -/
def val : List Int → Int
  | [] => 0
  | d :: t => d + 4294967296 * val t
/-- Each is a digit. -/
def Dig (ds : List Int) : Prop := ∀ d ∈ ds, 0 ≤ d ∧ d < 4294967296
/-- The base to the n. -/
def pw : Nat → Int
  | 0 => 1
  | n + 1 => 4294967296 * pw n

theorem pw_pos (n : Nat) : 0 < pw n := by
  induction n with
  | zero => simp [pw]
  | succ n ih => simp only [pw]; omega
theorem dig_cons {d : Int} {t : List Int} : Dig (d :: t) ↔ (0 ≤ d ∧ d < 4294967296) ∧ Dig t := by
  constructor
  · intro h; exact ⟨h d (by simp), fun x hx => h x (by simp [hx])⟩
  · rintro ⟨h1, h2⟩ x hx
    rcases List.mem_cons.1 hx with rfl | hx
    · exact h1
    · exact h2 x hx
theorem dig_append {a b : List Int} : Dig (a ++ b) ↔ Dig a ∧ Dig b := by
  constructor
  · intro h; exact ⟨fun x hx => h x (by simp [hx]), fun x hx => h x (by simp [hx])⟩
  · rintro ⟨h1, h2⟩ x hx
    rcases List.mem_append.1 hx with hx | hx
    · exact h1 x hx
    · exact h2 x hx
theorem val_append (a b : List Int) : val (a ++ b) = val a + pw a.length * val b := by
  induction a with
  | nil => simp [val, pw]
  | cons d t ih =>
    simp only [List.cons_append, val, List.length_cons, pw, ih, Int.mul_add, Int.mul_assoc]
    omega
theorem val_snoc (a : List Int) (d : Int) : val (a ++ [d]) = val a + pw a.length * d := by
  rw [val_append]; simp [val]
theorem val_nonneg {a : List Int} (h : Dig a) : 0 ≤ val a := by
  induction a with
  | nil => simp [val]
  | cons d t ih =>
    obtain ⟨h1, h2⟩ := dig_cons.1 h
    have := ih h2
    simp only [val]; omega
/-- No digit 0 at the high end. -/
def Nrm (ds : List Int) : Prop := Dig ds ∧ (ds = [] ∨ ∃ t d, ds = t ++ [d] ∧ d ≠ 0)
/-- So many digits and no fewer. -/
theorem nrm_low {ds : List Int} (h : Nrm ds) (hne : ds ≠ []) : pw (ds.length - 1) ≤ val ds := by
  obtain ⟨hd, h | ⟨t, d, rfl, h⟩⟩ := h
  · exact absurd h hne
  · obtain ⟨h1, h2⟩ := dig_append.1 hd
    have h3 := (dig_cons.1 h2).1
    rw [val_snoc]
    have h4 := val_nonneg h1
    have h5 := pw_pos t.length
    have : pw t.length * 1 ≤ pw t.length * d := Int.mul_le_mul_of_nonneg_left (by omega) (by omega)
    simp only [List.length_append, List.length_cons, List.length_nil]
    simp only [Nat.zero_add, Nat.add_sub_cancel]
    omega
theorem nrm_pos {ds : List Int} (h : Nrm ds) (hne : ds ≠ []) : 0 < val ds := by
  have := nrm_low h hne
  have := pw_pos (ds.length - 1)
  omega
theorem nrm_zero {ds : List Int} (h : Nrm ds) : val ds = 0 ↔ ds = [] := by
  constructor
  · intro h0
    by_cases hne : ds = []
    · exact hne
    · have := nrm_pos h hne; omega
  · rintro rfl; rfl
end Go.Proofs.Ytlfogfjehdgjmaa
