/- Part 9 of the walks that the proof leans on. -/
import Derived.Test.YtnnojeggjnddpaaPart8
import Derived.Test.YtnnojeggjnddpaaPart1
import Derived.Test.YtnnojeggjnddpaaRows
import Derived.ProofKit
import Derived.Lib.SmallJoins
/- A fraction read from its text: the model's. -/
namespace Go.Proofs.Ytnnojeggjnddpaa
open Go.RowKit
theorem sone_det (w : World) : Calls Try.prog 60 #[.int .i64 1] w (VP (.agg #[.int .u64 (ww3 1), .int .u64 (ww2 1), .int .u64 (ww1 1), .int .u64 (ww0 1)]) w) := by
  refine (specOf_any 1 w (by decide) (by decide)).mono ?_
  rintro e w' ⟨a3, a2, a1, a0, rfl, g3, g2, g1, g0, hs, hB⟩
  obtain ⟨rfl, rfl, rfl, rfl⟩ := wd_of g3 g2 g1 g0 hs
  exact ⟨rfl, hB⟩
theorem tx_ne (z : Int) : txL z ≠ [] := by
  by_cases h : z < 0
  · rw [tx_neg h]; simp
  · rw [tx_pos h]; exact (dgs_dec _).1
theorem unL_lt (z : Int) : ∀ b ∈ unL z, b < 256 := by
  intro b hb
  unfold unL at hb
  split at hb
  · simp at hb
  · rcases List.mem_cons.1 hb with h | h
    · omega
    · exact txL_lt z b h
theorem raL_lt (x y : Int) : ∀ b ∈ raL x y, b < 256 := by
  intro b hb
  rcases List.mem_append.1 hb with h | h
  · exact txL_lt x b h
  · exact unL_lt y b h
theorem cut_here {c : Nat} {p q : List Nat} (h : c ∉ p) : cutA c (p ++ c :: q) = p ∧ cutB c (p ++ c :: q) = q := by
  have hm : c ∈ p ++ c :: q := by simp
  obtain ⟨e1, e2⟩ := cut_in hm
  obtain ⟨e3, e4⟩ := first_one h e2 e1
  exact ⟨e3.symm, e4.symm⟩
/-- What is found where a fraction is written. -/
theorem ra_cut {l p : List Nat} {y : Int} (hp : 47 ∉ p) (h : l = p ++ unL y) : cutA 47 l = p ∧ (47 ∈ l → y ≠ 1 ∧ cutB 47 l = txL y) ∧ (47 ∉ l → y = 1) := by
  by_cases hy : y = 1
  · rw [hy, unL_one, List.append_nil] at h
    rw [h]
    exact ⟨(cut_not hp).1, fun h2 => absurd h2 hp, fun _ => hy⟩
  · rw [unL_not hy] at h
    rw [h]
    obtain ⟨e1, e2⟩ := cut_here (q := txL y) hp
    exact ⟨e1, fun _ => ⟨hy, e2⟩, fun h2 => absurd (by simp) h2⟩
theorem cut_head (c : Nat) (s : ByteArray) : s.extract 0 (cutA c (btL s)).length = strL (cutA c (btL s)) := by
  by_cases h : c ∈ btL s
  · exact (cut_ex h).1
  · rw [(cut_not h).1, btL_len, strL_btL]
    apply ByteArray.ext
    simp
/-- While the stroke is sought. -/
def AtI (l : List Nat) (k c : Nat) : Prop := (k = l.length ∧ 47 ∉ l.take c) ∨ (k < l.length ∧ k = (cutA 47 l).length)
theorem at_hit {l : List Nat} {c : Nat} (h : 47 ∉ l.take c) (hc : l[c]? = some 47) : c < l.length ∧ c = (cutA 47 l).length := by
  have hlt : c < l.length := by
    rcases Nat.lt_or_ge c l.length with h1 | h1
    · exact h1
    · rw [List.getElem?_eq_none h1] at hc; cases hc
  refine ⟨hlt, ?_⟩
  have e : l = l.take c ++ 47 :: l.drop (c + 1) := by
    rw [List.getElem?_eq_getElem hlt] at hc
    conv => lhs; rw [← List.take_append_drop c l, List.drop_eq_getElem_cons hlt]
    rw [Option.some.inj hc]
  have h1 := (cut_here (q := l.drop (c + 1)) h).1
  rw [← e] at h1
  rw [h1, List.length_take]
  omega
theorem at_miss {l : List Nat} {c b : Nat} (h : 47 ∉ l.take c) (hc : l[c]? = some b) (hb : b ≠ 47) : 47 ∉ l.take (c + 1) := by
  rw [List.take_add_one, hc]
  intro h1
  rcases List.mem_append.1 h1 with h2 | h2
  · exact h h2
  · exact hb (List.mem_singleton.1 h2).symm
theorem at_end {l : List Nat} {k : Nat} (h : AtI l k l.length) : k = (cutA 47 l).length := by
  rcases h with ⟨h1, h2⟩ | ⟨_, h2⟩
  · rw [List.take_length] at h2
    rw [(cut_not h2).1]
    exact h1
  · exact h2
theorem at_out {l : List Nat} {k c : Nat} (h : AtI l k c) (hk : k ≠ l.length) : k = (cutA 47 l).length := by
  rcases h with ⟨h1, _⟩ | ⟨_, h2⟩
  · exact absurd h1 hk
  · exact h2
/-- What is told of both numbers found, written again. -/
theorem rr_again {s : ByteArray} {x d : Int} (hx : told x = true) (hd : told d = true) (ha : cutA 47 (btL s) = txL x) (hb : 47 ∈ btL s → cutB 47 (btL s) = txL d) (h1 : 47 ∉ btL s → d = 1) :
    (strL (if rightB x d = true then raL x d else []) = s → rrV (btL s) = .tuple #[QV x d, .bool true]) ∧ (strL (if rightB x d = true then raL x d else []) ≠ s → rrV (btL s) = .tuple #[QV 0 0, .bool false]) := by
  constructor
  · intro h
    by_cases hr : rightB x d = true
    · rw [if_pos hr] at h
      exact rrV_yes ⟨hx, hd, hr, by rw [← h, btL_strL (raL_lt x d)]⟩
    · rw [if_neg hr] at h
      rw [← h] at ha
      exact absurd ha.symm (tx_ne x)
  · intro h
    refine rrV_no fun x' y' hk => h ?_
    obtain ⟨_, _, hr, hl⟩ := hk
    obtain ⟨e1, e2, e3⟩ := ra_cut (txL_47 x') hl
    have e4 : x = x' := tx_inj (ha.symm.trans e1)
    have e5 : d = y' := by
      by_cases h47 : 47 ∈ btL s
      · exact tx_inj ((hb h47).symm.trans (e2 h47).2)
      · rw [h1 h47, e3 h47]
    rw [e4, e5, if_pos hr, ← hl, strL_btL]
set_option maxRecDepth 100000 in
set_option maxHeartbeats 8000000 in
theorem specReadRatio_any (s : ByteArray) (hm : s.size ≤ 9223372036854775807) (w : World) : Calls Try.prog 21 #[.string s] w (VP (rrV (btL s)) w) := by
  have HB : Below w.heap.size w (w.alloc (Obj.cells #[.int .u64 0, .int .u64 0, .int .u64 0, .int .u64 0, .int .u64 0, .int .u64 0, .int .u64 0, .int .u64 0] 37)) := (Below.refl _ _).alloc (Nat.le_refl _) _
  have R0 : Blk (w.alloc (Obj.cells #[.int .u64 0, .int .u64 0, .int .u64 0, .int .u64 0, .int .u64 0, .int .u64 0, .int .u64 0, .int .u64 0] 37)) w.heap.size [.int .u64 0, .int .u64 0, .int .u64 0, .int .u64 0, .int .u64 0, .int .u64 0, .int .u64 0, .int .u64 0] := Blk.new w [.int .u64 0, .int .u64 0, .int .u64 0, .int .u64 0, .int .u64 0, .int .u64 0, .int .u64 0, .int .u64 0] _ rfl
  by_cases h160 : s.size ≤ 160
  · have i160 : ¬ ((160 : Int) < s.size) := by omega
    obtain ⟨x, ok, hx, ry, rn, hr⟩ := rd_ex (cutA 47 (btL s))
    have CA := specRead_any (strL (cutA 47 (btL s))) (cut_sz 47 s hm).1
    rw [(cut_bt 47 s).1, hr] at CA
    have C1 := sone_det
    have x1 := cut_head 47 s
    have hkl := cut_len 47 (btL s)
    rw [btL_len] at hkl
    have tail : True := trivial
    go_enter Try.func21, Try.ntmps21
    go_upto_block 0 with fail
    generalize (w.alloc (Obj.cells #[.int .u64 0, .int .u64 0, .int .u64 0, .int .u64 0, .int .u64 0, .int .u64 0, .int .u64 0, .int .u64 0] 37)) = W0 at *
    go_cut [4] (fun p wx => p = .int .i64 ((cutA 47 (btL s)).length : Nat) ∧ W0 = wx)
    case first =>
      clear CA C1 x1 R0 HB ry rn hr hx
      go_wp2_with fail
      go_loopw [4, 5] (fun p i wr => ∃ c k : Nat, c ≤ s.size ∧ i = .int .i64 c ∧ p = .int .i64 k ∧ AtI (btL s) k c ∧ wr = W0) (fun _ i _ => s.size - (intOf i).toNat)
      case atStart => exact ⟨0, s.size, Nat.zero_le _, rfl, rfl, Or.inl ⟨(btL_len s).symm, by simp⟩, rfl⟩
      case round =>
        obtain ⟨c, k, hc, rfl, rfl, hI, rfl⟩ := hrel
        by_cases hcs : c < s.size
        · have hcI : (c : Int) < s.size := by omega
          by_cases hk : k = s.size
          · subst hk
            have h47 : 47 ∉ (btL s).take c := by
              rcases hI with ⟨_, h⟩ | ⟨h, _⟩
              · exact h
              · rw [btL_len] at h; omega
            have hq := btL_getQ hcs
            have hbt := bt_at hcs
            have hlt := bt_lt s c
            by_cases hb : bt s c = 47
            · have HN : Hid (AtI (btL s) c (c + 1)) := Or.inr (at_hit h47 (by rw [hq, hb]))
              have hbI : ((bt s c : Int) == 47) = true := by rw [hb]; rfl
              clear h47 hq hI hb
              go_wp2
              go_roundw
              case rel => exact ⟨c + 1, c, by omega, by go_num, rfl, HN.out, by first | rfl | trivial⟩
              case measure => simp [intOf]; omega
            · have HN : Hid (AtI (btL s) s.size (c + 1)) := Or.inl ⟨(btL_len s).symm, at_miss h47 hq hb⟩
              have hbI : ((bt s c : Int) == 47) = false := beq_eq_false_iff_ne.2 (by omega)
              clear h47 hq hI hb
              go_wp2
              go_roundw
              case rel => exact ⟨c + 1, s.size, by omega, by go_num, rfl, HN.out, by first | rfl | trivial⟩
              case measure => simp [intOf]; omega
          · have hkI : ((k : Int) == (s.size : Int)) = false := beq_eq_false_iff_ne.2 (by omega)
            have hkn : ¬ ((k : Int) = (s.size : Int)) := by omega
            have HE : Hid (k = (cutA 47 (btL s)).length) := at_out hI (by rw [btL_len]; exact hk)
            clear hI hk
            go_wp2
            go_meet
            exact ⟨by rw [HE.out], rfl⟩
        · obtain rfl : c = s.size := by omega
          have HE : Hid (k = (cutA 47 (btL s)).length) := at_end (by rw [btL_len]; exact hI)
          clear hI
          go_wp2
          go_meet
          exact ⟨by rw [HE.out], rfl⟩
    case rest =>
      obtain ⟨hp, hw⟩ := hcut
      subst hp hw
      clear tail
      by_cases h47 : 47 ∈ btL s
      · obtain ⟨d, fe, hd, ey, en, hrb⟩ := rd_ex (cutB 47 (btL s))
        have CB := specRead_any (strL (cutB 47 (btL s))) (cut_sz 47 s hm).2
        rw [(cut_bt 47 s).2, hrb] at CB
        have x2 := (cut_ex h47).2
        have hk1 : (cutA 47 (btL s)).length + 1 ≤ s.size := by
          have h2 := congrArg List.length (cut_in h47).1
          rw [btL_len, List.length_append, List.length_cons] at h2
          omega
        have CT := specRatText_det x d hx hd
        have HA := fun (h1 : ok = true) (h2 : fe = true) => rr_again hx hd (ry h1) (fun _ => ey h2) (fun h => absurd h47 h)
        have HC := fun (h1 : ok = false) => (rrV_no (l := btL s) fun x' y' h => rn h1 x' h.1 (ra_cut (txL_47 x') h.2.2.2).1)
        have HD := fun (h1 : fe = false) => (rrV_no (l := btL s) fun x' y' h => en h1 y' h.2.1 ((ra_cut (txL_47 x') h.2.2.2).2.1 h47).2)
        have i1 : ((cutA 47 (btL s)).length : Int) < s.size := by omega
        have i2 : IntKind.i64.wrap (((cutA 47 (btL s)).length : Int) + 1) = ((cutA 47 (btL s)).length : Int) + 1 := by rw [IntKind.wrap_i64]; omega
        have i3 : (((cutA 47 (btL s)).length : Int) + 1).toNat = (cutA 47 (btL s)).length + 1 := by omega
        have i4 : ((cutA 47 (btL s)).length : Int) + 1 ≤ s.size := by omega
        have i5 : ((cutA 47 (btL s)).length : Int) ≤ s.size := by omega
        clear ry rn hr ey en hrb h47
        generalize (cutA 47 (btL s)).length = k at *
        generalize strL (cutA 47 (btL s)) = A at *
        generalize strL (cutB 47 (btL s)) = B at *
        generalize strL (if rightB x d = true then raL x d else []) = T at *
        cases ok
        · have HV : Hid (rrV (btL s) = .tuple #[.agg #[.int .u64 0, .int .u64 0, .int .u64 0, .int .u64 0, .int .u64 0, .int .u64 0, .int .u64 0, .int .u64 0], .bool false]) := HC rfl
          clear HA HC HD CT
          go_wp2_with fail
          refine (CA _).mono ?_
          rintro e w1 ⟨rfl, hB⟩
          replace HB := HB.trans (hB.mono HB.size)
          replace R0 := R0.step hB
          clear hB CA
          have X1 := Blk.new w1 [.int .u64 (ww3 x), .int .u64 (ww2 x), .int .u64 (ww1 x), .int .u64 (ww0 x)] 26 rfl
          rw [show ([.int .u64 (ww3 x), .int .u64 (ww2 x), .int .u64 (ww1 x), .int .u64 (ww0 x)] : List Value).toArray = #[.int .u64 (ww3 x), .int .u64 (ww2 x), .int .u64 (ww1 x), .int .u64 (ww0 x)] from rfl] at X1
          replace HB := HB.alloc HB.size (Obj.cells #[.int .u64 (ww3 x), .int .u64 (ww2 x), .int .u64 (ww1 x), .int .u64 (ww0 x)] 26)
          replace R0 := R0.alloc (Obj.cells #[.int .u64 (ww3 x), .int .u64 (ww2 x), .int .u64 (ww1 x), .int .u64 (ww0 x)] 26)
          go_wp2_with fail
          generalize w1.heap.size = g1 at *
          generalize (w1.alloc (Obj.cells #[.int .u64 (ww3 x), .int .u64 (ww2 x), .int .u64 (ww1 x), .int .u64 (ww0 x)] 26)) = W1 at *
          refine (C1 _).mono ?_
          rintro e w2 ⟨rfl, hB⟩
          replace HB := HB.trans (hB.mono HB.size)
          replace R0 := R0.step hB
          replace X1 := X1.step hB
          clear hB C1
          have hl1 := X1.lt
          have hl0 := R0.lt
          have X2 := Blk.new w2 [.int .u64 (ww3 1), .int .u64 (ww2 1), .int .u64 (ww1 1), .int .u64 (ww0 1)] 26 rfl
          rw [show ([.int .u64 (ww3 1), .int .u64 (ww2 1), .int .u64 (ww1 1), .int .u64 (ww0 1)] : List Value).toArray = #[.int .u64 (ww3 1), .int .u64 (ww2 1), .int .u64 (ww1 1), .int .u64 (ww0 1)] from rfl] at X2
          replace HB := HB.alloc HB.size (Obj.cells #[.int .u64 (ww3 1), .int .u64 (ww2 1), .int .u64 (ww1 1), .int .u64 (ww0 1)] 26)
          replace R0 := R0.alloc (Obj.cells #[.int .u64 (ww3 1), .int .u64 (ww2 1), .int .u64 (ww1 1), .int .u64 (ww0 1)] 26)
          replace X1 := X1.alloc (Obj.cells #[.int .u64 (ww3 1), .int .u64 (ww2 1), .int .u64 (ww1 1), .int .u64 (ww0 1)] 26)
          go_wp2_with fail
          generalize w2.heap.size = g2 at *
          generalize (w2.alloc (Obj.cells #[.int .u64 (ww3 1), .int .u64 (ww2 1), .int .u64 (ww1 1), .int .u64 (ww0 1)] 26)) = W2 at *
          refine (CB _).mono ?_
          rintro e w3 ⟨rfl, hB⟩
          replace HB := HB.trans (hB.mono HB.size)
          replace R0 := R0.step hB
          replace X1 := X1.step hB
          replace X2 := X2.step hB
          clear hB CB
          obtain ⟨c0, c1, c2, c3⟩ := X1.cs4
          obtain ⟨d0, f0, d1, f1, d2, f2, d3, f3⟩ := X2.cf4
          have dl2 := X2.lt
          have n12 : ¬ (g1 = g2) := by omega
          have n21 : ¬ (g2 = g1) := by omega
          have n02 : ¬ (w.heap.size = g2) := by omega
          have n20 : ¬ (g2 = w.heap.size) := by omega
          replace HB : Below w.heap.size w ((((w3.setCell ⟨g2, 0, none⟩ (.int .u64 (ww3 d))).setCell ⟨g2, 1, none⟩ (.int .u64 (ww2 d))).setCell ⟨g2, 2, none⟩ (.int .u64 (ww1 d))).setCell ⟨g2, 3, none⟩ (.int .u64 (ww0 d))) := tell_below HB (by omega)
          replace R0 := R0.set4 (v0 := .int .u64 (ww3 d)) (v1 := .int .u64 (ww2 d)) (v2 := .int .u64 (ww1 d)) (v3 := .int .u64 (ww0 d)) n02
          go_upto_region 15 with fail
          clear c0 c1 c2 c3 d0 f0 d1 f1 d2 f2 d3 f3 dl2 X1 X2
          have X3 := Blk.new ((((w3.setCell ⟨g2, 0, none⟩ (.int .u64 (ww3 d))).setCell ⟨g2, 1, none⟩ (.int .u64 (ww2 d))).setCell ⟨g2, 2, none⟩ (.int .u64 (ww1 d))).setCell ⟨g2, 3, none⟩ (.int .u64 (ww0 d))) [.int .u64 (ww3 x), .int .u64 (ww2 x), .int .u64 (ww1 x), .int .u64 (ww0 x), .int .u64 (ww3 d), .int .u64 (ww2 d), .int .u64 (ww1 d), .int .u64 (ww0 d)] 37 (g := w3.heap.size) (by simp)
          rw [show ([.int .u64 (ww3 x), .int .u64 (ww2 x), .int .u64 (ww1 x), .int .u64 (ww0 x), .int .u64 (ww3 d), .int .u64 (ww2 d), .int .u64 (ww1 d), .int .u64 (ww0 d)] : List Value).toArray = #[.int .u64 (ww3 x), .int .u64 (ww2 x), .int .u64 (ww1 x), .int .u64 (ww0 x), .int .u64 (ww3 d), .int .u64 (ww2 d), .int .u64 (ww1 d), .int .u64 (ww0 d)] from rfl] at X3
          replace HB := HB.alloc HB.size (Obj.cells #[.int .u64 (ww3 x), .int .u64 (ww2 x), .int .u64 (ww1 x), .int .u64 (ww0 x), .int .u64 (ww3 d), .int .u64 (ww2 d), .int .u64 (ww1 d), .int .u64 (ww0 d)] 37)
          replace R0 := R0.alloc (Obj.cells #[.int .u64 (ww3 x), .int .u64 (ww2 x), .int .u64 (ww1 x), .int .u64 (ww0 x), .int .u64 (ww3 d), .int .u64 (ww2 d), .int .u64 (ww1 d), .int .u64 (ww0 d)] 37)
          generalize w3.heap.size = g3 at *
          generalize (((((w3.setCell ⟨g2, 0, none⟩ (.int .u64 (ww3 d))).setCell ⟨g2, 1, none⟩ (.int .u64 (ww2 d))).setCell ⟨g2, 2, none⟩ (.int .u64 (ww1 d))).setCell ⟨g2, 3, none⟩ (.int .u64 (ww0 d))).alloc (Obj.cells #[.int .u64 (ww3 x), .int .u64 (ww2 x), .int .u64 (ww1 x), .int .u64 (ww0 x), .int .u64 (ww3 d), .int .u64 (ww2 d), .int .u64 (ww1 d), .int .u64 (ww0 d)] 37)) = W4 at *
          clear X3
          have dl := R0.lt
          have o0 := R0.c 0 rfl; have q0 := R0.f 0 rfl; have o1 := R0.c 1 rfl; have q1 := R0.f 1 rfl; have o2 := R0.c 2 rfl; have q2 := R0.f 2 rfl; have o3 := R0.c 3 rfl; have q3 := R0.f 3 rfl; have o4 := R0.c 4 rfl; have q4 := R0.f 4 rfl; have o5 := R0.c 5 rfl; have q5 := R0.f 5 rfl; have o6 := R0.c 6 rfl; have q6 := R0.f 6 rfl; have o7 := R0.c 7 rfl; have q7 := R0.f 7 rfl
          go_wp2
          refine bodyPost_ret (v := .tuple #[.agg #[.int .u64 0, .int .u64 0, .int .u64 0, .int .u64 0, .int .u64 0, .int .u64 0, .int .u64 0, .int .u64 0], .bool false]) (by simp [results, Try.results21, go_sem, o0, o1, o2, o3, o4, o5, o6, o7]) rfl ?_
          refine ⟨by rw [HV.out], ?_⟩
          repeat' (refine Below.setCell ?_ (by simp; try omega) _)
          exact HB
        · cases fe
          · have HV : Hid (rrV (btL s) = .tuple #[.agg #[.int .u64 0, .int .u64 0, .int .u64 0, .int .u64 0, .int .u64 0, .int .u64 0, .int .u64 0, .int .u64 0], .bool false]) := HD rfl
            clear HA HC HD CT
            go_wp2_with fail
            refine (CA _).mono ?_
            rintro e w1 ⟨rfl, hB⟩
            replace HB := HB.trans (hB.mono HB.size)
            replace R0 := R0.step hB
            clear hB CA
            have X1 := Blk.new w1 [.int .u64 (ww3 x), .int .u64 (ww2 x), .int .u64 (ww1 x), .int .u64 (ww0 x)] 26 rfl
            rw [show ([.int .u64 (ww3 x), .int .u64 (ww2 x), .int .u64 (ww1 x), .int .u64 (ww0 x)] : List Value).toArray = #[.int .u64 (ww3 x), .int .u64 (ww2 x), .int .u64 (ww1 x), .int .u64 (ww0 x)] from rfl] at X1
            replace HB := HB.alloc HB.size (Obj.cells #[.int .u64 (ww3 x), .int .u64 (ww2 x), .int .u64 (ww1 x), .int .u64 (ww0 x)] 26)
            replace R0 := R0.alloc (Obj.cells #[.int .u64 (ww3 x), .int .u64 (ww2 x), .int .u64 (ww1 x), .int .u64 (ww0 x)] 26)
            go_wp2_with fail
            generalize w1.heap.size = g1 at *
            generalize (w1.alloc (Obj.cells #[.int .u64 (ww3 x), .int .u64 (ww2 x), .int .u64 (ww1 x), .int .u64 (ww0 x)] 26)) = W1 at *
            refine (C1 _).mono ?_
            rintro e w2 ⟨rfl, hB⟩
            replace HB := HB.trans (hB.mono HB.size)
            replace R0 := R0.step hB
            replace X1 := X1.step hB
            clear hB C1
            have hl1 := X1.lt
            have hl0 := R0.lt
            have X2 := Blk.new w2 [.int .u64 (ww3 1), .int .u64 (ww2 1), .int .u64 (ww1 1), .int .u64 (ww0 1)] 26 rfl
            rw [show ([.int .u64 (ww3 1), .int .u64 (ww2 1), .int .u64 (ww1 1), .int .u64 (ww0 1)] : List Value).toArray = #[.int .u64 (ww3 1), .int .u64 (ww2 1), .int .u64 (ww1 1), .int .u64 (ww0 1)] from rfl] at X2
            replace HB := HB.alloc HB.size (Obj.cells #[.int .u64 (ww3 1), .int .u64 (ww2 1), .int .u64 (ww1 1), .int .u64 (ww0 1)] 26)
            replace R0 := R0.alloc (Obj.cells #[.int .u64 (ww3 1), .int .u64 (ww2 1), .int .u64 (ww1 1), .int .u64 (ww0 1)] 26)
            replace X1 := X1.alloc (Obj.cells #[.int .u64 (ww3 1), .int .u64 (ww2 1), .int .u64 (ww1 1), .int .u64 (ww0 1)] 26)
            go_wp2_with fail
            generalize w2.heap.size = g2 at *
            generalize (w2.alloc (Obj.cells #[.int .u64 (ww3 1), .int .u64 (ww2 1), .int .u64 (ww1 1), .int .u64 (ww0 1)] 26)) = W2 at *
            refine (CB _).mono ?_
            rintro e w3 ⟨rfl, hB⟩
            replace HB := HB.trans (hB.mono HB.size)
            replace R0 := R0.step hB
            replace X1 := X1.step hB
            replace X2 := X2.step hB
            clear hB CB
            obtain ⟨c0, c1, c2, c3⟩ := X1.cs4
            obtain ⟨d0, f0, d1, f1, d2, f2, d3, f3⟩ := X2.cf4
            have dl2 := X2.lt
            have n12 : ¬ (g1 = g2) := by omega
            have n21 : ¬ (g2 = g1) := by omega
            have n02 : ¬ (w.heap.size = g2) := by omega
            have n20 : ¬ (g2 = w.heap.size) := by omega
            replace HB : Below w.heap.size w ((((w3.setCell ⟨g2, 0, none⟩ (.int .u64 (ww3 d))).setCell ⟨g2, 1, none⟩ (.int .u64 (ww2 d))).setCell ⟨g2, 2, none⟩ (.int .u64 (ww1 d))).setCell ⟨g2, 3, none⟩ (.int .u64 (ww0 d))) := tell_below HB (by omega)
            replace R0 := R0.set4 (v0 := .int .u64 (ww3 d)) (v1 := .int .u64 (ww2 d)) (v2 := .int .u64 (ww1 d)) (v3 := .int .u64 (ww0 d)) n02
            go_upto_region 15 with fail
            clear c0 c1 c2 c3 d0 f0 d1 f1 d2 f2 d3 f3 dl2 X1 X2
            have X3 := Blk.new ((((w3.setCell ⟨g2, 0, none⟩ (.int .u64 (ww3 d))).setCell ⟨g2, 1, none⟩ (.int .u64 (ww2 d))).setCell ⟨g2, 2, none⟩ (.int .u64 (ww1 d))).setCell ⟨g2, 3, none⟩ (.int .u64 (ww0 d))) [.int .u64 (ww3 x), .int .u64 (ww2 x), .int .u64 (ww1 x), .int .u64 (ww0 x), .int .u64 (ww3 d), .int .u64 (ww2 d), .int .u64 (ww1 d), .int .u64 (ww0 d)] 37 (g := w3.heap.size) (by simp)
            rw [show ([.int .u64 (ww3 x), .int .u64 (ww2 x), .int .u64 (ww1 x), .int .u64 (ww0 x), .int .u64 (ww3 d), .int .u64 (ww2 d), .int .u64 (ww1 d), .int .u64 (ww0 d)] : List Value).toArray = #[.int .u64 (ww3 x), .int .u64 (ww2 x), .int .u64 (ww1 x), .int .u64 (ww0 x), .int .u64 (ww3 d), .int .u64 (ww2 d), .int .u64 (ww1 d), .int .u64 (ww0 d)] from rfl] at X3
            replace HB := HB.alloc HB.size (Obj.cells #[.int .u64 (ww3 x), .int .u64 (ww2 x), .int .u64 (ww1 x), .int .u64 (ww0 x), .int .u64 (ww3 d), .int .u64 (ww2 d), .int .u64 (ww1 d), .int .u64 (ww0 d)] 37)
            replace R0 := R0.alloc (Obj.cells #[.int .u64 (ww3 x), .int .u64 (ww2 x), .int .u64 (ww1 x), .int .u64 (ww0 x), .int .u64 (ww3 d), .int .u64 (ww2 d), .int .u64 (ww1 d), .int .u64 (ww0 d)] 37)
            generalize w3.heap.size = g3 at *
            generalize (((((w3.setCell ⟨g2, 0, none⟩ (.int .u64 (ww3 d))).setCell ⟨g2, 1, none⟩ (.int .u64 (ww2 d))).setCell ⟨g2, 2, none⟩ (.int .u64 (ww1 d))).setCell ⟨g2, 3, none⟩ (.int .u64 (ww0 d))).alloc (Obj.cells #[.int .u64 (ww3 x), .int .u64 (ww2 x), .int .u64 (ww1 x), .int .u64 (ww0 x), .int .u64 (ww3 d), .int .u64 (ww2 d), .int .u64 (ww1 d), .int .u64 (ww0 d)] 37)) = W4 at *
            clear X3
            have dl := R0.lt
            have o0 := R0.c 0 rfl; have q0 := R0.f 0 rfl; have o1 := R0.c 1 rfl; have q1 := R0.f 1 rfl; have o2 := R0.c 2 rfl; have q2 := R0.f 2 rfl; have o3 := R0.c 3 rfl; have q3 := R0.f 3 rfl; have o4 := R0.c 4 rfl; have q4 := R0.f 4 rfl; have o5 := R0.c 5 rfl; have q5 := R0.f 5 rfl; have o6 := R0.c 6 rfl; have q6 := R0.f 6 rfl; have o7 := R0.c 7 rfl; have q7 := R0.f 7 rfl
            go_wp2
            refine bodyPost_ret (v := .tuple #[.agg #[.int .u64 0, .int .u64 0, .int .u64 0, .int .u64 0, .int .u64 0, .int .u64 0, .int .u64 0, .int .u64 0], .bool false]) (by simp [results, Try.results21, go_sem, o0, o1, o2, o3, o4, o5, o6, o7]) rfl ?_
            refine ⟨by rw [HV.out], ?_⟩
            repeat' (refine Below.setCell ?_ (by simp; try omega) _)
            exact HB
          · obtain ⟨hA1, hA2⟩ := HA rfl rfl
            clear HA HC HD
            by_cases hT : T = s
            · have HV : Hid (rrV (btL s) = .tuple #[.agg #[.int .u64 (ww3 x), .int .u64 (ww2 x), .int .u64 (ww1 x), .int .u64 (ww0 x), .int .u64 (ww3 d), .int .u64 (ww2 d), .int .u64 (ww1 d), .int .u64 (ww0 d)], .bool true]) := hA1 hT
              have e1 : (T.toList == s.toList) = true := by rw [hT]; exact beq_iff_eq.2 rfl
              clear hA1 hA2 hT
              go_wp2_with fail
              refine (CA _).mono ?_
              rintro e w1 ⟨rfl, hB⟩
              replace HB := HB.trans (hB.mono HB.size)
              replace R0 := R0.step hB
              clear hB CA
              have X1 := Blk.new w1 [.int .u64 (ww3 x), .int .u64 (ww2 x), .int .u64 (ww1 x), .int .u64 (ww0 x)] 26 rfl
              rw [show ([.int .u64 (ww3 x), .int .u64 (ww2 x), .int .u64 (ww1 x), .int .u64 (ww0 x)] : List Value).toArray = #[.int .u64 (ww3 x), .int .u64 (ww2 x), .int .u64 (ww1 x), .int .u64 (ww0 x)] from rfl] at X1
              replace HB := HB.alloc HB.size (Obj.cells #[.int .u64 (ww3 x), .int .u64 (ww2 x), .int .u64 (ww1 x), .int .u64 (ww0 x)] 26)
              replace R0 := R0.alloc (Obj.cells #[.int .u64 (ww3 x), .int .u64 (ww2 x), .int .u64 (ww1 x), .int .u64 (ww0 x)] 26)
              go_wp2_with fail
              generalize w1.heap.size = g1 at *
              generalize (w1.alloc (Obj.cells #[.int .u64 (ww3 x), .int .u64 (ww2 x), .int .u64 (ww1 x), .int .u64 (ww0 x)] 26)) = W1 at *
              refine (C1 _).mono ?_
              rintro e w2 ⟨rfl, hB⟩
              replace HB := HB.trans (hB.mono HB.size)
              replace R0 := R0.step hB
              replace X1 := X1.step hB
              clear hB C1
              have hl1 := X1.lt
              have hl0 := R0.lt
              have X2 := Blk.new w2 [.int .u64 (ww3 1), .int .u64 (ww2 1), .int .u64 (ww1 1), .int .u64 (ww0 1)] 26 rfl
              rw [show ([.int .u64 (ww3 1), .int .u64 (ww2 1), .int .u64 (ww1 1), .int .u64 (ww0 1)] : List Value).toArray = #[.int .u64 (ww3 1), .int .u64 (ww2 1), .int .u64 (ww1 1), .int .u64 (ww0 1)] from rfl] at X2
              replace HB := HB.alloc HB.size (Obj.cells #[.int .u64 (ww3 1), .int .u64 (ww2 1), .int .u64 (ww1 1), .int .u64 (ww0 1)] 26)
              replace R0 := R0.alloc (Obj.cells #[.int .u64 (ww3 1), .int .u64 (ww2 1), .int .u64 (ww1 1), .int .u64 (ww0 1)] 26)
              replace X1 := X1.alloc (Obj.cells #[.int .u64 (ww3 1), .int .u64 (ww2 1), .int .u64 (ww1 1), .int .u64 (ww0 1)] 26)
              go_wp2_with fail
              generalize w2.heap.size = g2 at *
              generalize (w2.alloc (Obj.cells #[.int .u64 (ww3 1), .int .u64 (ww2 1), .int .u64 (ww1 1), .int .u64 (ww0 1)] 26)) = W2 at *
              refine (CB _).mono ?_
              rintro e w3 ⟨rfl, hB⟩
              replace HB := HB.trans (hB.mono HB.size)
              replace R0 := R0.step hB
              replace X1 := X1.step hB
              replace X2 := X2.step hB
              clear hB CB
              obtain ⟨c0, c1, c2, c3⟩ := X1.cs4
              obtain ⟨d0, f0, d1, f1, d2, f2, d3, f3⟩ := X2.cf4
              have dl2 := X2.lt
              have n12 : ¬ (g1 = g2) := by omega
              have n21 : ¬ (g2 = g1) := by omega
              have n02 : ¬ (w.heap.size = g2) := by omega
              have n20 : ¬ (g2 = w.heap.size) := by omega
              replace HB : Below w.heap.size w ((((w3.setCell ⟨g2, 0, none⟩ (.int .u64 (ww3 d))).setCell ⟨g2, 1, none⟩ (.int .u64 (ww2 d))).setCell ⟨g2, 2, none⟩ (.int .u64 (ww1 d))).setCell ⟨g2, 3, none⟩ (.int .u64 (ww0 d))) := tell_below HB (by omega)
              replace R0 := R0.set4 (v0 := .int .u64 (ww3 d)) (v1 := .int .u64 (ww2 d)) (v2 := .int .u64 (ww1 d)) (v3 := .int .u64 (ww0 d)) n02
              go_upto_region 15 with fail
              clear c0 c1 c2 c3 d0 f0 d1 f1 d2 f2 d3 f3 dl2 X1 X2
              have X3 := Blk.new ((((w3.setCell ⟨g2, 0, none⟩ (.int .u64 (ww3 d))).setCell ⟨g2, 1, none⟩ (.int .u64 (ww2 d))).setCell ⟨g2, 2, none⟩ (.int .u64 (ww1 d))).setCell ⟨g2, 3, none⟩ (.int .u64 (ww0 d))) [.int .u64 (ww3 x), .int .u64 (ww2 x), .int .u64 (ww1 x), .int .u64 (ww0 x), .int .u64 (ww3 d), .int .u64 (ww2 d), .int .u64 (ww1 d), .int .u64 (ww0 d)] 37 (g := w3.heap.size) (by simp)
              rw [show ([.int .u64 (ww3 x), .int .u64 (ww2 x), .int .u64 (ww1 x), .int .u64 (ww0 x), .int .u64 (ww3 d), .int .u64 (ww2 d), .int .u64 (ww1 d), .int .u64 (ww0 d)] : List Value).toArray = #[.int .u64 (ww3 x), .int .u64 (ww2 x), .int .u64 (ww1 x), .int .u64 (ww0 x), .int .u64 (ww3 d), .int .u64 (ww2 d), .int .u64 (ww1 d), .int .u64 (ww0 d)] from rfl] at X3
              replace HB := HB.alloc HB.size (Obj.cells #[.int .u64 (ww3 x), .int .u64 (ww2 x), .int .u64 (ww1 x), .int .u64 (ww0 x), .int .u64 (ww3 d), .int .u64 (ww2 d), .int .u64 (ww1 d), .int .u64 (ww0 d)] 37)
              replace R0 := R0.alloc (Obj.cells #[.int .u64 (ww3 x), .int .u64 (ww2 x), .int .u64 (ww1 x), .int .u64 (ww0 x), .int .u64 (ww3 d), .int .u64 (ww2 d), .int .u64 (ww1 d), .int .u64 (ww0 d)] 37)
              generalize w3.heap.size = g3 at *
              generalize (((((w3.setCell ⟨g2, 0, none⟩ (.int .u64 (ww3 d))).setCell ⟨g2, 1, none⟩ (.int .u64 (ww2 d))).setCell ⟨g2, 2, none⟩ (.int .u64 (ww1 d))).setCell ⟨g2, 3, none⟩ (.int .u64 (ww0 d))).alloc (Obj.cells #[.int .u64 (ww3 x), .int .u64 (ww2 x), .int .u64 (ww1 x), .int .u64 (ww0 x), .int .u64 (ww3 d), .int .u64 (ww2 d), .int .u64 (ww1 d), .int .u64 (ww0 d)] 37)) = W4 at *
              obtain ⟨c0, c1, c2, c3, c4, c5, c6, c7⟩ := X3.cs8
              go_wp2_with fail
              clear c0 c1 c2 c3 c4 c5 c6 c7
              refine (CT _).mono ?_
              rintro e w5 ⟨rfl, hB⟩
              replace HB := HB.trans (hB.mono HB.size)
              replace R0 := R0.step hB
              replace X3 := X3.step hB
              clear hB CT
              obtain ⟨c0, c1, c2, c3, c4, c5, c6, c7⟩ := X3.cs8
              have dl := R0.lt
              have o0 := R0.c 0 rfl; have q0 := R0.f 0 rfl; have o1 := R0.c 1 rfl; have q1 := R0.f 1 rfl; have o2 := R0.c 2 rfl; have q2 := R0.f 2 rfl; have o3 := R0.c 3 rfl; have q3 := R0.f 3 rfl; have o4 := R0.c 4 rfl; have q4 := R0.f 4 rfl; have o5 := R0.c 5 rfl; have q5 := R0.f 5 rfl; have o6 := R0.c 6 rfl; have q6 := R0.f 6 rfl; have o7 := R0.c 7 rfl; have q7 := R0.f 7 rfl
              go_wp2
              refine bodyPost_ret (v := .tuple #[.agg #[.int .u64 (ww3 x), .int .u64 (ww2 x), .int .u64 (ww1 x), .int .u64 (ww0 x), .int .u64 (ww3 d), .int .u64 (ww2 d), .int .u64 (ww1 d), .int .u64 (ww0 d)], .bool true]) (by simp [results, Try.results21, go_sem, o0, o1, o2, o3, o4, o5, o6, o7]) rfl ?_
              refine ⟨by rw [HV.out], ?_⟩
              repeat' (refine Below.setCell ?_ (by simp; try omega) _)
              exact HB
            · have HV : Hid (rrV (btL s) = .tuple #[.agg #[.int .u64 0, .int .u64 0, .int .u64 0, .int .u64 0, .int .u64 0, .int .u64 0, .int .u64 0, .int .u64 0], .bool false]) := hA2 hT
              have e1 : (T.toList == s.toList) = false := beq_eq_false_iff_ne.2 fun h => hT (btL_inj (by rw [tl_btL, tl_btL, h]))
              clear hA1 hA2 hT
              go_wp2_with fail
              refine (CA _).mono ?_
              rintro e w1 ⟨rfl, hB⟩
              replace HB := HB.trans (hB.mono HB.size)
              replace R0 := R0.step hB
              clear hB CA
              have X1 := Blk.new w1 [.int .u64 (ww3 x), .int .u64 (ww2 x), .int .u64 (ww1 x), .int .u64 (ww0 x)] 26 rfl
              rw [show ([.int .u64 (ww3 x), .int .u64 (ww2 x), .int .u64 (ww1 x), .int .u64 (ww0 x)] : List Value).toArray = #[.int .u64 (ww3 x), .int .u64 (ww2 x), .int .u64 (ww1 x), .int .u64 (ww0 x)] from rfl] at X1
              replace HB := HB.alloc HB.size (Obj.cells #[.int .u64 (ww3 x), .int .u64 (ww2 x), .int .u64 (ww1 x), .int .u64 (ww0 x)] 26)
              replace R0 := R0.alloc (Obj.cells #[.int .u64 (ww3 x), .int .u64 (ww2 x), .int .u64 (ww1 x), .int .u64 (ww0 x)] 26)
              go_wp2_with fail
              generalize w1.heap.size = g1 at *
              generalize (w1.alloc (Obj.cells #[.int .u64 (ww3 x), .int .u64 (ww2 x), .int .u64 (ww1 x), .int .u64 (ww0 x)] 26)) = W1 at *
              refine (C1 _).mono ?_
              rintro e w2 ⟨rfl, hB⟩
              replace HB := HB.trans (hB.mono HB.size)
              replace R0 := R0.step hB
              replace X1 := X1.step hB
              clear hB C1
              have hl1 := X1.lt
              have hl0 := R0.lt
              have X2 := Blk.new w2 [.int .u64 (ww3 1), .int .u64 (ww2 1), .int .u64 (ww1 1), .int .u64 (ww0 1)] 26 rfl
              rw [show ([.int .u64 (ww3 1), .int .u64 (ww2 1), .int .u64 (ww1 1), .int .u64 (ww0 1)] : List Value).toArray = #[.int .u64 (ww3 1), .int .u64 (ww2 1), .int .u64 (ww1 1), .int .u64 (ww0 1)] from rfl] at X2
              replace HB := HB.alloc HB.size (Obj.cells #[.int .u64 (ww3 1), .int .u64 (ww2 1), .int .u64 (ww1 1), .int .u64 (ww0 1)] 26)
              replace R0 := R0.alloc (Obj.cells #[.int .u64 (ww3 1), .int .u64 (ww2 1), .int .u64 (ww1 1), .int .u64 (ww0 1)] 26)
              replace X1 := X1.alloc (Obj.cells #[.int .u64 (ww3 1), .int .u64 (ww2 1), .int .u64 (ww1 1), .int .u64 (ww0 1)] 26)
              go_wp2_with fail
              generalize w2.heap.size = g2 at *
              generalize (w2.alloc (Obj.cells #[.int .u64 (ww3 1), .int .u64 (ww2 1), .int .u64 (ww1 1), .int .u64 (ww0 1)] 26)) = W2 at *
              refine (CB _).mono ?_
              rintro e w3 ⟨rfl, hB⟩
              replace HB := HB.trans (hB.mono HB.size)
              replace R0 := R0.step hB
              replace X1 := X1.step hB
              replace X2 := X2.step hB
              clear hB CB
              obtain ⟨c0, c1, c2, c3⟩ := X1.cs4
              obtain ⟨d0, f0, d1, f1, d2, f2, d3, f3⟩ := X2.cf4
              have dl2 := X2.lt
              have n12 : ¬ (g1 = g2) := by omega
              have n21 : ¬ (g2 = g1) := by omega
              have n02 : ¬ (w.heap.size = g2) := by omega
              have n20 : ¬ (g2 = w.heap.size) := by omega
              replace HB : Below w.heap.size w ((((w3.setCell ⟨g2, 0, none⟩ (.int .u64 (ww3 d))).setCell ⟨g2, 1, none⟩ (.int .u64 (ww2 d))).setCell ⟨g2, 2, none⟩ (.int .u64 (ww1 d))).setCell ⟨g2, 3, none⟩ (.int .u64 (ww0 d))) := tell_below HB (by omega)
              replace R0 := R0.set4 (v0 := .int .u64 (ww3 d)) (v1 := .int .u64 (ww2 d)) (v2 := .int .u64 (ww1 d)) (v3 := .int .u64 (ww0 d)) n02
              go_upto_region 15 with fail
              clear c0 c1 c2 c3 d0 f0 d1 f1 d2 f2 d3 f3 dl2 X1 X2
              have X3 := Blk.new ((((w3.setCell ⟨g2, 0, none⟩ (.int .u64 (ww3 d))).setCell ⟨g2, 1, none⟩ (.int .u64 (ww2 d))).setCell ⟨g2, 2, none⟩ (.int .u64 (ww1 d))).setCell ⟨g2, 3, none⟩ (.int .u64 (ww0 d))) [.int .u64 (ww3 x), .int .u64 (ww2 x), .int .u64 (ww1 x), .int .u64 (ww0 x), .int .u64 (ww3 d), .int .u64 (ww2 d), .int .u64 (ww1 d), .int .u64 (ww0 d)] 37 (g := w3.heap.size) (by simp)
              rw [show ([.int .u64 (ww3 x), .int .u64 (ww2 x), .int .u64 (ww1 x), .int .u64 (ww0 x), .int .u64 (ww3 d), .int .u64 (ww2 d), .int .u64 (ww1 d), .int .u64 (ww0 d)] : List Value).toArray = #[.int .u64 (ww3 x), .int .u64 (ww2 x), .int .u64 (ww1 x), .int .u64 (ww0 x), .int .u64 (ww3 d), .int .u64 (ww2 d), .int .u64 (ww1 d), .int .u64 (ww0 d)] from rfl] at X3
              replace HB := HB.alloc HB.size (Obj.cells #[.int .u64 (ww3 x), .int .u64 (ww2 x), .int .u64 (ww1 x), .int .u64 (ww0 x), .int .u64 (ww3 d), .int .u64 (ww2 d), .int .u64 (ww1 d), .int .u64 (ww0 d)] 37)
              replace R0 := R0.alloc (Obj.cells #[.int .u64 (ww3 x), .int .u64 (ww2 x), .int .u64 (ww1 x), .int .u64 (ww0 x), .int .u64 (ww3 d), .int .u64 (ww2 d), .int .u64 (ww1 d), .int .u64 (ww0 d)] 37)
              generalize w3.heap.size = g3 at *
              generalize (((((w3.setCell ⟨g2, 0, none⟩ (.int .u64 (ww3 d))).setCell ⟨g2, 1, none⟩ (.int .u64 (ww2 d))).setCell ⟨g2, 2, none⟩ (.int .u64 (ww1 d))).setCell ⟨g2, 3, none⟩ (.int .u64 (ww0 d))).alloc (Obj.cells #[.int .u64 (ww3 x), .int .u64 (ww2 x), .int .u64 (ww1 x), .int .u64 (ww0 x), .int .u64 (ww3 d), .int .u64 (ww2 d), .int .u64 (ww1 d), .int .u64 (ww0 d)] 37)) = W4 at *
              obtain ⟨c0, c1, c2, c3, c4, c5, c6, c7⟩ := X3.cs8
              go_wp2_with fail
              clear c0 c1 c2 c3 c4 c5 c6 c7
              refine (CT _).mono ?_
              rintro e w5 ⟨rfl, hB⟩
              replace HB := HB.trans (hB.mono HB.size)
              replace R0 := R0.step hB
              replace X3 := X3.step hB
              clear hB CT
              have dl := R0.lt
              have o0 := R0.c 0 rfl; have q0 := R0.f 0 rfl; have o1 := R0.c 1 rfl; have q1 := R0.f 1 rfl; have o2 := R0.c 2 rfl; have q2 := R0.f 2 rfl; have o3 := R0.c 3 rfl; have q3 := R0.f 3 rfl; have o4 := R0.c 4 rfl; have q4 := R0.f 4 rfl; have o5 := R0.c 5 rfl; have q5 := R0.f 5 rfl; have o6 := R0.c 6 rfl; have q6 := R0.f 6 rfl; have o7 := R0.c 7 rfl; have q7 := R0.f 7 rfl
              go_wp2
              refine bodyPost_ret (v := .tuple #[.agg #[.int .u64 0, .int .u64 0, .int .u64 0, .int .u64 0, .int .u64 0, .int .u64 0, .int .u64 0, .int .u64 0], .bool false]) (by simp [results, Try.results21, go_sem, o0, o1, o2, o3, o4, o5, o6, o7]) rfl ?_
              refine ⟨by rw [HV.out], ?_⟩
              repeat' (refine Below.setCell ?_ (by simp; try omega) _)
              exact HB
      · have CT := specRatText_det x 1 hx told_one
        have HA := fun (h1 : ok = true) => rr_again hx told_one (ry h1) (fun h => absurd h h47) (fun _ => rfl)
        have HC := fun (h1 : ok = false) => (rrV_no (l := btL s) fun x' y' h => rn h1 x' h.1 (ra_cut (txL_47 x') h.2.2.2).1)
        have i1 : ¬ (((cutA 47 (btL s)).length : Int) < s.size) := by
          rw [(cut_not h47).1, btL_len]
          omega
        have i5 : ((cutA 47 (btL s)).length : Int) ≤ s.size := by omega
        clear ry rn hr h47
        generalize (cutA 47 (btL s)).length = k at *
        generalize strL (cutA 47 (btL s)) = A at *
        generalize strL (if rightB x 1 = true then raL x 1 else []) = T at *
        cases ok
        · have HV : Hid (rrV (btL s) = .tuple #[.agg #[.int .u64 0, .int .u64 0, .int .u64 0, .int .u64 0, .int .u64 0, .int .u64 0, .int .u64 0, .int .u64 0], .bool false]) := HC rfl
          clear HA HC CT
          go_wp2_with fail
          refine (CA _).mono ?_
          rintro e w1 ⟨rfl, hB⟩
          replace HB := HB.trans (hB.mono HB.size)
          replace R0 := R0.step hB
          clear hB CA
          have X1 := Blk.new w1 [.int .u64 (ww3 x), .int .u64 (ww2 x), .int .u64 (ww1 x), .int .u64 (ww0 x)] 26 rfl
          rw [show ([.int .u64 (ww3 x), .int .u64 (ww2 x), .int .u64 (ww1 x), .int .u64 (ww0 x)] : List Value).toArray = #[.int .u64 (ww3 x), .int .u64 (ww2 x), .int .u64 (ww1 x), .int .u64 (ww0 x)] from rfl] at X1
          replace HB := HB.alloc HB.size (Obj.cells #[.int .u64 (ww3 x), .int .u64 (ww2 x), .int .u64 (ww1 x), .int .u64 (ww0 x)] 26)
          replace R0 := R0.alloc (Obj.cells #[.int .u64 (ww3 x), .int .u64 (ww2 x), .int .u64 (ww1 x), .int .u64 (ww0 x)] 26)
          go_wp2_with fail
          generalize w1.heap.size = g1 at *
          generalize (w1.alloc (Obj.cells #[.int .u64 (ww3 x), .int .u64 (ww2 x), .int .u64 (ww1 x), .int .u64 (ww0 x)] 26)) = W1 at *
          refine (C1 _).mono ?_
          rintro e w2 ⟨rfl, hB⟩
          replace HB := HB.trans (hB.mono HB.size)
          replace R0 := R0.step hB
          replace X1 := X1.step hB
          clear hB C1
          have hl1 := X1.lt
          have hl0 := R0.lt
          have X2 := Blk.new w2 [.int .u64 (ww3 1), .int .u64 (ww2 1), .int .u64 (ww1 1), .int .u64 (ww0 1)] 26 rfl
          rw [show ([.int .u64 (ww3 1), .int .u64 (ww2 1), .int .u64 (ww1 1), .int .u64 (ww0 1)] : List Value).toArray = #[.int .u64 (ww3 1), .int .u64 (ww2 1), .int .u64 (ww1 1), .int .u64 (ww0 1)] from rfl] at X2
          replace HB := HB.alloc HB.size (Obj.cells #[.int .u64 (ww3 1), .int .u64 (ww2 1), .int .u64 (ww1 1), .int .u64 (ww0 1)] 26)
          replace R0 := R0.alloc (Obj.cells #[.int .u64 (ww3 1), .int .u64 (ww2 1), .int .u64 (ww1 1), .int .u64 (ww0 1)] 26)
          replace X1 := X1.alloc (Obj.cells #[.int .u64 (ww3 1), .int .u64 (ww2 1), .int .u64 (ww1 1), .int .u64 (ww0 1)] 26)
          obtain ⟨c0, c1, c2, c3⟩ := X1.cs4
          obtain ⟨d0, d1, d2, d3⟩ := X2.cs4
          go_upto_region 15 with fail
          clear c0 c1 c2 c3 d0 d1 d2 d3 X1 X2 hl1 hl0
          have X3 := Blk.new (w2.alloc (Obj.cells #[.int .u64 (ww3 1), .int .u64 (ww2 1), .int .u64 (ww1 1), .int .u64 (ww0 1)] 26)) [.int .u64 (ww3 x), .int .u64 (ww2 x), .int .u64 (ww1 x), .int .u64 (ww0 x), .int .u64 (ww3 1), .int .u64 (ww2 1), .int .u64 (ww1 1), .int .u64 (ww0 1)] 37 (g := w2.heap.size + 1) (by simp)
          rw [show ([.int .u64 (ww3 x), .int .u64 (ww2 x), .int .u64 (ww1 x), .int .u64 (ww0 x), .int .u64 (ww3 1), .int .u64 (ww2 1), .int .u64 (ww1 1), .int .u64 (ww0 1)] : List Value).toArray = #[.int .u64 (ww3 x), .int .u64 (ww2 x), .int .u64 (ww1 x), .int .u64 (ww0 x), .int .u64 (ww3 1), .int .u64 (ww2 1), .int .u64 (ww1 1), .int .u64 (ww0 1)] from rfl] at X3
          replace HB := HB.alloc HB.size (Obj.cells #[.int .u64 (ww3 x), .int .u64 (ww2 x), .int .u64 (ww1 x), .int .u64 (ww0 x), .int .u64 (ww3 1), .int .u64 (ww2 1), .int .u64 (ww1 1), .int .u64 (ww0 1)] 37)
          replace R0 := R0.alloc (Obj.cells #[.int .u64 (ww3 x), .int .u64 (ww2 x), .int .u64 (ww1 x), .int .u64 (ww0 x), .int .u64 (ww3 1), .int .u64 (ww2 1), .int .u64 (ww1 1), .int .u64 (ww0 1)] 37)
          generalize w2.heap.size + 1 = g3 at *
          generalize ((w2.alloc (Obj.cells #[.int .u64 (ww3 1), .int .u64 (ww2 1), .int .u64 (ww1 1), .int .u64 (ww0 1)] 26)).alloc (Obj.cells #[.int .u64 (ww3 x), .int .u64 (ww2 x), .int .u64 (ww1 x), .int .u64 (ww0 x), .int .u64 (ww3 1), .int .u64 (ww2 1), .int .u64 (ww1 1), .int .u64 (ww0 1)] 37)) = W4 at *
          clear X3
          have dl := R0.lt
          have o0 := R0.c 0 rfl; have q0 := R0.f 0 rfl; have o1 := R0.c 1 rfl; have q1 := R0.f 1 rfl; have o2 := R0.c 2 rfl; have q2 := R0.f 2 rfl; have o3 := R0.c 3 rfl; have q3 := R0.f 3 rfl; have o4 := R0.c 4 rfl; have q4 := R0.f 4 rfl; have o5 := R0.c 5 rfl; have q5 := R0.f 5 rfl; have o6 := R0.c 6 rfl; have q6 := R0.f 6 rfl; have o7 := R0.c 7 rfl; have q7 := R0.f 7 rfl
          go_wp2
          refine bodyPost_ret (v := .tuple #[.agg #[.int .u64 0, .int .u64 0, .int .u64 0, .int .u64 0, .int .u64 0, .int .u64 0, .int .u64 0, .int .u64 0], .bool false]) (by simp [results, Try.results21, go_sem, o0, o1, o2, o3, o4, o5, o6, o7]) rfl ?_
          refine ⟨by rw [HV.out], ?_⟩
          repeat' (refine Below.setCell ?_ (by simp; try omega) _)
          exact HB
        · obtain ⟨hA1, hA2⟩ := HA rfl
          clear HA HC
          by_cases hT : T = s
          · have HV : Hid (rrV (btL s) = .tuple #[.agg #[.int .u64 (ww3 x), .int .u64 (ww2 x), .int .u64 (ww1 x), .int .u64 (ww0 x), .int .u64 (ww3 1), .int .u64 (ww2 1), .int .u64 (ww1 1), .int .u64 (ww0 1)], .bool true]) := hA1 hT
            have e1 : (T.toList == s.toList) = true := by rw [hT]; exact beq_iff_eq.2 rfl
            clear hA1 hA2 hT
            go_wp2_with fail
            refine (CA _).mono ?_
            rintro e w1 ⟨rfl, hB⟩
            replace HB := HB.trans (hB.mono HB.size)
            replace R0 := R0.step hB
            clear hB CA
            have X1 := Blk.new w1 [.int .u64 (ww3 x), .int .u64 (ww2 x), .int .u64 (ww1 x), .int .u64 (ww0 x)] 26 rfl
            rw [show ([.int .u64 (ww3 x), .int .u64 (ww2 x), .int .u64 (ww1 x), .int .u64 (ww0 x)] : List Value).toArray = #[.int .u64 (ww3 x), .int .u64 (ww2 x), .int .u64 (ww1 x), .int .u64 (ww0 x)] from rfl] at X1
            replace HB := HB.alloc HB.size (Obj.cells #[.int .u64 (ww3 x), .int .u64 (ww2 x), .int .u64 (ww1 x), .int .u64 (ww0 x)] 26)
            replace R0 := R0.alloc (Obj.cells #[.int .u64 (ww3 x), .int .u64 (ww2 x), .int .u64 (ww1 x), .int .u64 (ww0 x)] 26)
            go_wp2_with fail
            generalize w1.heap.size = g1 at *
            generalize (w1.alloc (Obj.cells #[.int .u64 (ww3 x), .int .u64 (ww2 x), .int .u64 (ww1 x), .int .u64 (ww0 x)] 26)) = W1 at *
            refine (C1 _).mono ?_
            rintro e w2 ⟨rfl, hB⟩
            replace HB := HB.trans (hB.mono HB.size)
            replace R0 := R0.step hB
            replace X1 := X1.step hB
            clear hB C1
            have hl1 := X1.lt
            have hl0 := R0.lt
            have X2 := Blk.new w2 [.int .u64 (ww3 1), .int .u64 (ww2 1), .int .u64 (ww1 1), .int .u64 (ww0 1)] 26 rfl
            rw [show ([.int .u64 (ww3 1), .int .u64 (ww2 1), .int .u64 (ww1 1), .int .u64 (ww0 1)] : List Value).toArray = #[.int .u64 (ww3 1), .int .u64 (ww2 1), .int .u64 (ww1 1), .int .u64 (ww0 1)] from rfl] at X2
            replace HB := HB.alloc HB.size (Obj.cells #[.int .u64 (ww3 1), .int .u64 (ww2 1), .int .u64 (ww1 1), .int .u64 (ww0 1)] 26)
            replace R0 := R0.alloc (Obj.cells #[.int .u64 (ww3 1), .int .u64 (ww2 1), .int .u64 (ww1 1), .int .u64 (ww0 1)] 26)
            replace X1 := X1.alloc (Obj.cells #[.int .u64 (ww3 1), .int .u64 (ww2 1), .int .u64 (ww1 1), .int .u64 (ww0 1)] 26)
            obtain ⟨c0, c1, c2, c3⟩ := X1.cs4
            obtain ⟨d0, d1, d2, d3⟩ := X2.cs4
            go_upto_region 15 with fail
            clear c0 c1 c2 c3 d0 d1 d2 d3 X1 X2 hl1 hl0
            have X3 := Blk.new (w2.alloc (Obj.cells #[.int .u64 (ww3 1), .int .u64 (ww2 1), .int .u64 (ww1 1), .int .u64 (ww0 1)] 26)) [.int .u64 (ww3 x), .int .u64 (ww2 x), .int .u64 (ww1 x), .int .u64 (ww0 x), .int .u64 (ww3 1), .int .u64 (ww2 1), .int .u64 (ww1 1), .int .u64 (ww0 1)] 37 (g := w2.heap.size + 1) (by simp)
            rw [show ([.int .u64 (ww3 x), .int .u64 (ww2 x), .int .u64 (ww1 x), .int .u64 (ww0 x), .int .u64 (ww3 1), .int .u64 (ww2 1), .int .u64 (ww1 1), .int .u64 (ww0 1)] : List Value).toArray = #[.int .u64 (ww3 x), .int .u64 (ww2 x), .int .u64 (ww1 x), .int .u64 (ww0 x), .int .u64 (ww3 1), .int .u64 (ww2 1), .int .u64 (ww1 1), .int .u64 (ww0 1)] from rfl] at X3
            replace HB := HB.alloc HB.size (Obj.cells #[.int .u64 (ww3 x), .int .u64 (ww2 x), .int .u64 (ww1 x), .int .u64 (ww0 x), .int .u64 (ww3 1), .int .u64 (ww2 1), .int .u64 (ww1 1), .int .u64 (ww0 1)] 37)
            replace R0 := R0.alloc (Obj.cells #[.int .u64 (ww3 x), .int .u64 (ww2 x), .int .u64 (ww1 x), .int .u64 (ww0 x), .int .u64 (ww3 1), .int .u64 (ww2 1), .int .u64 (ww1 1), .int .u64 (ww0 1)] 37)
            generalize w2.heap.size + 1 = g3 at *
            generalize ((w2.alloc (Obj.cells #[.int .u64 (ww3 1), .int .u64 (ww2 1), .int .u64 (ww1 1), .int .u64 (ww0 1)] 26)).alloc (Obj.cells #[.int .u64 (ww3 x), .int .u64 (ww2 x), .int .u64 (ww1 x), .int .u64 (ww0 x), .int .u64 (ww3 1), .int .u64 (ww2 1), .int .u64 (ww1 1), .int .u64 (ww0 1)] 37)) = W4 at *
            obtain ⟨c0, c1, c2, c3, c4, c5, c6, c7⟩ := X3.cs8
            go_wp2_with fail
            clear c0 c1 c2 c3 c4 c5 c6 c7
            refine (CT _).mono ?_
            rintro e w5 ⟨rfl, hB⟩
            replace HB := HB.trans (hB.mono HB.size)
            replace R0 := R0.step hB
            replace X3 := X3.step hB
            clear hB CT
            obtain ⟨c0, c1, c2, c3, c4, c5, c6, c7⟩ := X3.cs8
            have dl := R0.lt
            have o0 := R0.c 0 rfl; have q0 := R0.f 0 rfl; have o1 := R0.c 1 rfl; have q1 := R0.f 1 rfl; have o2 := R0.c 2 rfl; have q2 := R0.f 2 rfl; have o3 := R0.c 3 rfl; have q3 := R0.f 3 rfl; have o4 := R0.c 4 rfl; have q4 := R0.f 4 rfl; have o5 := R0.c 5 rfl; have q5 := R0.f 5 rfl; have o6 := R0.c 6 rfl; have q6 := R0.f 6 rfl; have o7 := R0.c 7 rfl; have q7 := R0.f 7 rfl
            go_wp2
            refine bodyPost_ret (v := .tuple #[.agg #[.int .u64 (ww3 x), .int .u64 (ww2 x), .int .u64 (ww1 x), .int .u64 (ww0 x), .int .u64 (ww3 1), .int .u64 (ww2 1), .int .u64 (ww1 1), .int .u64 (ww0 1)], .bool true]) (by simp [results, Try.results21, go_sem, o0, o1, o2, o3, o4, o5, o6, o7]) rfl ?_
            refine ⟨by rw [HV.out], ?_⟩
            repeat' (refine Below.setCell ?_ (by simp; try omega) _)
            exact HB
          · have HV : Hid (rrV (btL s) = .tuple #[.agg #[.int .u64 0, .int .u64 0, .int .u64 0, .int .u64 0, .int .u64 0, .int .u64 0, .int .u64 0, .int .u64 0], .bool false]) := hA2 hT
            have e1 : (T.toList == s.toList) = false := beq_eq_false_iff_ne.2 fun h => hT (btL_inj (by rw [tl_btL, tl_btL, h]))
            clear hA1 hA2 hT
            go_wp2_with fail
            refine (CA _).mono ?_
            rintro e w1 ⟨rfl, hB⟩
            replace HB := HB.trans (hB.mono HB.size)
            replace R0 := R0.step hB
            clear hB CA
            have X1 := Blk.new w1 [.int .u64 (ww3 x), .int .u64 (ww2 x), .int .u64 (ww1 x), .int .u64 (ww0 x)] 26 rfl
            rw [show ([.int .u64 (ww3 x), .int .u64 (ww2 x), .int .u64 (ww1 x), .int .u64 (ww0 x)] : List Value).toArray = #[.int .u64 (ww3 x), .int .u64 (ww2 x), .int .u64 (ww1 x), .int .u64 (ww0 x)] from rfl] at X1
            replace HB := HB.alloc HB.size (Obj.cells #[.int .u64 (ww3 x), .int .u64 (ww2 x), .int .u64 (ww1 x), .int .u64 (ww0 x)] 26)
            replace R0 := R0.alloc (Obj.cells #[.int .u64 (ww3 x), .int .u64 (ww2 x), .int .u64 (ww1 x), .int .u64 (ww0 x)] 26)
            go_wp2_with fail
            generalize w1.heap.size = g1 at *
            generalize (w1.alloc (Obj.cells #[.int .u64 (ww3 x), .int .u64 (ww2 x), .int .u64 (ww1 x), .int .u64 (ww0 x)] 26)) = W1 at *
            refine (C1 _).mono ?_
            rintro e w2 ⟨rfl, hB⟩
            replace HB := HB.trans (hB.mono HB.size)
            replace R0 := R0.step hB
            replace X1 := X1.step hB
            clear hB C1
            have hl1 := X1.lt
            have hl0 := R0.lt
            have X2 := Blk.new w2 [.int .u64 (ww3 1), .int .u64 (ww2 1), .int .u64 (ww1 1), .int .u64 (ww0 1)] 26 rfl
            rw [show ([.int .u64 (ww3 1), .int .u64 (ww2 1), .int .u64 (ww1 1), .int .u64 (ww0 1)] : List Value).toArray = #[.int .u64 (ww3 1), .int .u64 (ww2 1), .int .u64 (ww1 1), .int .u64 (ww0 1)] from rfl] at X2
            replace HB := HB.alloc HB.size (Obj.cells #[.int .u64 (ww3 1), .int .u64 (ww2 1), .int .u64 (ww1 1), .int .u64 (ww0 1)] 26)
            replace R0 := R0.alloc (Obj.cells #[.int .u64 (ww3 1), .int .u64 (ww2 1), .int .u64 (ww1 1), .int .u64 (ww0 1)] 26)
            replace X1 := X1.alloc (Obj.cells #[.int .u64 (ww3 1), .int .u64 (ww2 1), .int .u64 (ww1 1), .int .u64 (ww0 1)] 26)
            obtain ⟨c0, c1, c2, c3⟩ := X1.cs4
            obtain ⟨d0, d1, d2, d3⟩ := X2.cs4
            go_upto_region 15 with fail
            clear c0 c1 c2 c3 d0 d1 d2 d3 X1 X2 hl1 hl0
            have X3 := Blk.new (w2.alloc (Obj.cells #[.int .u64 (ww3 1), .int .u64 (ww2 1), .int .u64 (ww1 1), .int .u64 (ww0 1)] 26)) [.int .u64 (ww3 x), .int .u64 (ww2 x), .int .u64 (ww1 x), .int .u64 (ww0 x), .int .u64 (ww3 1), .int .u64 (ww2 1), .int .u64 (ww1 1), .int .u64 (ww0 1)] 37 (g := w2.heap.size + 1) (by simp)
            rw [show ([.int .u64 (ww3 x), .int .u64 (ww2 x), .int .u64 (ww1 x), .int .u64 (ww0 x), .int .u64 (ww3 1), .int .u64 (ww2 1), .int .u64 (ww1 1), .int .u64 (ww0 1)] : List Value).toArray = #[.int .u64 (ww3 x), .int .u64 (ww2 x), .int .u64 (ww1 x), .int .u64 (ww0 x), .int .u64 (ww3 1), .int .u64 (ww2 1), .int .u64 (ww1 1), .int .u64 (ww0 1)] from rfl] at X3
            replace HB := HB.alloc HB.size (Obj.cells #[.int .u64 (ww3 x), .int .u64 (ww2 x), .int .u64 (ww1 x), .int .u64 (ww0 x), .int .u64 (ww3 1), .int .u64 (ww2 1), .int .u64 (ww1 1), .int .u64 (ww0 1)] 37)
            replace R0 := R0.alloc (Obj.cells #[.int .u64 (ww3 x), .int .u64 (ww2 x), .int .u64 (ww1 x), .int .u64 (ww0 x), .int .u64 (ww3 1), .int .u64 (ww2 1), .int .u64 (ww1 1), .int .u64 (ww0 1)] 37)
            generalize w2.heap.size + 1 = g3 at *
            generalize ((w2.alloc (Obj.cells #[.int .u64 (ww3 1), .int .u64 (ww2 1), .int .u64 (ww1 1), .int .u64 (ww0 1)] 26)).alloc (Obj.cells #[.int .u64 (ww3 x), .int .u64 (ww2 x), .int .u64 (ww1 x), .int .u64 (ww0 x), .int .u64 (ww3 1), .int .u64 (ww2 1), .int .u64 (ww1 1), .int .u64 (ww0 1)] 37)) = W4 at *
            obtain ⟨c0, c1, c2, c3, c4, c5, c6, c7⟩ := X3.cs8
            go_wp2_with fail
            clear c0 c1 c2 c3 c4 c5 c6 c7
            refine (CT _).mono ?_
            rintro e w5 ⟨rfl, hB⟩
            replace HB := HB.trans (hB.mono HB.size)
            replace R0 := R0.step hB
            replace X3 := X3.step hB
            clear hB CT
            have dl := R0.lt
            have o0 := R0.c 0 rfl; have q0 := R0.f 0 rfl; have o1 := R0.c 1 rfl; have q1 := R0.f 1 rfl; have o2 := R0.c 2 rfl; have q2 := R0.f 2 rfl; have o3 := R0.c 3 rfl; have q3 := R0.f 3 rfl; have o4 := R0.c 4 rfl; have q4 := R0.f 4 rfl; have o5 := R0.c 5 rfl; have q5 := R0.f 5 rfl; have o6 := R0.c 6 rfl; have q6 := R0.f 6 rfl; have o7 := R0.c 7 rfl; have q7 := R0.f 7 rfl
            go_wp2
            refine bodyPost_ret (v := .tuple #[.agg #[.int .u64 0, .int .u64 0, .int .u64 0, .int .u64 0, .int .u64 0, .int .u64 0, .int .u64 0, .int .u64 0], .bool false]) (by simp [results, Try.results21, go_sem, o0, o1, o2, o3, o4, o5, o6, o7]) rfl ?_
            refine ⟨by rw [HV.out], ?_⟩
            repeat' (refine Below.setCell ?_ (by simp; try omega) _)
            exact HB
  · have HV : Hid (rrV (btL s) = .tuple #[.agg #[.int .u64 0, .int .u64 0, .int .u64 0, .int .u64 0, .int .u64 0, .int .u64 0, .int .u64 0, .int .u64 0], .bool false]) := rrV_no fun x y h => by
      have := rr_len h
      rw [btL_len] at this
      omega
    have i160 : (160 : Int) < s.size := by omega
    clear hm h160
    go_enter Try.func21, Try.ntmps21
    have dl := R0.lt
    have o0 := R0.c 0 rfl; have q0 := R0.f 0 rfl; have o1 := R0.c 1 rfl; have q1 := R0.f 1 rfl; have o2 := R0.c 2 rfl; have q2 := R0.f 2 rfl; have o3 := R0.c 3 rfl; have q3 := R0.f 3 rfl; have o4 := R0.c 4 rfl; have q4 := R0.f 4 rfl; have o5 := R0.c 5 rfl; have q5 := R0.f 5 rfl; have o6 := R0.c 6 rfl; have q6 := R0.f 6 rfl; have o7 := R0.c 7 rfl; have q7 := R0.f 7 rfl
    go_wp2
    refine bodyPost_ret (v := .tuple #[.agg #[.int .u64 0, .int .u64 0, .int .u64 0, .int .u64 0, .int .u64 0, .int .u64 0, .int .u64 0, .int .u64 0], .bool false]) (by simp [results, Try.results21, go_sem, o0, o1, o2, o3, o4, o5, o6, o7]) rfl ?_
    refine ⟨by rw [HV.out], ?_⟩
    repeat' (refine Below.setCell ?_ (by simp; try omega) _)
    exact HB
end Go.Proofs.Ytnnojeggjnddpaa

/- A fraction read from its text: the law over both sides. -/
namespace Go.Proofs.Ytnnojeggjnddpaa
open Go.RowKit
theorem rt_args (a3 a2 a1 a0 b3 b2 b1 b0 c3 c2 c1 c0 d3 d2 d1 d0 : Int) (T : TypeId) (w : World) : ArgsB w ((w.alloc (.cells #[.int .u64 a3, .int .u64 a2, .int .u64 a1, .int .u64 a0, .int .u64 b3, .int .u64 b2, .int .u64 b1, .int .u64 b0] T)).alloc (.cells #[.int .u64 c3, .int .u64 c2, .int .u64 c1, .int .u64 c0, .int .u64 d3, .int .u64 d2, .int .u64 d1, .int .u64 d0] T)) [[.int .u64 a3, .int .u64 a2, .int .u64 a1, .int .u64 a0, .int .u64 b3, .int .u64 b2, .int .u64 b1, .int .u64 b0], [.int .u64 c3, .int .u64 c2, .int .u64 c1, .int .u64 c0, .int .u64 d3, .int .u64 d2, .int .u64 d1, .int .u64 d0]] := by
  refine ⟨((Below.refl _ _).alloc (Nat.le_refl _) _).alloc (by simp) _, fun j vs hj => ?_⟩
  match j, hj with
  | 0, hj => cases hj; exact (Blk.new w [.int .u64 a3, .int .u64 a2, .int .u64 a1, .int .u64 a0, .int .u64 b3, .int .u64 b2, .int .u64 b1, .int .u64 b0] T rfl).alloc _
  | 1, hj => cases hj; exact Blk.new (w.alloc (.cells #[.int .u64 a3, .int .u64 a2, .int .u64 a1, .int .u64 a0, .int .u64 b3, .int .u64 b2, .int .u64 b1, .int .u64 b0] T)) [.int .u64 c3, .int .u64 c2, .int .u64 c1, .int .u64 c0, .int .u64 d3, .int .u64 d2, .int .u64 d1, .int .u64 d0] T (by simp)
  | j + 2, hj => simp at hj
set_option maxRecDepth 100000 in
set_option maxHeartbeats 1000000 in
theorem eqRatio_t (a3 a2 a1 a0 b3 b2 b1 b0 : Int) (w : World) : Calls Try.prog 23 #[Rt a3 a2 a1 a0 b3 b2 b1 b0, Rt a3 a2 a1 a0 b3 b2 b1 b0] w (BoolP true w) := by
  have T0 := rt_args a3 a2 a1 a0 b3 b2 b1 b0 a3 a2 a1 a0 b3 b2 b1 b0 37 w
  go_enter Try.func23, Try.ntmps23
  go_upto_region 1 with fail
  generalize ((w.alloc (.cells #[.int .u64 a3, .int .u64 a2, .int .u64 a1, .int .u64 a0, .int .u64 b3, .int .u64 b2, .int .u64 b1, .int .u64 b0] 37)).alloc (.cells #[.int .u64 a3, .int .u64 a2, .int .u64 a1, .int .u64 a0, .int .u64 b3, .int .u64 b2, .int .u64 b1, .int .u64 b0] 37)) = W at *
  have x0c := (T0.b 0 rfl).c 0 rfl; have x1c := (T0.b 0 rfl).c 1 rfl; have x2c := (T0.b 0 rfl).c 2 rfl; have x3c := (T0.b 0 rfl).c 3 rfl; have x4c := (T0.b 0 rfl).c 4 rfl; have x5c := (T0.b 0 rfl).c 5 rfl; have x6c := (T0.b 0 rfl).c 6 rfl; have x7c := (T0.b 0 rfl).c 7 rfl
  have y0c := (T0.b 1 rfl).c 0 rfl; have y1c := (T0.b 1 rfl).c 1 rfl; have y2c := (T0.b 1 rfl).c 2 rfl; have y3c := (T0.b 1 rfl).c 3 rfl; have y4c := (T0.b 1 rfl).c 4 rfl; have y5c := (T0.b 1 rfl).c 5 rfl; have y6c := (T0.b 1 rfl).c 6 rfl; have y7c := (T0.b 1 rfl).c 7 rfl
  simp only [Nat.add_zero] at x0c x1c x2c x3c x4c x5c x6c x7c
  go_wp2_with fail
  refine (eqWide_same _ _ _ _ _).mono ?_
  rintro e w1 ⟨rfl, hB⟩
  replace T0 := T0.step hB
  clear hB x0c x1c x2c x3c x4c x5c x6c x7c y0c y1c y2c y3c y4c y5c y6c y7c
  have x0c := (T0.b 0 rfl).c 0 rfl; have x1c := (T0.b 0 rfl).c 1 rfl; have x2c := (T0.b 0 rfl).c 2 rfl; have x3c := (T0.b 0 rfl).c 3 rfl; have x4c := (T0.b 0 rfl).c 4 rfl; have x5c := (T0.b 0 rfl).c 5 rfl; have x6c := (T0.b 0 rfl).c 6 rfl; have x7c := (T0.b 0 rfl).c 7 rfl
  have y0c := (T0.b 1 rfl).c 0 rfl; have y1c := (T0.b 1 rfl).c 1 rfl; have y2c := (T0.b 1 rfl).c 2 rfl; have y3c := (T0.b 1 rfl).c 3 rfl; have y4c := (T0.b 1 rfl).c 4 rfl; have y5c := (T0.b 1 rfl).c 5 rfl; have y6c := (T0.b 1 rfl).c 6 rfl; have y7c := (T0.b 1 rfl).c 7 rfl
  simp only [Nat.add_zero] at x0c x1c x2c x3c x4c x5c x6c x7c
  go_wp2_with fail
  refine (eqWide_same _ _ _ _ _).mono ?_
  rintro e w2 ⟨rfl, hB⟩
  replace T0 := T0.step hB
  clear hB x0c x1c x2c x3c x4c x5c x6c x7c y0c y1c y2c y3c y4c y5c y6c y7c
  have HB := T0.below
  clear T0
  go_wp2
  go_ret
  exact ⟨rfl, HB⟩
theorem rrV_form (l : List Nat) : ∃ t0 t1 t2 t3 t4 t5 t6 t7 b, rrV l = .tuple #[.agg #[.int .u64 t0, .int .u64 t1, .int .u64 t2, .int .u64 t3, .int .u64 t4, .int .u64 t5, .int .u64 t6, .int .u64 t7], .bool b] := by
  by_cases h : ∃ x y, RrOk l x y
  · obtain ⟨x, y, h⟩ := h
    rw [rrV_yes h]
    exact ⟨_, _, _, _, _, _, _, _, _, rfl⟩
  · rw [rrV_no fun x y hk => h ⟨x, y, hk⟩]
    exact ⟨_, _, _, _, _, _, _, _, _, rfl⟩
set_option maxRecDepth 100000 in
set_option maxHeartbeats 2000000 in
theorem lawReadRatio_any (s : ByteArray) (w : World) : Calls Try.prog 6 #[.string s] w (BoolP true w) := by
  by_cases hs : s.size ≤ 1048576
  · have i1 : ¬ ((1048576 : Int) < s.size) := by omega
    have C1 := specReadRatio_any s (by omega)
    have C2 := implReadRatio_any s (by omega)
    obtain ⟨t0, t1, t2, t3, t4, t5, t6, t7, tb, ht⟩ := rrV_form (btL s)
    rw [ht] at C1 C2
    clear ht
    have bb : (tb != tb) = false := by simp
    have CE := eqRatio_t t0 t1 t2 t3 t4 t5 t6 t7
    go_enter Try.func6, Try.ntmps6
    go_wp2_with fail
    refine (C1 _).mono ?_
    rintro e w1 ⟨rfl, hB⟩
    have B1 := Blk.new w1 [.int .u64 t0, .int .u64 t1, .int .u64 t2, .int .u64 t3, .int .u64 t4, .int .u64 t5, .int .u64 t6, .int .u64 t7] 37 rfl
    have HB1 : Hid (Below w.heap.size w (w1.alloc (Obj.cells #[.int .u64 t0, .int .u64 t1, .int .u64 t2, .int .u64 t3, .int .u64 t4, .int .u64 t5, .int .u64 t6, .int .u64 t7] 37))) := hB.alloc hB.size _
    have hsz := hB.size
    clear hB C1
    go_wp2_with fail
    refine (C2 _).mono ?_
    rintro e w2 ⟨rfl, hB⟩
    have B2 := (B1.step hB).alloc (Obj.cells #[.int .u64 t0, .int .u64 t1, .int .u64 t2, .int .u64 t3, .int .u64 t4, .int .u64 t5, .int .u64 t6, .int .u64 t7] 37)
    have hB2 := HB1.out.trans (hB.mono HB1.out.size)
    have HB2 : Hid (Below w.heap.size w (w2.alloc (Obj.cells #[.int .u64 t0, .int .u64 t1, .int .u64 t2, .int .u64 t3, .int .u64 t4, .int .u64 t5, .int .u64 t6, .int .u64 t7] 37))) := hB2.alloc hB2.size _
    have d0 := B2.c 0 rfl; have d1 := B2.c 1 rfl; have d2 := B2.c 2 rfl; have d3 := B2.c 3 rfl; have d4 := B2.c 4 rfl; have d5 := B2.c 5 rfl; have d6 := B2.c 6 rfl; have d7 := B2.c 7 rfl
    clear hB C2 B1 B2 HB1 hB2
    go_wp2_with fail
    refine (CE _).mono ?_
    rintro e w3 ⟨rfl, hB⟩
    have hB3 := HB2.out.trans (hB.mono HB2.out.size)
    clear hB CE HB2
    go_wp2
    go_ret
    exact ⟨rfl, hB3⟩
  · have i1 : (1048576 : Int) < s.size := by omega
    go_enter Try.func6, Try.ntmps6
    go_wp2
    go_ret
    exact ⟨rfl, Below.refl _ _⟩
end Go.Proofs.Ytnnojeggjnddpaa

/- How a value of four words reads as data: opened and shut. -/
namespace Go.Proofs.Ytnnojeggjnddpaa
open Go.ChangeShapes Go.WideShapes Go.ChangeAt Go.RowKit Go.Joins
theorem Try.own : ownKnob Try.prog.godebug = none := by kernel_rfl
end Go.Proofs.Ytnnojeggjnddpaa

/- What the row of a law asks of the program as a whole, each by itself. -/
namespace Go.Proofs.Ytnnojeggjnddpaa
open Go.ChangeShapes Go.WideShapes Go.ChangeAt Go.RowKit Go.Joins
theorem jn_laid : laidOutB Try.pinned.checked.prog = true := by kernel_rfl
theorem jn_maps : mapsRowed Try.pinned.checked.prog = true := by kernel_rfl
theorem jn_enter : Try.pinned.checked.prog.mayEnter = true := by kernel_rfl
theorem jn_heard : Try.pinned.checked.prog.stopsHeard = true := by kernel_rfl
end Go.Proofs.Ytnnojeggjnddpaa
