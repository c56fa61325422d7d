/- Part 5 of the walks that the proof leans on. -/
import Derived.Test.YtnnojeggjnddpaaPart3
import Derived.Test.YtnnojeggjnddpaaPart4
import Derived.Lib.Bytealg
import Derived.WalkLawsBesides
import Derived.Lib.Strings
import Derived.Deep.RegionHeld3
import Derived.Test.YtnnojeggjnddpaaPart2
import Derived.Deep.RegionWith
/- Ten times a number of four words and one more digit. -/
namespace Go.Proofs.Ytnnojeggjnddpaa
open Go.RowKit
theorem ix4 (x0 x1 x2 x3 : Int) (k : Nat) (hk : k < [x0, x1, x2, x3].length) (w : World) : (Instr.index 70 (.agg #[.int .u64 x0, .int .u64 x1, .int .u64 x2, .int .u64 x3]) (.int .i64 k)).run Try.prog w = .ok (.int .u64 [x0, x1, x2, x3][k]) w := by
  match k, hk with
  | 0, _ => exact (show (Instr.index 70 (.agg #[.int .u64 x0, .int .u64 x1, .int .u64 x2, .int .u64 x3]) (.int .i64 ((0 : Nat) : Int))).run Try.prog w = .ok (.int .u64 x0) w by kernel_rfl)
  | 1, _ => exact (show (Instr.index 70 (.agg #[.int .u64 x0, .int .u64 x1, .int .u64 x2, .int .u64 x3]) (.int .i64 ((1 : Nat) : Int))).run Try.prog w = .ok (.int .u64 x1) w by kernel_rfl)
  | 2, _ => exact (show (Instr.index 70 (.agg #[.int .u64 x0, .int .u64 x1, .int .u64 x2, .int .u64 x3]) (.int .i64 ((2 : Nat) : Int))).run Try.prog w = .ok (.int .u64 x2) w by kernel_rfl)
  | 3, _ => exact (show (Instr.index 70 (.agg #[.int .u64 x0, .int .u64 x1, .int .u64 x2, .int .u64 x3]) (.int .i64 ((3 : Nat) : Int))).run Try.prog w = .ok (.int .u64 x3) w by kernel_rfl)
/-- The words ahead of a place, ten times; what is over. -/
structure TfI (xs zs : List Int) (d : Int) (k : Nat) (o : Int) : Prop where
  len : zs.length = 4
  wds : Words zs
  o0 : 0 ≤ o
  o1 : o < 10
  eq : val64 (zs.take k) + pw64 k * o = 10 * val64 (xs.take k) + d
theorem tf_start {xs : List Int} (hl : xs.length = 4) (hx : Words xs) {d : Int} (h0 : 0 ≤ d) (h1 : d < 10) : TfI xs xs d 0 d :=
  ⟨hl, hx, h0, h1, by simp [val64, pw64]⟩
theorem tf_step {xs zs : List Int} {d : Int} {k : Nat} {o : Int} (h : TfI xs zs d k o) (hk : k < xs.length) (hz : k < zs.length) (hx : Word xs[k]) (t : Int) (ht : t = xs[k] * 10 + o) : TfI xs (zs.set k (t % 18446744073709551616)) d (k + 1) (t / 18446744073709551616) := by
  obtain ⟨h1, h2, h3, h4, h5⟩ := h
  unfold Word at hx
  refine ⟨by simpa using h1, words_set h2 k ⟨by omega, by omega⟩, by omega, by omega, ?_⟩
  rw [val64_take (zs.set k (t % 18446744073709551616)) k (by simpa using hz), List.getElem_set_self, val64_take xs k hk, List.take_set_of_le (Nat.le_refl k), pw64]
  have e2 : t = t % 18446744073709551616 + 18446744073709551616 * (t / 18446744073709551616) := by omega
  generalize t / 18446744073709551616 = q at *
  generalize t % 18446744073709551616 = r at *
  generalize xs[k] = x at *
  generalize pw64 k = p at *
  generalize val64 (zs.take k) = a at *
  generalize val64 (xs.take k) = b at *
  clear h1 h2
  grind
theorem tf_arith {x o : Int} (h0 : 0 ≤ o) (h1 : o < 10) : Word (x * 10 % 18446744073709551616) ∧ Word o ∧ (x * 10 % 18446744073709551616 + o) % 18446744073709551616 = (x * 10 + o) % 18446744073709551616 ∧ x * 10 / 18446744073709551616 + (x * 10 % 18446744073709551616 + o) / 18446744073709551616 = (x * 10 + o) / 18446744073709551616 := by
  unfold Word at *
  omega
set_option maxRecDepth 100000 in
set_option maxHeartbeats 1000000 in
theorem tenfold_any (xs : List Int) (d : Int) (hl : xs.length = 4) (hx : Words xs) (h0 : 0 ≤ d) (h1 : d < 10) (hb : 10 * val64 xs + d < 115792089237316195423570985008687907853269984665640564039457584007913129639936) (w : World) : Calls Try.prog 51 #[agg xs, .int .u64 d] w (AggP 4 (10 * val64 xs + d) w) := by
  have HI : Hid (TfI xs xs d 0 d) := tf_start hl hx h0 h1
  have HX : Hid (Words xs) := hx
  have HL : Hid (xs.length = 4) := hl
  have HBD : Hid (10 * val64 xs + d < 115792089237316195423570985008687907853269984665640564039457584007913129639936) := hb
  obtain ⟨x0, x1, x2, x3, hxs⟩ := list4 hl
  have HA : agg xs = .agg #[.int .u64 x0, .int .u64 x1, .int .u64 x2, .int .u64 x3] := by rw [hxs]; rfl
  have AG := ix4 x0 x1 x2 x3
  rw [← hxs] at AG
  rw [HA]
  have HS : Mk w ((w.alloc (.cells #[.int .u64 x0, .int .u64 x1, .int .u64 x2, .int .u64 x3] 70)).alloc (.cells #[.int .u64 0, .int .u64 0, .int .u64 0, .int .u64 0] 70)) (w.heap.size + 1) w.heap.size (List.replicate 4 (.int .u64 0)) xs :=
    ⟨((Below.refl _ _).alloc (Nat.le_refl _) _).alloc (by simp) _, Blk.new _ [.int .u64 0, .int .u64 0, .int .u64 0, .int .u64 0] _ (by simp), by rw [hxs]; exact (Blk.new w [.int .u64 x0, .int .u64 x1, .int .u64 x2, .int .u64 x3] _ rfl).alloc _⟩
  clear hl hx HA hxs hb
  go_enter Try.func51, Try.ntmps51
  go_wp2
  generalize ((w.alloc (.cells #[.int .u64 x0, .int .u64 x1, .int .u64 x2, .int .u64 x3] 70)).alloc (.cells #[.int .u64 0, .int .u64 0, .int .u64 0, .int .u64 0] 70)) = W at *
  go_loopw [5, 13] (fun ov i wr => ∃ (k : Nat) (o : Int) (zs : List Int), k ≤ 4 ∧ i = .int .i64 k ∧ ov = .int .u64 o ∧ TfI xs zs d k o ∧ Mk w wr (w.heap.size + 1) w.heap.size (List.replicate 4 (.int .u64 0)) zs) (fun _ i _ => 4 - (intOf i).toNat)
  case atStart => exact ⟨0, d, _, by omega, rfl, rfl, HI.out, HS⟩
  case round =>
    clear HI HS h0 h1
    obtain ⟨k, o, zs, hk, rfl, rfl, hI, hM⟩ := hrel
    have hlen := hI.len
    by_cases hk4 : k < 4
    · have hkx : k < xs.length := by have := HL.out; omega
      have ag := AG k hkx
      have hz : k < zs.length := by omega
      obtain ⟨q1, q2⟩ := hM.cp k hz
      have hwx : Word xs[k] := words_at HX.out k hkx
      obtain ⟨t1, t2, t3, t4⟩ := tf_arith (x := xs[k]) hI.o0 hI.o1
      obtain ⟨hi, ehi⟩ : ∃ v, xs[k] * 10 / 18446744073709551616 = v := ⟨_, rfl⟩
      obtain ⟨lo, elo⟩ : ∃ v, xs[k] * 10 % 18446744073709551616 = v := ⟨_, rfl⟩
      have M1 := mul64d xs[k] 10 hi lo hwx ⟨by decide, by decide⟩ ehi elo
      rw [elo] at t1 t3 t4
      rw [ehi] at t4
      obtain ⟨n1, en1⟩ : ∃ v, (lo + o) % 18446744073709551616 = v := ⟨_, rfl⟩
      obtain ⟨c1, ec1⟩ : ∃ v, (lo + o) / 18446744073709551616 = v := ⟨_, rfl⟩
      have A1 := add64d lo o n1 c1 t1 t2 en1 ec1
      have R1 := tf_step hI hkx hz hwx _ rfl
      rw [← t3, ← t4, en1, ec1] at R1
      have R2 : Hid (TfI xs (zs.set k n1) d (k + 1) (hi + c1)) := R1
      have d4 : 0 ≤ hi + c1 := R1.o0
      have d5 : hi + c1 < 10 := R1.o1
      have M3 : Hid (Mk w (wr.setCell ⟨w.heap.size, k, none⟩ (.int .u64 n1)) (w.heap.size + 1) w.heap.size (List.replicate 4 (.int .u64 0)) (zs.set k n1)) := hM.set (by omega) (Nat.le_refl _) k hz n1
      have hkI : (k : Int) < 4 := by omega
      clear hI hM t1 t2 t3 t4 ehi elo en1 ec1 R1 AG hwx
      go_wp2_with fail
      refine (M1 _).mono ?_
      rintro e w1 ⟨rfl, rfl⟩
      clear M1
      go_wp2
      go_roundw
      case rel => exact ⟨k + 1, _, _, by omega, by go_num, rfl, R2.out, M3.out⟩
      case measure => simp [intOf]; omega
    · obtain rfl : k = 4 := by omega
      have HV := hI.eq
      have HW := hI.wds
      have ho0 := hI.o0
      obtain ⟨z0, z1, z2, z3, rfl⟩ := list4 hlen
      obtain ⟨c0, f0⟩ := hM.cp 0 (by simp)
      obtain ⟨c1, f1⟩ := hM.cp 1 (by simp)
      obtain ⟨c2, f2⟩ := hM.cp 2 (by simp)
      obtain ⟨c3, f3⟩ := hM.cp 3 (by simp)
      have d0 := hM.r.c 0 rfl; have e0 := hM.r.f 0 rfl
      have d1 := hM.r.c 1 rfl; have e1 := hM.r.f 1 rfl
      have d2 := hM.r.c 2 rfl; have e2 := hM.r.f 2 rfl
      have d3 := hM.r.c 3 rfl; have e3 := hM.r.f 3 rfl
      have HB := hM.below
      simp only [List.getElem_cons_zero, List.getElem_cons_succ] at c0 c1 c2 c3
      have HV2 : Hid (val64 [z0, z1, z2, z3] = 10 * val64 xs + d) := by
        show _ = _
        rw [List.take_of_length_le (by simp), List.take_of_length_le (by rw [HL.out]; omega), show pw64 4 = 115792089237316195423570985008687907853269984665640564039457584007913129639936 by decide] at HV
        have h8 := val64_nonneg HW
        have h9 := HBD.out
        omega
      clear hI hM hlen HV ho0
      go_wp2
      refine bodyPost_ret (v := .agg #[.int .u64 z0, .int .u64 z1, .int .u64 z2, .int .u64 z3]) (by simp [results, Try.results51, go_sem, d0, d1, d2, d3]) rfl ?_
      refine ⟨[z0, z1, z2, z3], rfl, rfl, HW, HV2.out, ?_⟩
      repeat' (refine Below.setCell ?_ (by simp) _)
      exact HB
end Go.Proofs.Ytnnojeggjnddpaa

/- Texts of nine bytes: matrices and masks, on both sides. -/
namespace Go.Proofs.Ytnnojeggjnddpaa
open Go.RowKit
/-- The byte of a text at a place. -/
def bt (s : ByteArray) (i : Nat) : Nat := (s.data.toList.getD i 0).toNat
theorem bt_at {s : ByteArray} {i : Nat} (h : i < s.size) : s[i].toNat = bt s i := by
  have h2 : i < s.data.size := h
  show (s.data[i]).toNat = _
  unfold bt
  rw [List.getD_eq_getElem?_getD, Array.getElem?_toList, Array.getElem?_eq_getElem h2]; rfl
theorem bt_lt (s : ByteArray) (i : Nat) : bt s i < 256 := UInt8.toNat_lt _
/-- That a text has just the bytes of a list. -/
def Bytes (ts : ByteArray) (t : List Nat) : Prop := ∀ n : Nat, n < 256 → (0 ≤ Lib.indexByte ts.data.toList (Int.toNat (n : Int)).toUInt8 ↔ n ∈ t)
end Go.Proofs.Ytnnojeggjnddpaa

/- Whether a text is a number in decimal, and a text without its sign: the program's. -/
namespace Go.Proofs.Ytnnojeggjnddpaa
open Go.RowKit
theorem tl_data (s : ByteArray) : s.toList = s.data.toList := Lib.toList_data s
theorem tl_btL (s : ByteArray) : btL s = s.toList.map UInt8.toNat := by rw [tl_data]; rfl
theorem btL_getQ {s : ByteArray} {i : Nat} (h : i < s.size) : (btL s)[i]? = some (bt s i) := by
  have h2 : i < s.data.toList.length := h
  unfold btL bt
  rw [List.getElem?_map, List.getD_eq_getElem?_getD, List.getElem?_eq_getElem h2]
  rfl
theorem btL_get {s : ByteArray} {i : Nat} (h : i < (btL s).length) : (btL s)[i] = bt s i := (List.getElem?_eq_some_iff.1 (btL_getQ (by rw [btL_len] at h; exact h))).2
theorem tl_nil {s : ByteArray} : s.toList = [] ↔ btL s = [] := by rw [tl_btL, List.map_eq_nil_iff]
theorem tl_one {s : ByteArray} (c : UInt8) : s.toList = [c] ↔ btL s = [c.toNat] := by
  rw [tl_btL]
  constructor
  · intro h; rw [h]; rfl
  · intro h
    cases hl : s.toList with
    | nil => rw [hl] at h; simp at h
    | cons x l =>
      rw [hl] at h
      cases l with
      | nil => simp only [List.map_cons, List.map_nil, List.cons.injEq, and_true] at h; rw [UInt8.toNat_inj.1 h]
      | cons y m => simp at h
theorem btL_head {s : ByteArray} (h : 0 < s.size) : (btL s).head? = some (bt s 0) := by
  have h2 : 0 < (btL s).length := by rw [btL_len]; exact h
  rw [List.head?_eq_getElem?, List.getElem?_eq_getElem h2, btL_get h2]
theorem btL_mem {s : ByteArray} {P : Nat → Prop} : (∀ b ∈ btL s, P b) ↔ ∀ j, j < s.size → P (bt s j) := by
  rw [← btL_len]
  constructor
  · intro h j hj
    rw [← btL_get hj]
    exact h _ (List.getElem_mem hj)
  · intro h b hb
    obtain ⟨j, hj, rfl⟩ := List.getElem_of_mem hb
    rw [btL_get hj]
    exact h j hj
set_option maxRecDepth 100000 in
set_option maxHeartbeats 1000000 in
theorem isDecimal_any (s : ByteArray) (hm : s.size ≤ 9223372036854775807) (b : Bool) (hb : b = true ↔ DecL (btL s)) (w : World) : Calls Try.prog 50 #[.string s] w (VP (.bool b) w) := by
  have HB : Hid (b = true ↔ DecL (btL s)) := hb
  clear hb
  by_cases h0 : s.toList = []
  · obtain rfl : b = false := by
      cases b
      · rfl
      · exact absurd (tl_nil.1 h0) (HB.out.1 rfl).1
    have e1 : s.toList.isEmpty = true := by rw [h0]; rfl
    clear h0
    go_enter Try.func50, Try.ntmps50
    go_wp2
    go_ret
    exact ⟨rfl, Below.refl _ _⟩
  · have e1 : s.toList.isEmpty = false := by rw [List.isEmpty_eq_false_iff]; exact h0
    have hs : 0 < s.size := by
      rcases Nat.eq_zero_or_pos s.size with h | h
      · exact absurd (tl_nil.2 (List.length_eq_zero_iff.1 (by rw [btL_len]; exact h))) h0
      · exact h
    have hbt := bt_at hs
    have hlt := bt_lt s 0
    by_cases hz : bt s 0 = 48 ∧ ¬ s.toList = [48]
    · obtain ⟨hz0, hz1⟩ := hz
      obtain rfl : b = false := by
        cases b
        · rfl
        · exact absurd ((HB.out.1 rfl).2.1 (by rw [btL_head hs, hz0])) (fun h => hz1 ((tl_one 48).2 h))
      rw [hz0] at hbt
      have e2 : (s.toList == [48]) = false := beq_eq_false_iff_ne.2 hz1
      clear h0 hz1
      go_enter Try.func50, Try.ntmps50
      go_wp2
      go_ret
      exact ⟨rfl, Below.refl _ _⟩
    · have HZ : Hid ((btL s).head? = some 48 → btL s = [48]) := by
        intro h
        rw [btL_head hs] at h
        have h2 : bt s 0 = 48 := by simpa using h
        exact (tl_one 48).1 (Classical.byContradiction fun h3 => hz ⟨h2, h3⟩)
      have hcase : (bt s 0 = 48 ∧ s.toList = [48]) ∨ ¬ bt s 0 = 48 := by
        by_cases h2 : bt s 0 = 48
        · exact Or.inl ⟨h2, Classical.byContradiction fun h3 => hz ⟨h2, h3⟩⟩
        · exact Or.inr h2
      clear hz
      rcases hcase with ⟨h2, h3⟩ | h2
      · have hb0 : ((bt s 0 : Int) == 48) = true := by rw [h2]; rfl
        have e2 : (s.toList == [48]) = true := beq_iff_eq.2 h3
        have H0 : Hid (¬ s.toList = []) := h0
        clear h2 h3 h0
        go_enter Try.func50, Try.ntmps50
        go_wp2
        go_loop [17] (fun i => ∃ c : Nat, c ≤ s.size ∧ i = .int .i64 c ∧ ∀ j, j < c → isD (bt s j)) (fun i => s.size - (intOf i).toNat)
        case atStart => exact ⟨0, by omega, rfl, fun j hj => by omega⟩
        case round =>
          obtain ⟨c, hc, rfl, hI⟩ := hrel
          have HI : Hid (∀ j, j < c → isD (bt s j)) := hI
          clear hI hbt hlt
          by_cases hcs : c < s.size
          · have hbt := bt_at hcs
            have hlt := bt_lt s c
            have hcI : (c : Int) < s.size := by omega
            by_cases hd : isD (bt s c)
            · obtain ⟨hd1, hd2⟩ := hd
              have hd3 : ¬ ((bt s c : Int) < 48) := by omega
              have hd4 : ¬ ((57 : Int) < (bt s c : Int)) := by omega
              go_wp2
              go_round
              case rel => exact ⟨c + 1, by omega, by go_num, fun j hj => by
                by_cases e : j = c
                · rw [e]; exact ⟨hd1, hd2⟩
                · exact HI.out j (by omega)⟩
              case measure => simp [intOf]; omega
            · obtain rfl : b = false := by
                cases b
                · rfl
                · exact absurd (btL_mem.1 (HB.out.1 rfl).2.2 c hcs) hd
              by_cases hd1 : 48 ≤ bt s c
              · have hd3 : ¬ ((bt s c : Int) < 48) := by omega
                have hd4 : (57 : Int) < (bt s c : Int) := by unfold isD at hd; omega
                clear hd
                go_wp2
                go_ret
                exact ⟨rfl, Below.refl _ _⟩
              · have hd3 : (bt s c : Int) < 48 := by omega
                clear hd
                go_wp2
                go_ret
                exact ⟨rfl, Below.refl _ _⟩
          · obtain rfl : c = s.size := by omega
            obtain rfl : b = true := HB.out.2 ⟨fun h => H0.out (tl_nil.2 h), HZ.out, btL_mem.2 HI.out⟩
            go_wp2
            go_ret
            exact ⟨rfl, Below.refl _ _⟩
      · have hb0 : ((bt s 0 : Int) == 48) = false := beq_eq_false_iff_ne.2 (by omega)
        have H0 : Hid (¬ s.toList = []) := h0
        clear h2 h0
        go_enter Try.func50, Try.ntmps50
        go_wp2
        go_loop [17] (fun i => ∃ c : Nat, c ≤ s.size ∧ i = .int .i64 c ∧ ∀ j, j < c → isD (bt s j)) (fun i => s.size - (intOf i).toNat)
        case atStart => exact ⟨0, by omega, rfl, fun j hj => by omega⟩
        case round =>
          obtain ⟨c, hc, rfl, hI⟩ := hrel
          have HI : Hid (∀ j, j < c → isD (bt s j)) := hI
          clear hI hbt hlt
          by_cases hcs : c < s.size
          · have hbt := bt_at hcs
            have hlt := bt_lt s c
            have hcI : (c : Int) < s.size := by omega
            by_cases hd : isD (bt s c)
            · obtain ⟨hd1, hd2⟩ := hd
              have hd3 : ¬ ((bt s c : Int) < 48) := by omega
              have hd4 : ¬ ((57 : Int) < (bt s c : Int)) := by omega
              go_wp2
              go_round
              case rel => exact ⟨c + 1, by omega, by go_num, fun j hj => by
                by_cases e : j = c
                · rw [e]; exact ⟨hd1, hd2⟩
                · exact HI.out j (by omega)⟩
              case measure => simp [intOf]; omega
            · obtain rfl : b = false := by
                cases b
                · rfl
                · exact absurd (btL_mem.1 (HB.out.1 rfl).2.2 c hcs) hd
              by_cases hd1 : 48 ≤ bt s c
              · have hd3 : ¬ ((bt s c : Int) < 48) := by omega
                have hd4 : (57 : Int) < (bt s c : Int) := by unfold isD at hd; omega
                clear hd
                go_wp2
                go_ret
                exact ⟨rfl, Below.refl _ _⟩
              · have hd3 : (bt s c : Int) < 48 := by omega
                clear hd
                go_wp2
                go_ret
                exact ⟨rfl, Below.refl _ _⟩
          · obtain rfl : c = s.size := by omega
            obtain rfl : b = true := HB.out.2 ⟨fun h => H0.out (tl_nil.2 h), HZ.out, btL_mem.2 HI.out⟩
            go_wp2
            go_ret
            exact ⟨rfl, Below.refl _ _⟩
end Go.Proofs.Ytnnojeggjnddpaa

/- A text cut of its sign: the program's. -/
namespace Go.Proofs.Ytnnojeggjnddpaa
open Go.RowKit
theorem ex_head {s : ByteArray} (hs : 0 < s.size) : ((s.extract 0 1).toList == [45]) = decide ((btL s).head? = some 45) := by
  rw [Bool.eq_iff_iff, beq_iff_eq, decide_eq_true_iff, tl_one, btL_extract]
  have h : 0 < (btL s).length := by rw [btL_len]; exact hs
  cases hl : btL s with
  | nil => rw [hl] at h; simp at h
  | cons x t => simp
theorem ex_tail {s : ByteArray} (h : (btL s).head? = some 45) : s.extract 1 s.size = strL (cutM (btL s)) := by
  rw [← strL_btL (s.extract 1 s.size), btL_extract, ← btL_len]
  congr 1
  unfold cutM
  rw [if_pos h, List.drop_one, List.take_of_length_le (by simp)]
set_option maxRecDepth 100000 in
set_option maxHeartbeats 1000000 in
theorem cutPre_any (s : ByteArray) (hm : s.size ≤ 9223372036854775807) (b : Bool) (hb : b = decide ((btL s).head? = some 45)) (w : World) : Calls Try.prog 49 #[.string s, .string ⟨#[45]⟩] w (VP (.tuple #[.string (strL (cutM (btL s))), .bool b]) w) := by
  by_cases h : (btL s).head? = some 45
  · obtain rfl : b = true := by rw [hb]; exact decide_eq_true h
    have hs : 0 < s.size := by
      rw [← btL_len]
      cases hl : btL s with
      | nil => rw [hl] at h; simp at h
      | cons x t => simp
    have e1 := ex_head hs
    rw [← hb] at e1
    have e2 := ex_tail h
    have hs1 : (1 : Int) ≤ s.size := by omega
    clear h hb
    go_enter Try.func49, Try.ntmps49
    go_wp2
    refine bodyPost_ret (v := .tuple #[.string (strL (cutM (btL s))), .bool true]) (by simp [results, Try.results49, go_sem]) rfl ?_
    exact ⟨rfl, Below.refl _ _⟩
  · obtain rfl : b = false := by rw [hb]; exact decide_eq_false h
    have e2 : Hid (strL (cutM (btL s)) = s) := by show _ = _; rw [cutM_pos h, strL_btL]
    rw [e2.out]
    clear e2
    by_cases hs : 0 < s.size
    · have e1 := ex_head hs
      rw [← hb] at e1
      have hs1 : (1 : Int) ≤ s.size := by omega
      clear h hb
      go_enter Try.func49, Try.ntmps49
      go_wp2
      refine bodyPost_ret (v := .tuple #[.string s, .bool false]) (by simp [results, Try.results49, go_sem]) rfl ?_
      exact ⟨rfl, Below.refl _ _⟩
    · have hs1 : ¬ (1 : Int) ≤ s.size := by omega
      clear h hb
      go_enter Try.func49, Try.ntmps49
      go_wp2
      refine bodyPost_ret (v := .tuple #[.string s, .bool false]) (by simp [results, Try.results49, go_sem]) rfl ?_
      exact ⟨rfl, Below.refl _ _⟩
end Go.Proofs.Ytnnojeggjnddpaa

/- A number read from its text: the program's. -/
namespace Go.Proofs.Ytnnojeggjnddpaa
open Go.RowKit
/-- What is told of a text. -/
noncomputable def rdV (l : List Nat) : Value := @ite _ (RdOk l) (Classical.propDecidable _) (tellV (rdI l)) (.tuple #[W4 0, .bool false])
theorem rdV_yes {l : List Nat} (h : RdOk l) : rdV l = tellV (rdI l) := by unfold rdV; rw [if_pos h]
theorem rdV_no {l : List Nat} (h : ¬ RdOk l) : rdV l = .tuple #[W4 0, .bool false] := by unfold rdV; rw [if_neg h]
/-- While digits are read. -/
structure RwI (w wr : World) (g : Nat) (zs : List Int) (n : Nat) : Prop where
  below : Below w.heap.size w wr
  br : Blk wr w.heap.size [.int .u64 0, .int .u64 0, .int .u64 0, .int .u64 0]
  bs : Blk wr g (zs.map (Value.int .u64))
  zl : zs.length = 4
  zw : Words zs
  gl : w.heap.size < g
  eq : val64 zs = (n : Int)
theorem RwI.drew {w wr : World} {g : Nat} {zs : List Int} {n : Nat} (h : RwI w wr g zs n) : RwI w wr.drew g zs n := ⟨h.below.drew, h.br, h.bs, h.zl, h.zw, h.gl, h.eq⟩
theorem RwI.next {w wr w1 : World} {g : Nat} {zs ys : List Int} {n m : Nat} (h : RwI w wr g zs n) (hB : Below wr.heap.size wr w1) {y0 y1 y2 y3 : Int} (hy : ys = [y0, y1, y2, y3]) (yw : Words ys) (yv : val64 ys = (m : Int)) :
    RwI w ((((w1.setCell ⟨g, 0, none⟩ (.int .u64 y0)).setCell ⟨g, 1, none⟩ (.int .u64 y1)).setCell ⟨g, 2, none⟩ (.int .u64 y2)).setCell ⟨g, 3, none⟩ (.int .u64 y3)) g ys m := by
  have hgl := h.gl
  have B1 := h.below.trans (hB.mono h.below.size)
  have BS := h.bs.step hB
  obtain ⟨z0, z1, z2, z3, hz⟩ := list4 h.zl
  rw [hz] at BS
  refine ⟨tell_below B1 (by omega), (h.br.step hB).set4 (by omega), ?_, by rw [hy]; rfl, yw, hgl, yv⟩
  rw [hy]
  exact Blk.stored4g BS _ _ _ _
theorem tellV_form (z : Int) : ∃ y3 y2 y1 y0 b, tellV z = .tuple #[.agg #[.int .u64 y3, .int .u64 y2, .int .u64 y1, .int .u64 y0], .bool b] := by
  unfold tellV
  split <;> exact ⟨_, _, _, _, _, rfl⟩
set_option maxRecDepth 100000 in
set_option maxHeartbeats 2000000 in
theorem implRead_any (s : ByteArray) (hm : s.size ≤ 9223372036854775807) (w : World) : Calls Try.prog 16 #[.string s] w (VP (rdV (btL s)) w) := by
  have CC := cutPre_any s hm _ rfl
  obtain ⟨u, hu⟩ : ∃ u, u = strL (cutM (btL s)) := ⟨_, rfl⟩
  have hul : btL u = cutM (btL s) := by
    rw [hu]
    refine btL_strL fun b hb => btL_lt s b ?_
    unfold cutM at hb
    split at hb
    · exact List.mem_of_mem_tail hb
    · exact hb
  have hus : u.size ≤ 9223372036854775807 := by
    rw [← btL_len, hul]
    have h2 := btL_len s
    unfold cutM
    split
    · rw [List.length_tail]; omega
    · omega
  have CD := fun b hb => isDecimal_any u hus b hb
  rw [← hu] at CC
  have HU : Hid (btL u = cutM (btL s)) := hul
  have HB0 : Hid (Below w.heap.size w (w.alloc (Obj.cells #[.int .u64 0, .int .u64 0, .int .u64 0, .int .u64 0] 26))) := (Below.refl _ _).alloc (Nat.le_refl _) _
  have BR0 : Hid (Blk (w.alloc (Obj.cells #[.int .u64 0, .int .u64 0, .int .u64 0, .int .u64 0] 26)) w.heap.size [.int .u64 0, .int .u64 0, .int .u64 0, .int .u64 0]) := Blk.new w [.int .u64 0, .int .u64 0, .int .u64 0, .int .u64 0] _ rfl
  clear hul hu hm
  by_cases hok : RdOk (btL s)
  · obtain ⟨h1, h2, h3⟩ := hok
    have HR : Hid (rdV (btL s) = tellV (rdI (btL s))) := rdV_yes ⟨h1, h2, h3⟩
    have CD1 := CD true (by rw [HU.out]; exact ⟨fun _ => h1, fun _ => rfl⟩)
    have hl77 : u.size ≤ 77 := by rw [← btL_len, HU.out]; exact h2
    have hl77' : ¬ ((77 : Int) < u.size) := by omega
    obtain ⟨b, hb⟩ : ∃ b, b = decide ((btL s).head? = some 45) := ⟨_, rfl⟩
    rw [← hb] at CC
    have e1 : (b && (u.toList == [48])) = false := by
      cases b
      · rfl
      · simp only [Bool.true_and]
        refine beq_eq_false_iff_ne.2 fun h => h3 ⟨of_decide_eq_true hb.symm, ?_⟩
        rw [← HU.out]
        exact (tl_one 48).1 h
    have HD : Hid (DecL (cutM (btL s))) := h1
    have HBB : Hid (b = decide ((btL s).head? = some 45)) := hb
    clear h1 h2 h3 CD hb
    go_enter Try.func16, Try.ntmps16
    go_wp2_with fail
    generalize (w.alloc (Obj.cells #[.int .u64 0, .int .u64 0, .int .u64 0, .int .u64 0] 26)) = W0 at *
    refine (CC _).mono ?_
    rintro e w1 ⟨rfl, hB⟩
    have BR1 := BR0.out.step hB
    have HB1 := HB0.out.trans (hB.mono HB0.out.size)
    clear BR0 HB0 hB CC
    go_upto_region 2 with fail
    go_cut [28] (fun p wx => p = .bool false ∧ Blk wx w.heap.size [.int .u64 0, .int .u64 0, .int .u64 0, .int .u64 0] ∧ Below w.heap.size w wx)
    case first =>
      cases b
      · go_wp2_with fail
        refine (CD1 _).mono ?_
        rintro e w2 ⟨rfl, hB⟩
        have BR2 := BR1.step hB
        have HB2 := HB1.trans (hB.mono HB1.size)
        clear BR1 HB1 hB CD1
        go_wp2
        go_meet
        exact ⟨congrArg Value.bool (decide_eq_false (by omega)), BR2, HB2⟩
      · simp only [Bool.true_and] at e1
        go_wp2_with fail
        refine (CD1 _).mono ?_
        rintro e w2 ⟨rfl, hB⟩
        have BR2 := BR1.step hB
        have HB2 := HB1.trans (hB.mono HB1.size)
        clear BR1 HB1 hB CD1
        go_wp2
        go_meet
        exact ⟨congrArg Value.bool (decide_eq_false (by omega)), BR2, HB2⟩
    case rest =>
      clear BR1 HB1 CD1 e1
      obtain ⟨hp, BR2, HB2⟩ := hcut
      subst hp
      have HI0 : Hid (RwI w (wc.alloc (Obj.cells #[.int .u64 0, .int .u64 0, .int .u64 0, .int .u64 0] 70)) wc.heap.size [0, 0, 0, 0] 0) :=
        ⟨HB2.alloc HB2.size _, BR2.alloc _, Blk.new _ [.int .u64 0, .int .u64 0, .int .u64 0, .int .u64 0] _ rfl, rfl, words4 wd0 wd0 wd0 wd0, BR2.lt, rfl⟩
      clear BR2 HB2
      rename_i hk
      refine hk _ _ ?_
      go_wp2
      generalize (wc.alloc (Obj.cells #[.int .u64 0, .int .u64 0, .int .u64 0, .int .u64 0] 70)) = W1 at *
      generalize wc.heap.size = g at *
      go_loopw [32] (fun i wr => ∃ (c : Nat) (zs : List Int), c ≤ u.size ∧ i = .int .i64 c ∧ RwI w wr g zs (rdN ((btL u).take c))) (fun i _ => u.size - (intOf i).toNat)
      case atStart => exact ⟨0, _, Nat.zero_le _, rfl, HI0.out⟩
      case round =>
        clear HI0
        obtain ⟨c, zs, hc, rfl, hI⟩ := hrel
        have zl := hI.zl
        have zw := hI.zw
        have hgl := hI.gl
        obtain ⟨y0, y1, y2, y3, hy⟩ := list4 zl
        have BS := hI.bs
        rw [hy] at BS
        obtain ⟨c0, f0, c1, f1, c2, f2, c3, f3⟩ := BS.cf4
        have slt := BS.lt
        have HII : Hid (RwI w wr g zs (rdN ((btL u).take c))) := hI
        by_cases hcs : c < u.size
        · have hbt := bt_at hcs
          have hlt := bt_lt u c
          have hcI : (c : Int) < u.size := by omega
          have hdl : ∀ b ∈ btL u, isD b := by rw [HU.out]; exact HD.out.2.2
          have hcl : c < (btL u).length := by rw [btL_len]; exact hcs
          obtain ⟨hd1, hd2⟩ : isD (bt u c) := by rw [← btL_get hcl]; exact hdl _ (List.getElem_mem hcl)
          obtain ⟨d, hd⟩ : ∃ d, d = bt u c - 48 := ⟨_, rfl⟩
          have hdI : (bt u c : Int) - 48 = d := by omega
          have hnx : Hid (10 * rdN ((btL u).take c) + d = rdN ((btL u).take (c + 1))) := by show _ = _; rw [rdN_take _ _ hcl, btL_get hcl, hd]
          have hn2 : rdN ((btL u).take (c + 1)) < 10 ^ 77 := by
            have h5 := rdN_lt ((btL u).take (c + 1)) (fun b hb => hdl b (List.mem_of_mem_take hb))
            have h6 : 10 ^ ((btL u).take (c + 1)).length ≤ 10 ^ 77 := Nat.pow_le_pow_right (by omega) (by rw [List.length_take]; omega)
            omega
          have CT0 := tenfold_any zs d zl zw (by omega) (by omega) (by rw [hI.eq]; have := hnx.out; omega)
          have CT : ∀ w, Calls Try.prog 51 #[.agg #[.int .u64 y0, .int .u64 y1, .int .u64 y2, .int .u64 y3], .int .u64 d] w (AggP 4 ((rdN ((btL u).take (c + 1)) : Nat) : Int) w) := by
            intro w
            have := CT0 w
            rw [hI.eq, show 10 * ((rdN ((btL u).take c) : Nat) : Int) + (d : Int) = ((rdN ((btL u).take (c + 1)) : Nat) : Int) by have := hnx.out; omega, show agg zs = .agg #[.int .u64 y0, .int .u64 y1, .int .u64 y2, .int .u64 y3] by rw [hy]; rfl] at this
            exact this
          have hd9 : (d : Int) < 10 := by omega
          have hw1 : IntKind.u8.wrap (d : Int) = d := by rw [IntKind.wrap_u8]; omega
          have hw2 : IntKind.u64.wrap (d : Int) = d := wrap_word (by omega) (by omega)
          have BS0 : Hid (Blk wr.drew g [.int .u64 y0, .int .u64 y1, .int .u64 y2, .int .u64 y3]) := BS.drew
          have HJJ : Hid (RwI w wr.drew g zs (rdN ((btL u).take c))) := hI.drew
          clear hI hy CT0 hn2 hdl hd BS HII
          go_wp2
          go_region_with (go_at_call 51; refine (CT _).mono ?_; rintro e w4 ⟨xs, rfl, xl, xw, xv, hB⟩; obtain ⟨s0, s1, s2, s3, hs⟩ := list4 xl; have N1 : Hid (RwI w ((((w4.setCell ⟨g, 0, none⟩ (.int .u64 s0)).setCell ⟨g, 1, none⟩ (.int .u64 s1)).setCell ⟨g, 2, none⟩ (.int .u64 s2)).setCell ⟨g, 3, none⟩ (.int .u64 s3)) g xs (rdN ((btL u).take (c + 1)))) := HJJ.out.next hB hs xw xv; have SA : agg xs = .agg #[.int .u64 s0, .int .u64 s1, .int .u64 s2, .int .u64 s3] := (by rw [hs]; rfl); rw [SA]; obtain ⟨k0, l0, k1, l1, k2, l2, k3, l3⟩ := (show Blk w4 g [.int .u64 y0, .int .u64 y1, .int .u64 y2, .int .u64 y3] from BS0.out.step hB).cf4; have l4 := (show Blk w4 g [.int .u64 y0, .int .u64 y1, .int .u64 y2, .int .u64 y3] from BS0.out.step hB).lt; clear hB hs SA xv xw xl)
          all_goals
            go_wp2
            go_roundw
            case rel => exact ⟨c + 1, _, by omega, by go_num, N1.out⟩
            case measure => simp [intOf]; omega
        · obtain rfl : c = u.size := by omega
          have hv := hI.eq
          rw [← btL_len, List.take_length] at hv
          have h5 : rdN (btL u) < 10 ^ 77 := by
            have h5 := rdN_lt (btL u) (by rw [HU.out]; exact HD.out.2.2)
            have h6 : 10 ^ (btL u).length ≤ 10 ^ 77 := Nat.pow_le_pow_right (by omega) (by rw [btL_len]; omega)
            omega
          obtain ⟨g0, g1, g2, g3⟩ := words4_of (by rw [← hy]; exact zw)
          have hw8 : Words [y0, y1, y2, y3, 0, 0, 0, 0] := words_cons.2 ⟨g0, words_cons.2 ⟨g1, words_cons.2 ⟨g2, words_cons.2 ⟨g3, words4 wd0 wd0 wd0 wd0⟩⟩⟩⟩
          have hv8 : val64 [y0, y1, y2, y3, 0, 0, 0, 0] = (rdN (btL u) : Int) := by
            rw [← hv, hy]
            simp only [val64]
            omega
          have CS := signedL_any y0 y1 y2 y3 0 0 0 0 b hw8 (by rw [hv8]; omega)
          have ez : (if b = true then -val64 [y0, y1, y2, y3, 0, 0, 0, 0] else val64 [y0, y1, y2, y3, 0, 0, 0, 0]) = rdI (btL s) := by
            rw [hv8, HU.out, HBB.out]
            unfold rdI
            by_cases h : (btL s).head? = some 45
            · rw [if_pos h, if_pos (decide_eq_true h)]
            · rw [if_neg h, if_neg (by simpa using h)]
          rw [ez] at CS
          have BR := hI.br
          have HB := hI.below
          have BR1 := BR.alloc (Obj.cells #[.int .u64 y0, .int .u64 y1, .int .u64 y2, .int .u64 y3, .int .u64 0, .int .u64 0, .int .u64 0, .int .u64 0] 82)
          have HB1 := HB.alloc HB.size (Obj.cells #[.int .u64 y0, .int .u64 y1, .int .u64 y2, .int .u64 y3, .int .u64 0, .int .u64 0, .int .u64 0, .int .u64 0] 82)
          have BR2 : Hid (Blk (wr.alloc (Obj.cells #[.int .u64 y0, .int .u64 y1, .int .u64 y2, .int .u64 y3, .int .u64 0, .int .u64 0, .int .u64 0, .int .u64 0] 82)) w.heap.size [.int .u64 0, .int .u64 0, .int .u64 0, .int .u64 0]) := BR1
          have HB2 : Hid (Below w.heap.size w (wr.alloc (Obj.cells #[.int .u64 y0, .int .u64 y1, .int .u64 y2, .int .u64 y3, .int .u64 0, .int .u64 0, .int .u64 0, .int .u64 0] 82))) := HB1
          clear hI hv BR HB BR1 HB1 hy BS hv8 ez h5
          go_wp2_with fail
          generalize (wr.alloc (Obj.cells #[.int .u64 y0, .int .u64 y1, .int .u64 y2, .int .u64 y3, .int .u64 0, .int .u64 0, .int .u64 0, .int .u64 0] 82)) = W5 at *
          refine (CS _).mono ?_
          rintro e w6 ⟨q0, q1, q2, q3, q4, q5, q6, q7, rfl, qw, qz, hB⟩
          have BR6 := BR2.out.step hB
          have HB6 := HB2.out.trans (hB.mono HB2.out.size)
          clear BR2 HB2 hB CS c0 c1 c2 c3 f0 f1 f2 f3
          have CT := tellWide_det q0 q1 q2 q3 q4 q5 q6 q7 qw _ qz
          obtain ⟨t3, t2, t1, t0, tb, ht⟩ := tellV_form (rdI (btL s))
          have HT : Hid (tellV (rdI (btL s)) = .tuple #[.agg #[.int .u64 t3, .int .u64 t2, .int .u64 t1, .int .u64 t0], .bool tb]) := ht
          rw [ht] at CT
          go_wp2_with fail
          refine (CT _).mono ?_
          rintro e w7 ⟨rfl, hB⟩
          have BR7 := BR6.step hB
          have HB7 := HB6.trans (hB.mono HB6.size)
          clear BR6 HB6 hB CT ht
          obtain ⟨d0, e0, d1, e1, d2, e2, d3, e3⟩ := BR7.cf4
          have dl := BR7.lt
          go_wp2
          refine bodyPost_ret (v := .tuple #[.agg #[.int .u64 t3, .int .u64 t2, .int .u64 t1, .int .u64 t0], .bool tb]) (by simp [results, Try.results16, go_sem, d0, d1, d2, d3]) rfl ?_
          exact ⟨by rw [HR.out, HT.out], tell_below HB7 (Nat.le_refl _)⟩
  · have HR : Hid (rdV (btL s) = .tuple #[W4 0, .bool false]) := rdV_no hok
    obtain ⟨b, hb⟩ : ∃ b, b = decide ((btL s).head? = some 45) := ⟨_, rfl⟩
    rw [← hb] at CC
    by_cases h1 : DecL (cutM (btL s))
    · have CD1 := CD true (by rw [HU.out]; exact ⟨fun _ => h1, fun _ => rfl⟩)
      by_cases h2 : u.size ≤ 77
      · have h3 : (btL s).head? = some 45 ∧ cutM (btL s) = [48] := Classical.byContradiction fun h3 => hok ⟨h1, by rw [← HU.out, btL_len]; exact h2, h3⟩
        obtain rfl : b = true := by rw [hb]; exact decide_eq_true h3.1
        have e1 : (u.toList == [48]) = true := beq_iff_eq.2 ((tl_one 48).2 (by rw [HU.out]; exact h3.2))
        have e2 : ¬ ((77 : Int) < u.size) := by omega
        clear hok h1 h3 hb CD
        go_enter Try.func16, Try.ntmps16
        go_wp2_with fail
        generalize (w.alloc (Obj.cells #[.int .u64 0, .int .u64 0, .int .u64 0, .int .u64 0] 26)) = W0 at *
        refine (CC _).mono ?_
        rintro e w1 ⟨rfl, hB⟩
        have BR1 := BR0.out.step hB
        have HB1 := HB0.out.trans (hB.mono HB0.out.size)
        clear BR0 HB0 hB CC
        go_wp2_with fail
        refine (CD1 _).mono ?_
        rintro e w2 ⟨rfl, hB⟩
        have BR2 := BR1.step hB
        have HB2 := HB1.trans (hB.mono HB1.size)
        clear BR1 HB1 hB CD1
        obtain ⟨d0, e0, d1, e1, d2, e2, d3, e3⟩ := BR2.cf4
        have dl := BR2.lt
        go_wp2
        refine bodyPost_ret (v := .tuple #[.agg #[.int .u64 0, .int .u64 0, .int .u64 0, .int .u64 0], .bool false]) (by simp [results, Try.results16, go_sem, d0, d1, d2, d3]) rfl ?_
        exact ⟨by rw [HR.out]; rfl, tell_below HB2 (Nat.le_refl _)⟩
      · have e2 : (77 : Int) < u.size := by omega
        clear hok h1 hb CD
        go_enter Try.func16, Try.ntmps16
        go_wp2_with fail
        generalize (w.alloc (Obj.cells #[.int .u64 0, .int .u64 0, .int .u64 0, .int .u64 0] 26)) = W0 at *
        refine (CC _).mono ?_
        rintro e w1 ⟨rfl, hB⟩
        have BR1 := BR0.out.step hB
        have HB1 := HB0.out.trans (hB.mono HB0.out.size)
        clear BR0 HB0 hB CC
        go_wp2_with fail
        refine (CD1 _).mono ?_
        rintro e w2 ⟨rfl, hB⟩
        have BR2 := BR1.step hB
        have HB2 := HB1.trans (hB.mono HB1.size)
        clear BR1 HB1 hB CD1
        obtain ⟨d0, e0, d1, e1, d2, e2, d3, e3⟩ := BR2.cf4
        have dl := BR2.lt
        go_wp2
        refine bodyPost_ret (v := .tuple #[.agg #[.int .u64 0, .int .u64 0, .int .u64 0, .int .u64 0], .bool false]) (by simp [results, Try.results16, go_sem, d0, d1, d2, d3]) rfl ?_
        exact ⟨by rw [HR.out]; rfl, tell_below HB2 (Nat.le_refl _)⟩
    · have CD1 := CD false (by rw [HU.out]; exact ⟨fun h => Bool.noConfusion h, fun h => absurd h h1⟩)
      clear hok h1 hb CD
      go_enter Try.func16, Try.ntmps16
      go_wp2_with fail
      generalize (w.alloc (Obj.cells #[.int .u64 0, .int .u64 0, .int .u64 0, .int .u64 0] 26)) = W0 at *
      refine (CC _).mono ?_
      rintro e w1 ⟨rfl, hB⟩
      have BR1 := BR0.out.step hB
      have HB1 := HB0.out.trans (hB.mono HB0.out.size)
      clear BR0 HB0 hB CC
      go_wp2_with fail
      refine (CD1 _).mono ?_
      rintro e w2 ⟨rfl, hB⟩
      have BR2 := BR1.step hB
      have HB2 := HB1.trans (hB.mono HB1.size)
      clear BR1 HB1 hB CD1
      obtain ⟨d0, e0, d1, e1, d2, e2, d3, e3⟩ := BR2.cf4
      have dl := BR2.lt
      go_wp2
      refine bodyPost_ret (v := .tuple #[.agg #[.int .u64 0, .int .u64 0, .int .u64 0, .int .u64 0], .bool false]) (by simp [results, Try.results16, go_sem, d0, d1, d2, d3]) rfl ?_
      exact ⟨by rw [HR.out]; rfl, tell_below HB2 (Nat.le_refl _)⟩
end Go.Proofs.Ytnnojeggjnddpaa

/- Fractions and points read from their texts: the reckoning. -/
namespace Go.Proofs.Ytnnojeggjnddpaa
theorem rd_cases (l : List Nat) : (∃ z, told z = true ∧ l = txL z ∧ rdV l = .tuple #[W4 z, .bool true]) ∨ ((∀ z, told z = true → l ≠ txL z) ∧ rdV l = .tuple #[W4 0, .bool false]) := by
  by_cases h : RdOk l
  · have h1 := rd_tx h
    cases ht : told (rdI l)
    · refine .inr ⟨fun z hz he => ?_, ?_⟩
      · rw [he, (tx_rd (told77 hz)).2] at ht
        rw [hz] at ht
        exact Bool.noConfusion ht
      · rw [rdV_yes h]; unfold tellV; rw [ht]; rfl
    · exact .inl ⟨rdI l, ht, h1.symm, by rw [rdV_yes h]; unfold tellV; rw [ht]; rfl⟩
  · exact .inr ⟨fun z hz he => h (by rw [he]; exact (tx_rd (told77 hz)).1), rdV_no h⟩
end Go.Proofs.Ytnnojeggjnddpaa

/- A region that draws its order, by a condition that every operation keeps, whichever comes up: no order is walked. -/
namespace Go.Proofs.Ytnnojeggjnddpaa
variable {P : Program} {ops : Array Oper} {Q : Exit → Act → World → Prop} {md : Region.Mode}
def open_ (l : Array Bool) : Nat := l.toList.countP (fun b => !b)
theorem open_set {l : Array Bool} {i : Nat} (h : l.getD i true = false) : open_ (l.setIfInBounds i true) + 1 = open_ l := by
  obtain ⟨xs⟩ := l
  have hi : i < xs.length := by
    rcases Nat.lt_or_ge i xs.length with h' | h'
    · exact h'
    · simp [Array.getD, Nat.not_lt.2 h'] at h
  have hv : xs[i] = false := by simpa [Array.getD, hi] using h
  have hp : 0 < xs.countP (fun b => !b) := List.countP_pos_iff.2 ⟨xs[i], List.getElem_mem hi, by simp [hv]⟩
  simp only [open_, List.setIfInBounds_toArray, List.countP_set hi, hv]
  simp
  omega
theorem wpAny_inv (J : Array Bool → Act → World → Prop) (hs : ∀ l a w i o, J l a w → l.getD i true = false → ops[i]? = some o → (∀ e ∈ o.after, Region.binds md e = true → l.getD e.on false = true) → wpOp P ops Q i (J (l.setIfInBounds i true)) a w)
    (hd : ∀ l a w, J l a w → Region.ready md ops l = [] → Q .normal a w) : ∀ (fuel : Nat) (l : Array Bool) (a : Act) (w : World), open_ l ≤ fuel → J l a w → wpAny P md ops Q fuel l a w := by
  intro fuel
  induction fuel with
  | zero =>
    intro l a w hf hJ
    have hr : Region.ready md ops l = [] := by
      rw [List.eq_nil_iff_forall_not_mem]
      intro i hi
      have := open_set (mem_ready.1 hi).1
      omega
    exact ⟨hr, hd l a w hJ hr⟩
  | succ fuel ih =>
    intro l a w hf hJ
    refine ⟨fun hr => hd l a w hJ hr, fun i hi => ?_⟩
    obtain ⟨h0, o, ho, hall⟩ := mem_ready.1 hi
    exact wpOp_mono (fun a' w' h' => ih _ a' w' (by have := open_set h0; omega) h') (hs l a w i o hJ h0 ho hall)
theorem wp_region_inv {id : Nat} {a : Act} {w : World} (hm : P.follows .mixedOrders = true) (J : Array Bool → Act → World → Prop)
    (h0 : J (Array.replicate ops.size false) a { w with drawn := w.drawn + 1 })
    (hs : ∀ l a w i o, J l a w → l.getD i true = false → ops[i]? = some o → (∀ e ∈ o.after, Region.binds .any e = true → l.getD e.on false = true) → wpOp P ops Q i (J (l.setIfInBounds i true)) a w)
    (hd : ∀ l a w, J l a w → Region.ready .any ops l = [] → Q .normal a w) : (Code.region id ops true).wp P Q a w :=
  wp_region_any hm (wpAny_inv J hs hd _ _ _ _ (by
    unfold open_
    refine Nat.le_trans List.countP_le_length ?_
    simp) h0)
/-- The operations of a list, each of which waits for none but those ahead of it. -/
def waits (md : Region.Mode) (ops : Array Oper) : List Nat → List Nat → Bool
  | _, [] => true
  | acc, i :: r => ((ops[i]?).map (fun o => o.after.all (fun e => !Region.binds md e || acc.contains e.on))).getD false && waits md ops (i :: acc) r
/-- Where none is ready, all of such a list have come up. -/
theorem listed_of {l : Array Bool} (hr : Region.ready md ops l = []) : ∀ (r acc : List Nat), (∀ k ∈ acc, l.getD k false = true) → waits md ops acc r = true → (∀ k ∈ r, k < l.size) → ∀ k ∈ r, l.getD k false = true
  | [], _, _, _, _ => fun k hk => by simp at hk
  | i :: r, acc, ha, hw, hz => by
    simp only [waits, Bool.and_eq_true] at hw
    obtain ⟨hw1, hw2⟩ := hw
    have hi : l.getD i false = true := by
      cases ho : ops[i]? with
      | none => rw [ho] at hw1; simp at hw1
      | some o =>
        rw [ho] at hw1
        have hall : ∀ e ∈ o.after, Region.binds md e = true → l.getD e.on false = true := fun e he hb => by
          have h2 : o.after.all (fun e => !Region.binds md e || acc.contains e.on) = true := by simpa using hw1
          rw [Array.all_eq_true'] at h2
          have h3 := h2 e he
          rw [hb] at h3
          exact ha _ (by simpa using h3)
        have hz' := hz i (by simp)
        by_cases hc : l.getD i true = false
        · have : i ∈ Region.ready md ops l := mem_ready.2 ⟨hc, o, ho, hall⟩
          rw [hr] at this
          simp at this
        · simpa [Array.getD, hz'] using hc
    intro k hk
    rcases List.mem_cons.1 hk with rfl | hk
    · exact hi
    · exact listed_of hr r (i :: acc) (fun k hk => by
        rcases List.mem_cons.1 hk with rfl | hk
        · exact hi
        · exact ha k hk) hw2 (fun k hk => hz k (by simp [hk])) k hk
/-- One operation that is not guarded: what it does when it is carried out. -/
theorem wpOp_of {i : Nat} {o : Oper} {a : Act} {w : World} {K : Act → World → Prop} (ho : ops[i]? = some o) (hg : o.guard = none) (h : o.wp P a w K Q) : wpOp P ops Q i K a w := by
  unfold wpOp
  simp only [ho]
  have hw : Region.wanted o (yielded ops a.tmps) = true := by unfold Region.wanted; rw [hg]
  rw [if_pos hw]
  exact .inl h
/-- A frame that differs from another one at the told slots alone is that one with these slots put. -/
theorem tmps_fold : ∀ (D : List Nat) (t s : Array Value), t.size = s.size → (∀ d, d ∉ D → t[d]? = s[d]?) → t = D.foldl (fun u d => u.setIfInBounds d (t.getD d undef)) s
  | [], t, s, _, h => Array.ext_getElem? (fun d => h d (by simp))
  | d :: D, t, s, hz, h => by
    rw [List.foldl_cons]
    refine tmps_fold D t _ (by simpa using hz) (fun e he => ?_)
    by_cases hed : e = d
    · subst hed
      rcases Nat.lt_or_ge e t.size with h' | h'
      · simp [Array.getD, h', ← hz]
      · simp [← hz, h']
    · rw [Array.getElem?_setIfInBounds_ne (fun hh => hed hh.symm)]
      exact h e (by simp [hed, he])
theorem put_getD_ne {a : Act} {d e : Nat} {v : Value} (h : d ≠ e) : (a.put (some d) v).tmps.getD e undef = a.tmps.getD e undef := by
  simp [Act.put, Array.getD_eq_getD_getElem?, Array.getElem?_setIfInBounds_ne h]
theorem put_getD_same {a : Act} {d : Nat} {v : Value} (h : d < a.tmps.size) : (a.put (some d) v).tmps.getD d undef = v := by
  simp [Act.put, Array.getD_eq_getD_getElem?, h]
end Go.Proofs.Ytnnojeggjnddpaa

/- Operations that are guarded, in a region that is taken by a condition. -/
namespace Go.Proofs.Ytnnojeggjnddpaa
variable {P : Program} {ops : Array Oper} {Q : Exit → Act → World → Prop}
theorem yielded_of {j d : Nat} {o : Oper} {t : Array Value} {b : Bool} (ho : ops[j]? = some o) (hd : o.dst = some d) (ht : t.getD d undef = .bool b) : yielded ops t j = some b := by
  have h : t[d]? = some (.bool b) := by
    rcases Nat.lt_or_ge d t.size with h | h
    · simpa [Array.getD, h] using ht
    · simp [Array.getD, Nat.not_lt.2 h, undef] at ht
  unfold yielded
  rw [ho]
  simp only [Option.bind_some, hd]
  rw [h]
theorem wpOp_off {i k d : Nat} {b : Bool} {o ok : Oper} {a : Act} {w : World} {K : Act → World → Prop} (ho : ops[i]? = some o) (hg : o.guard = some (k, b)) (hk : ops[k]? = some ok) (hd : ok.dst = some d) (ht : a.tmps.getD d undef = .bool (!b)) (h : K (a.put o.dst undef) w) : wpOp P ops Q i K a w := by
  unfold wpOp
  simp only [ho]
  have hw : Region.wanted o (yielded ops a.tmps) = false := by
    unfold Region.wanted
    rw [hg]
    simp only [yielded_of hk hd ht]
    cases b <;> rfl
  rw [hw]
  exact h
theorem wpOp_on {i k d : Nat} {b : Bool} {o ok : Oper} {a : Act} {w : World} {K : Act → World → Prop} (ho : ops[i]? = some o) (hg : o.guard = some (k, b)) (hk : ops[k]? = some ok) (hd : ok.dst = some d) (ht : a.tmps.getD d undef = .bool b) (h : o.wp P a w K Q) : wpOp P ops Q i K a w := by
  unfold wpOp
  simp only [ho]
  have hw : Region.wanted o (yielded ops a.tmps) = true := by
    unfold Region.wanted
    rw [hg]
    simp only [yielded_of hk hd ht]
    cases b <;> rfl
  rw [if_pos hw]
  exact .inl h
end Go.Proofs.Ytnnojeggjnddpaa

/- A region that draws its order, by what each slot holds once its operation has come up: the general form. -/
namespace Go.Proofs.Ytnnojeggjnddpaa
open Go.RowKit
variable {P : Program} {ops : Array Oper}
/-- No slot is written by two operations. -/
def distS : List (Option Nat) → Bool
  | [] => true
  | none :: r => distS r
  | some d :: r => !(r.contains (some d)) && distS r
theorem distS_inj : ∀ (S : List (Option Nat)) (i j d : Nat), distS S = true → S[i]? = some (some d) → S[j]? = some (some d) → i = j
  | [], i, _, _, _, h, _ => by simp at h
  | o :: r, i, j, d, hd, hi, hj => by
    have hr : distS r = true := by
      cases o with
      | none => exact hd
      | some d' => simp only [distS, Bool.and_eq_true] at hd; exact hd.2
    have hno : ∀ k, o = some d → r[k]? = some (some d) → False := fun k ho hk => by
      subst ho
      simp only [distS, Bool.and_eq_true, Bool.not_eq_true'] at hd
      have hm : some d ∈ r := List.mem_of_getElem? hk
      rw [← List.contains_iff_mem, hd.1] at hm
      cases hm
    match i, j with
    | 0, 0 => rfl
    | 0, j + 1 => exact (hno j (by simpa using hi) (by simpa using hj)).elim
    | i + 1, 0 => exact (hno i (by simpa using hj) (by simpa using hi)).elim
    | i + 1, j + 1 => exact congrArg (· + 1) (distS_inj r i j d hr (by simpa using hi) (by simpa using hj))
/-- What every operation keeps. -/
def InvQ (B : Nat) (S : List (Option Nat)) (V : Nat → Value → World → Prop) (w0 : World) (a0 : Act) (l : Array Bool) (a : Act) (W : World) : Prop :=
  l.size = S.length ∧ a.tmps.size = a0.tmps.size ∧ a.defers = a0.defers ∧ (∀ e, some e ∉ S → a.tmps[e]? = a0.tmps[e]?) ∧ Below B w0 W ∧ (∀ j d, l.getD j false = true → S[j]? = some (some d) → V j (a.tmps.getD d undef) W) ∧ (∀ j, l.getD j false = true → S[j]? = some none → V j undef W)
theorem getD_set_q {l : Array Bool} {i j : Nat} (h : (l.setIfInBounds i true).getD j false = true) (hne : j ≠ i) : l.getD j false = true := by
  rw [getD_set_ne false (Ne.symm hne)] at h
  exact h
theorem InvQ.put {B : Nat} {S : List (Option Nat)} {V : Nat → Value → World → Prop} {w0 : World} {a0 : Act} {l : Array Bool} {a : Act} {W W' : World} (h : InvQ B S V w0 a0 l a W) (hS : distS S = true) (i d : Nat) (hi : S[i]? = some (some d)) (hlt : d < a0.tmps.size)
    (hW : Below B w0 W') (hT : ∀ j v, V j v W → V j v W') (v : Value) (hv : V i v W') : InvQ B S V w0 a0 (l.setIfInBounds i true) (a.put (some d) v) W' := by
  obtain ⟨h1, h2, h3, h4, h5, h6, h7⟩ := h
  refine ⟨by simpa using h1, by simpa [Act.put] using h2, h3, fun e he => ?_, hW, fun j d' hj hd' => ?_, fun j hj hn => ?_⟩
  · have hne : d ≠ e := fun hh => he (hh ▸ List.mem_of_getElem? hi)
    simp only [Act.put]
    rw [Array.getElem?_setIfInBounds_ne hne]
    exact h4 e he
  · by_cases hji : j = i
    · subst hji
      rw [hi] at hd'
      cases hd'
      rw [put_getD_same (by omega)]
      exact hv
    · have hne : d ≠ d' := fun hh => hji (distS_inj S j i d hS (hh ▸ hd') hi)
      rw [put_getD_ne hne]
      exact hT _ _ (h6 j d' (getD_set_q hj hji) hd')
  · have hji : j ≠ i := fun hh => by subst hh; rw [hi] at hn; cases hn
    exact hT _ _ (h7 j (getD_set_q hj hji) hn)
theorem wp_region_q {Q : Exit → Act → World → Prop} {id : Nat} {a0 : Act} {w0 : World} (hm : P.follows .mixedOrders = true) (B : Nat) (S : List (Option Nat)) (V : Nat → Value → World → Prop) (hSz : ops.size = S.length)
    (hs : ∀ (Q : Exit → Act → World → Prop) l a W i o, InvQ B S V w0 a0 l a W → l.getD i true = false → ops[i]? = some o → (∀ e ∈ o.after, Region.binds .any e = true → l.getD e.on false = true) → wpOp P ops Q i (InvQ B S V w0 a0 (l.setIfInBounds i true)) a W)
    (hd : ∀ l a W, InvQ B S V w0 a0 l a W → Region.ready .any ops l = [] → Q .normal a W) : (Code.region id ops true).wp P Q a0 w0 := by
  refine wp_region_inv hm (InvQ B S V w0 a0) ⟨by simpa using hSz, rfl, rfl, fun _ _ => rfl, (Below.refl _ w0).drew, fun j d hj => ?_, fun j hj => ?_⟩ (hs Q) hd
  all_goals
    exfalso
    rw [Array.getD_eq_getD_getElem?, Array.getElem?_replicate] at hj
    split at hj <;> simp at hj
/-- A block of so many cells. -/
def BlkN (W : World) (g n : Nat) : Prop := ∃ vs : List Value, vs.length = n ∧ Blk W g vs
theorem BlkN.step {W W' : World} {g n : Nat} (h : BlkN W g n) (hB : Below W.heap.size W W') : BlkN W' g n := by
  obtain ⟨vs, h1, h2⟩ := h
  exact ⟨vs, h1, h2.step hB⟩
theorem Blk.setA {W : World} {g : Nat} {vs : List Value} (h : Blk W g vs) (j : Nat) (u : Value) : Blk (W.setCell ⟨g, j, none⟩ u) g (vs.set j u) := by
  rcases Nat.lt_or_ge j vs.length with hj | hj
  · exact h.setI j hj u
  · refine ⟨by simpa [World.setCell] using h.1, fun i v hi => ?_⟩
    rw [List.set_eq_of_length_le hj] at hi
    have hne : i ≠ j := fun e => by
      subst e
      rw [List.getElem?_eq_none hj] at hi
      cases hi
    exact ⟨(World.cell?_setCell_other _ _ _ _ (by simp)).trans (h.c i hi), by simp [go_sem, h.f i hi]⟩
theorem BlkN.set {W : World} {g n : Nat} (h : BlkN W g n) (g' j : Nat) (u : Value) : BlkN (W.setCell ⟨g', j, none⟩ u) g n := by
  obtain ⟨vs, h1, h2⟩ := h
  by_cases hg : g = g'
  · subst hg
    exact ⟨vs.set j u, by simpa using h1, h2.setA j u⟩
  · exact ⟨vs, h1, h2.setO (p := ⟨g', j, none⟩) hg u⟩
end Go.Proofs.Ytnnojeggjnddpaa

/- Fractions in their order: the program's and the model's answer, and the law over both. -/
namespace Go.Proofs.Ytnnojeggjnddpaa
open Go.RowKit
end Go.Proofs.Ytnnojeggjnddpaa

/- The walk of a fraction in its lowest terms. -/
namespace Go.Proofs.Ytnnojeggjnddpaa
open Go.RowKit
end Go.Proofs.Ytnnojeggjnddpaa

/- Two numbers of digits laid behind the arguments; the model's tell of a number, its value known. -/
namespace Go.Proofs.Ytnnojeggjnddpaa
open Go.RowKit
theorem IsNum.step {w w' : World} {s : Bool} {ao : Option Addr} {n cap : Nat} {ds : List Int} {z : Int} {k : Nat} (h : IsNum w s ao n cap ds z k) (hb : Below w.heap.size w w') : IsNum w' s ao n cap ds z k := h.below hb
theorem IsNum.alloc {w : World} {s : Bool} {ao : Option Addr} {n cap : Nat} {ds : List Int} {z : Int} {k : Nat} (h : IsNum w s ao n cap ds z k) (o : Obj) : IsNum (w.alloc o) s ao n cap ds z k := h.below ((Below.refl _ _).alloc (Nat.le_refl _) o)
theorem tellP_VP {z : Int} {w w' : World} {e : Ending} (h : TellP z w e w') : VP (tellV z) w e w' := by
  rcases h.2 with ⟨t, a3, a2, a1, a0, rfl, h3, h2, h1, h0, hz⟩ | ⟨t, rfl⟩
  · obtain ⟨rfl, rfl, rfl, rfl⟩ := wd_of h3 h2 h1 h0 hz
    exact ⟨by unfold tellV; rw [if_pos t], h.1⟩
  · exact ⟨by unfold tellV; rw [if_neg (by simp [t]), W40], h.1⟩
end Go.Proofs.Ytnnojeggjnddpaa

/- The walk of the model's quotient and rest of two numbers of four words. -/
namespace Go.Proofs.Ytnnojeggjnddpaa
open Go.RowKit
end Go.Proofs.Ytnnojeggjnddpaa

/- The walk of the model's fraction in lowest terms. -/
namespace Go.Proofs.Ytnnojeggjnddpaa
open Go.RowKit
/-- Two numbers of digits in one answer. -/
def NumsP (k : Nat) (x y : Int) (w : World) (e : Ending) (w' : World) : Prop :=
  ∃ (s1 : Bool) (o1 : Option Addr) (n1 c1 : Nat) (d1 : List Int) (s2 : Bool) (o2 : Option Addr) (n2 c2 : Nat) (d2 : List Int), e = .returned (.agg #[.bool s1, .slice o1 n1 c1, .bool s2, .slice o2 n2 c2]) ∧ IsNum w' s1 o1 n1 c1 d1 x k ∧ IsNum w' s2 o2 n2 c2 d2 y k ∧ Below w.heap.size w w'
theorem NumsP.drew {k : Nat} {x y : Int} {w w' : World} {e : Ending} (h : NumsP k x y w e w') : NumsP k x y w e w'.drew := by
  obtain ⟨s1, o1, n1, c1, d1, s2, o2, n2, c2, d2, e, N1, N2, hB⟩ := h
  exact ⟨s1, o1, n1, c1, d1, s2, o2, n2, c2, d2, e, N1.drew, N2.drew, hB.drew⟩
/-- The two numbers as they lie in the arguments' places. -/
def CutM (w wx : World) (x y : Int) (k : Nat) : Prop :=
  ∃ (s1 : Bool) (o1 : Option Addr) (n1 c1 : Nat) (d1 : List Int) (s2 : Bool) (o2 : Option Addr) (n2 c2 : Nat) (d2 : List Int), ArgsB w wx [[.bool s1, .slice o1 n1 c1], [.bool s2, .slice o2 n2 c2], [.bool false, .slice none 0 0, .bool false, .slice none 0 0]] ∧ IsNum wx s1 o1 n1 c1 d1 x k ∧ IsNum wx s2 o2 n2 c2 d2 y k
theorem CutM.drew {w W : World} {x y : Int} {k : Nat} (h : CutM w W x y k) : CutM w W.drew x y k := by
  obtain ⟨s1, o1, n1, c1, d1, s2, o2, n2, c2, d2, A, N1, N2⟩ := h
  exact ⟨s1, o1, n1, c1, d1, s2, o2, n2, c2, d2, A.drew, N1.drew, N2.drew⟩
end Go.Proofs.Ytnnojeggjnddpaa

/- What the walks of the laws over two numbers of four words share. -/
namespace Go.Proofs.Ytnnojeggjnddpaa
open Go.RowKit
/-- A number that was told lies in the block g, its flag beside it. -/
def LayP (z : Int) (w wx : World) (g : Nat) (x3 x2 x1 x0 : Int) (t : Bool) : Prop :=
  Wd wx g x3 x2 x1 x0 ∧ w.heap.size + 1 < g ∧ ∃ u v, TellP z u (.returned (.tuple #[.agg #[.int .u64 x3, .int .u64 x2, .int .u64 x1, .int .u64 x0], .bool t])) v
theorem LayP.step {z : Int} {w W W' : World} {g : Nat} {x3 x2 x1 x0 : Int} {t : Bool} (h : LayP z w W g x3 x2 x1 x0 t) (hb : Below W.heap.size W W') : LayP z w W' g x3 x2 x1 x0 t := ⟨h.1.step hb, h.2⟩
theorem LayP.alloc {z : Int} {w W : World} {g : Nat} {x3 x2 x1 x0 : Int} {t : Bool} (h : LayP z w W g x3 x2 x1 x0 t) (o : Obj) : LayP z w (W.alloc o) g x3 x2 x1 x0 t := ⟨h.1.alloc o, h.2⟩
theorem LayP.drew {z : Int} {w W : World} {g : Nat} {x3 x2 x1 x0 : Int} {t : Bool} (h : LayP z w W g x3 x2 x1 x0 t) : LayP z w W.drew g x3 x2 x1 x0 t := ⟨h.1.drew, h.2⟩
theorem LayP.set {z : Int} {w W : World} {g R : Nat} {x3 x2 x1 x0 : Int} {t : Bool} (h : LayP z w W g x3 x2 x1 x0 t) (hne : g ≠ R) (u0 u1 u2 u3 : Value) : LayP z w ((((W.setCell ⟨R, 0, none⟩ u0).setCell ⟨R, 1, none⟩ u1).setCell ⟨R, 2, none⟩ u2).setCell ⟨R, 3, none⟩ u3) g x3 x2 x1 x0 t := ⟨h.1.set hne _ _ _ _, h.2⟩
end Go.Proofs.Ytnnojeggjnddpaa

/- Fractions of two numbers: the program's, the model's; and when two fractions are one. -/
namespace Go.Proofs.Ytnnojeggjnddpaa
open Go.RowKit
end Go.Proofs.Ytnnojeggjnddpaa

/- The program's sums, products and quotients of fractions. -/
namespace Go.Proofs.Ytnnojeggjnddpaa
open Go.RowKit
end Go.Proofs.Ytnnojeggjnddpaa

/- The program's laws of two fractions, as far as they are told. -/
namespace Go.Proofs.Ytnnojeggjnddpaa
open Go.RowKit
end Go.Proofs.Ytnnojeggjnddpaa

/- The floor of a fraction: the program's, the model's, and the law. -/
namespace Go.Proofs.Ytnnojeggjnddpaa
open Go.RowKit
end Go.Proofs.Ytnnojeggjnddpaa

/- Fractions by their own numbers: the reckoning of sums, products, order and floor. -/
namespace Go.Proofs.Ytnnojeggjnddpaa
open Go.RowKit
end Go.Proofs.Ytnnojeggjnddpaa

/- Fractions in their order: the model's walks. -/
namespace Go.Proofs.Ytnnojeggjnddpaa
open Go.RowKit
end Go.Proofs.Ytnnojeggjnddpaa

/- The model's sums and products of two fractions. -/
namespace Go.Proofs.Ytnnojeggjnddpaa
open Go.RowKit
end Go.Proofs.Ytnnojeggjnddpaa

/- The model's word on sums of two fractions. -/
namespace Go.Proofs.Ytnnojeggjnddpaa
open Go.RowKit
end Go.Proofs.Ytnnojeggjnddpaa

/- The walk of the program's difference of four words. -/
namespace Go.Proofs.Ytnnojeggjnddpaa
open Go.RowKit
end Go.Proofs.Ytnnojeggjnddpaa

/- The walks of the negation of four words, by the model and by the program, and of the law over both. -/
namespace Go.Proofs.Ytnnojeggjnddpaa
open Go.RowKit
end Go.Proofs.Ytnnojeggjnddpaa

/- The walk of the program's sum of four words. -/
namespace Go.Proofs.Ytnnojeggjnddpaa
open Go.RowKit
set_option maxRecDepth 100000 in
set_option maxHeartbeats 4000000 in
theorem implAdd_any (a3 a2 a1 a0 b3 b2 b1 b0 : Int) (h3 : Word a3) (h2 : Word a2) (h1 : Word a1) (h0 : Word a0) (k3 : Word b3) (k2 : Word b2) (k1 : Word b1) (k0 : Word b0) (w : World) :
    Calls Try.prog 33 #[.agg #[.int .u64 a3, .int .u64 a2, .int .u64 a1, .int .u64 a0], .agg #[.int .u64 b3, .int .u64 b2, .int .u64 b1, .int .u64 b0]] w (TellP (sw a3 a2 a1 a0 + sw b3 b2 b1 b0) w) := by
  have T0 := ((twoW_start w a3 a2 a1 a0 b3 b2 b1 b0 26).alloc (Obj.cells #[Value.int IntKind.u64 0, Value.int IntKind.u64 0, Value.int IntKind.u64 0, Value.int IntKind.u64 0] 26))
  have R0 : Wd _ (w.heap.size + 1 + 1) 0 0 0 0 := (Wd.new ((w.alloc (Obj.cells #[Value.int IntKind.u64 a3, Value.int IntKind.u64 a2, Value.int IntKind.u64 a1, Value.int IntKind.u64 a0] 26)).alloc (Obj.cells #[Value.int IntKind.u64 b3, Value.int IntKind.u64 b2, Value.int IntKind.u64 b1, Value.int IntKind.u64 b0] 26)) 0 0 0 0 26 (by simp))
  have tok1 : True := trivial
  go_enter Try.func33, Try.ntmps33
  go_upto_region 1 with fail
  generalize ((w.alloc (Obj.cells #[Value.int IntKind.u64 a3, Value.int IntKind.u64 a2, Value.int IntKind.u64 a1, Value.int IntKind.u64 a0] 26)).alloc (Obj.cells #[Value.int IntKind.u64 b3, Value.int IntKind.u64 b2, Value.int IntKind.u64 b1, Value.int IntKind.u64 b0] 26)).alloc (Obj.cells #[Value.int IntKind.u64 0, Value.int IntKind.u64 0, Value.int IntKind.u64 0, Value.int IntKind.u64 0] 26) = W at *
  go_cut [6] (fun p wx => CutP (PlusR a3 a2 a1 a0 b3 b2 b1 b0) w wx a3 a2 a1 a0 b3 b2 b1 b0 p)
  case first =>
    go_region_held3 (fun w' => w'.cell? ⟨w.heap.size, 0, none⟩ = some (.int .u64 a3) ∧ w'.cell? ⟨w.heap.size, 1, none⟩ = some (.int .u64 a2) ∧ w'.cell? ⟨w.heap.size, 2, none⟩ = some (.int .u64 a1) ∧ w'.cell? ⟨w.heap.size, 3, none⟩ = some (.int .u64 a0) ∧ w'.cell? ⟨w.heap.size + 1, 0, none⟩ = some (.int .u64 b3) ∧ w'.cell? ⟨w.heap.size + 1, 1, none⟩ = some (.int .u64 b2) ∧ w'.cell? ⟨w.heap.size + 1, 2, none⟩ = some (.int .u64 b1) ∧ w'.cell? ⟨w.heap.size + 1, 3, none⟩ = some (.int .u64 b0)) (first | (with_reducible exact cells8x T0) | (with_reducible exact cells8x T0.drew) | (with_reducible exact cells8x (T0.alloc _)) | (with_reducible exact cells8x (T0.alloc _).drew) | (with_reducible exact cells8x (T0.set (by omega) _ _ _ _)))
      (first
        | (go_at_call 70; have _t := tok1; refine (wordsOf_any a3 a2 a1 a0 _).mono ?_; rintro e w1 ⟨rfl, hB⟩; (first | (have T1 : TwoW w w1 a3 a2 a1 a0 b3 b2 b1 b0 := (by with_reducible exact T0.step hB); replace R0 := R0.step hB; try (replace G0 := G0.step hB; have z0c := G0.c0; have z1c := G0.c1; have z2c := G0.c2; have z3c := G0.c3; have z0f := G0.f0; have z1f := G0.f1; have z2f := G0.f2; have z3f := G0.f3)) | (have T1 : TwoW w w1 a3 a2 a1 a0 b3 b2 b1 b0 := (by with_reducible exact T0.drew.step hB); replace R0 := R0.drew.step hB; try (replace G0 := G0.step hB; have z0c := G0.c0; have z1c := G0.c1; have z2c := G0.c2; have z3c := G0.c3; have z0f := G0.f0; have z1f := G0.f1; have z2f := G0.f2; have z3f := G0.f3)) | (have T1 : TwoW w w1 a3 a2 a1 a0 b3 b2 b1 b0 := (by with_reducible exact (T0.alloc _).step hB); have hg := R0.lt; replace R0 := (R0.alloc _).step hB; have G0 := (Wd.new _ 0 0 0 0 _ rfl).step hB; have z0c := G0.c0; have z1c := G0.c1; have z2c := G0.c2; have z3c := G0.c3; have z0f := G0.f0; have z1f := G0.f1; have z2f := G0.f2; have z3f := G0.f3) | (have T1 : TwoW w w1 a3 a2 a1 a0 b3 b2 b1 b0 := (by with_reducible exact (T0.alloc _).drew.step hB); have hg := R0.lt; replace R0 := (R0.alloc _).drew.step hB; have G0 := (Wd.new _ 0 0 0 0 _ rfl).drew.step hB; have z0c := G0.c0; have z1c := G0.c1; have z2c := G0.c2; have z3c := G0.c3; have z0f := G0.f0; have z1f := G0.f1; have z2f := G0.f2; have z3f := G0.f3)); clear T0; have T0 := T1; clear T1; clear tok1 _t hB)
        | (go_at_call 70; refine (wordsOf_any b3 b2 b1 b0 _).mono ?_; rintro e w2 ⟨rfl, hB⟩; (first | (have T1 : TwoW w w2 a3 a2 a1 a0 b3 b2 b1 b0 := (by with_reducible exact T0.step hB); replace R0 := R0.step hB; try (replace G0 := G0.step hB; have z0c := G0.c0; have z1c := G0.c1; have z2c := G0.c2; have z3c := G0.c3; have z0f := G0.f0; have z1f := G0.f1; have z2f := G0.f2; have z3f := G0.f3)) | (have T1 : TwoW w w2 a3 a2 a1 a0 b3 b2 b1 b0 := (by with_reducible exact T0.drew.step hB); replace R0 := R0.drew.step hB; try (replace G0 := G0.step hB; have z0c := G0.c0; have z1c := G0.c1; have z2c := G0.c2; have z3c := G0.c3; have z0f := G0.f0; have z1f := G0.f1; have z2f := G0.f2; have z3f := G0.f3)) | (have T1 : TwoW w w2 a3 a2 a1 a0 b3 b2 b1 b0 := (by with_reducible exact (T0.alloc _).step hB); have hg := R0.lt; replace R0 := (R0.alloc _).step hB; have G0 := (Wd.new _ 0 0 0 0 _ rfl).step hB; have z0c := G0.c0; have z1c := G0.c1; have z2c := G0.c2; have z3c := G0.c3; have z0f := G0.f0; have z1f := G0.f1; have z2f := G0.f2; have z3f := G0.f3) | (have T1 : TwoW w w2 a3 a2 a1 a0 b3 b2 b1 b0 := (by with_reducible exact (T0.alloc _).drew.step hB); have hg := R0.lt; replace R0 := (R0.alloc _).drew.step hB; have G0 := (Wd.new _ 0 0 0 0 _ rfl).drew.step hB; have z0c := G0.c0; have z1c := G0.c1; have z2c := G0.c2; have z3c := G0.c3; have z0f := G0.f0; have z1f := G0.f1; have z2f := G0.f2; have z3f := G0.f3)); clear T0; have T0 := T1; clear T1; clear hB)
        | (go_at_call 71; refine (plus4 a0 a1 a2 a3 b0 b1 b2 b3 (words4 h0 h1 h2 h3) (words4 k0 k1 k2 k3) _).mono ?_; intro e w3 hP; obtain ⟨z3, z2, z1, z0, rfl, hrel, hB⟩ := plusR_of hP; (first | (have T1 : TwoW w w3 a3 a2 a1 a0 b3 b2 b1 b0 := (by with_reducible exact T0.step hB); replace R0 := R0.step hB; try (replace G0 := G0.step hB; have z0c := G0.c0; have z1c := G0.c1; have z2c := G0.c2; have z3c := G0.c3; have z0f := G0.f0; have z1f := G0.f1; have z2f := G0.f2; have z3f := G0.f3)) | (have T1 : TwoW w w3 a3 a2 a1 a0 b3 b2 b1 b0 := (by with_reducible exact T0.drew.step hB); replace R0 := R0.drew.step hB; try (replace G0 := G0.step hB; have z0c := G0.c0; have z1c := G0.c1; have z2c := G0.c2; have z3c := G0.c3; have z0f := G0.f0; have z1f := G0.f1; have z2f := G0.f2; have z3f := G0.f3)) | (have T1 : TwoW w w3 a3 a2 a1 a0 b3 b2 b1 b0 := (by with_reducible exact (T0.alloc _).step hB); have hg := R0.lt; replace R0 := (R0.alloc _).step hB; have G0 := (Wd.new _ 0 0 0 0 _ rfl).step hB; have z0c := G0.c0; have z1c := G0.c1; have z2c := G0.c2; have z3c := G0.c3; have z0f := G0.f0; have z1f := G0.f1; have z2f := G0.f2; have z3f := G0.f3) | (have T1 : TwoW w w3 a3 a2 a1 a0 b3 b2 b1 b0 := (by with_reducible exact (T0.alloc _).drew.step hB); have hg := R0.lt; replace R0 := (R0.alloc _).drew.step hB; have G0 := (Wd.new _ 0 0 0 0 _ rfl).drew.step hB; have z0c := G0.c0; have z1c := G0.c1; have z2c := G0.c2; have z3c := G0.c3; have z0f := G0.f0; have z1f := G0.f1; have z2f := G0.f2; have z3f := G0.f3)); clear T0; have T0 := T1; clear T1; clear hB hP)
        | (go_at_call 69; refine (wideOf_any z3 z2 z1 z0 _).mono ?_; rintro e w4 ⟨rfl, hB⟩; (first | (have T1 : TwoW w w4 a3 a2 a1 a0 b3 b2 b1 b0 := (by with_reducible exact T0.step hB); replace R0 := R0.step hB; try (replace G0 := G0.step hB; have z0c := G0.c0; have z1c := G0.c1; have z2c := G0.c2; have z3c := G0.c3; have z0f := G0.f0; have z1f := G0.f1; have z2f := G0.f2; have z3f := G0.f3)) | (have T1 : TwoW w w4 a3 a2 a1 a0 b3 b2 b1 b0 := (by with_reducible exact T0.drew.step hB); replace R0 := R0.drew.step hB; try (replace G0 := G0.step hB; have z0c := G0.c0; have z1c := G0.c1; have z2c := G0.c2; have z3c := G0.c3; have z0f := G0.f0; have z1f := G0.f1; have z2f := G0.f2; have z3f := G0.f3)) | (have T1 : TwoW w w4 a3 a2 a1 a0 b3 b2 b1 b0 := (by with_reducible exact (T0.alloc _).step hB); have hg := R0.lt; replace R0 := (R0.alloc _).step hB; have G0 := (Wd.new _ 0 0 0 0 _ rfl).step hB; have z0c := G0.c0; have z1c := G0.c1; have z2c := G0.c2; have z3c := G0.c3; have z0f := G0.f0; have z1f := G0.f1; have z2f := G0.f2; have z3f := G0.f3) | (have T1 : TwoW w w4 a3 a2 a1 a0 b3 b2 b1 b0 := (by with_reducible exact (T0.alloc _).drew.step hB); have hg := R0.lt; replace R0 := (R0.alloc _).drew.step hB; have G0 := (Wd.new _ 0 0 0 0 _ rfl).drew.step hB; have z0c := G0.c0; have z1c := G0.c1; have z2c := G0.c2; have z3c := G0.c3; have z0f := G0.f0; have z1f := G0.f1; have z2f := G0.f2; have z3f := G0.f3)); clear T0; have T0 := T1; clear T1; clear hB))
    all_goals go_wp2_with fail
    all_goals go_meet
    all_goals first | exact cut_new T0 R0 hrel | exact cut_set T0 R0 G0 (by omega) hrel | exact cut_drew (cut_new T0 R0 hrel) | exact cut_drew (cut_set T0 R0 G0 (by omega) hrel)
  case rest =>
    clear T0 R0 tok1
    obtain ⟨g, z3, z2, z1, z0, hp, T0, R0, G0, hg, l3, l2, l1, l0, c, hc0, hc1, heq⟩ := hcut
    subst hp
    have HT := plus_told h3 h2 h1 h0 k3 k2 k1 k0 l3 l2 l1 l0 hc0 hc1 heq
    obtain ⟨ba, hba⟩ : ∃ b, (a3 / 9223372036854775808 == 1) = b := ⟨_, rfl⟩
    obtain ⟨bb, hbb⟩ : ∃ b, (b3 / 9223372036854775808 == 1) = b := ⟨_, rfl⟩
    obtain ⟨bz, hbz⟩ : ∃ b, (z3 / 9223372036854775808 == 1) = b := ⟨_, rfl⟩
    rw [hba, hbb, hbz] at HT
    clear hc0 hc1 heq
    by_cases e1 : ba = bb
    · have e1' : (ba == bb) = true := by simpa using e1
      by_cases e2 : bz = ba
      · rw [if_neg (by intro h; exact h.2 e2)] at HT
        have e2' : (bz == ba) = true := by simpa using e2
        have HT' : Hid _ := HT; clear HT; have HT := HT'; clear HT'
        clear e1 e2
        go_upto_region 2 with fail
        go_region_held3 (fun w' => w'.cell? ⟨w.heap.size, 0, none⟩ = some (.int .u64 a3) ∧ w'.cell? ⟨w.heap.size, 1, none⟩ = some (.int .u64 a2) ∧ w'.cell? ⟨w.heap.size, 2, none⟩ = some (.int .u64 a1) ∧ w'.cell? ⟨w.heap.size, 3, none⟩ = some (.int .u64 a0) ∧ w'.cell? ⟨w.heap.size + 1, 0, none⟩ = some (.int .u64 b3) ∧ w'.cell? ⟨w.heap.size + 1, 1, none⟩ = some (.int .u64 b2) ∧ w'.cell? ⟨w.heap.size + 1, 2, none⟩ = some (.int .u64 b1) ∧ w'.cell? ⟨w.heap.size + 1, 3, none⟩ = some (.int .u64 b0) ∧ w'.cell? ⟨g, 0, none⟩ = some (.int .u64 z3) ∧ w'.cell? ⟨g, 1, none⟩ = some (.int .u64 z2) ∧ w'.cell? ⟨g, 2, none⟩ = some (.int .u64 z1) ∧ w'.cell? ⟨g, 3, none⟩ = some (.int .u64 z0)) (first | (with_reducible exact cells12x T0 G0) | (with_reducible exact cells12x T0.drew G0.drew))
          (first
            | (go_at_call 46; refine (isBelow_any _ _ _ _ (by assumption) _ (by assumption) _).mono ?_; rintro e w1 ⟨rfl, hB⟩; (first | (have T1 : TwoW w w1 a3 a2 a1 a0 b3 b2 b1 b0 := (by with_reducible exact T0.step hB); replace R0 := R0.step hB; replace G0 := G0.step hB) | (have T1 : TwoW w w1 a3 a2 a1 a0 b3 b2 b1 b0 := (by with_reducible exact T0.drew.step hB); replace R0 := R0.drew.step hB; replace G0 := G0.drew.step hB)); clear T0; have T0 := T1; clear T1 hB))
        have r0 := R0.c0; have r1 := R0.c1; have r2 := R0.c2; have r3 := R0.c3; have f0 := R0.f0; have f1 := R0.f1; have f2 := R0.f2; have f3 := R0.f3
        have y0 := G0.c0; have y1 := G0.c1; have y2 := G0.c2; have y3 := G0.c3
        all_goals go_wp2
        all_goals refine bodyPost_ret (v := .tuple #[.agg #[.int .u64 z3, .int .u64 z2, .int .u64 z1, .int .u64 z0], .bool true]) (by simp [results, Try.results33, go_sem, r0, r1, r2, r3]) rfl ?_
        all_goals first | exact tellP_set (by omega) ⟨T0.below, Or.inl ⟨HT.out.1, z3, z2, z1, z0, rfl, l3, l2, l1, l0, HT.out.2⟩⟩ | exact tellP_drew (tellP_set (by omega) ⟨T0.below, Or.inl ⟨HT.out.1, z3, z2, z1, z0, rfl, l3, l2, l1, l0, HT.out.2⟩⟩)
      · rw [if_pos ⟨e1, e2⟩] at HT
        have e2' : (bz == ba) = false := by simpa using e2
        have HT' : Hid _ := HT; clear HT; have HT := HT'; clear HT'
        clear e1 e2
        go_upto_region 2 with fail
        go_region_held3 (fun w' => w'.cell? ⟨w.heap.size, 0, none⟩ = some (.int .u64 a3) ∧ w'.cell? ⟨w.heap.size, 1, none⟩ = some (.int .u64 a2) ∧ w'.cell? ⟨w.heap.size, 2, none⟩ = some (.int .u64 a1) ∧ w'.cell? ⟨w.heap.size, 3, none⟩ = some (.int .u64 a0) ∧ w'.cell? ⟨w.heap.size + 1, 0, none⟩ = some (.int .u64 b3) ∧ w'.cell? ⟨w.heap.size + 1, 1, none⟩ = some (.int .u64 b2) ∧ w'.cell? ⟨w.heap.size + 1, 2, none⟩ = some (.int .u64 b1) ∧ w'.cell? ⟨w.heap.size + 1, 3, none⟩ = some (.int .u64 b0) ∧ w'.cell? ⟨g, 0, none⟩ = some (.int .u64 z3) ∧ w'.cell? ⟨g, 1, none⟩ = some (.int .u64 z2) ∧ w'.cell? ⟨g, 2, none⟩ = some (.int .u64 z1) ∧ w'.cell? ⟨g, 3, none⟩ = some (.int .u64 z0)) (first | (with_reducible exact cells12x T0 G0) | (with_reducible exact cells12x T0.drew G0.drew))
          (first
            | (go_at_call 46; refine (isBelow_any _ _ _ _ (by assumption) _ (by assumption) _).mono ?_; rintro e w1 ⟨rfl, hB⟩; (first | (have T1 : TwoW w w1 a3 a2 a1 a0 b3 b2 b1 b0 := (by with_reducible exact T0.step hB); replace R0 := R0.step hB; replace G0 := G0.step hB) | (have T1 : TwoW w w1 a3 a2 a1 a0 b3 b2 b1 b0 := (by with_reducible exact T0.drew.step hB); replace R0 := R0.drew.step hB; replace G0 := G0.drew.step hB)); clear T0; have T0 := T1; clear T1 hB))
        have r0 := R0.c0; have r1 := R0.c1; have r2 := R0.c2; have r3 := R0.c3; have f0 := R0.f0; have f1 := R0.f1; have f2 := R0.f2; have f3 := R0.f3
        have y0 := G0.c0; have y1 := G0.c1; have y2 := G0.c2; have y3 := G0.c3
        go_wp2
        refine bodyPost_ret (v := .tuple #[.agg #[.int .u64 0, .int .u64 0, .int .u64 0, .int .u64 0], .bool false]) (by simp [results, Try.results33, go_sem, r0, r1, r2, r3]) rfl ?_
        first | exact tellP_set (by omega) ⟨T0.below, Or.inr ⟨HT.out, rfl⟩⟩ | exact tellP_drew (tellP_set (by omega) ⟨T0.below, Or.inr ⟨HT.out, rfl⟩⟩)
    · have e1' : (ba == bb) = false := by simpa using e1
      rw [if_neg (by intro h; exact e1 h.1)] at HT
      have HT' : Hid _ := HT; clear HT; have HT := HT'; clear HT'
      clear e1
      have p0 := T0.a.c0; have p1 := T0.a.c1; have p2 := T0.a.c2; have p3 := T0.a.c3; have q0 := T0.b.c0; have q1 := T0.b.c1; have q2 := T0.b.c2; have q3 := T0.b.c3
      go_upto_region 2 with fail
      go_region_with ((go_at_call 46; refine (isBelow_any _ _ _ _ (by assumption) _ (by assumption) _).mono ?_; rintro e w1 ⟨rfl, hB⟩; (first | (have T1 : TwoW w w1 a3 a2 a1 a0 b3 b2 b1 b0 := (by with_reducible exact T0.step hB); replace R0 := R0.step hB; replace G0 := G0.step hB) | (have T1 : TwoW w w1 a3 a2 a1 a0 b3 b2 b1 b0 := (by with_reducible exact T0.drew.step hB); replace R0 := R0.drew.step hB; replace G0 := G0.drew.step hB)); clear T0; have T0 := T1; clear T1 hB; have p0 := T0.a.c0; have p1 := T0.a.c1; have p2 := T0.a.c2; have p3 := T0.a.c3; have q0 := T0.b.c0; have q1 := T0.b.c1; have q2 := T0.b.c2; have q3 := T0.b.c3))
      all_goals (have r0 := R0.c0; have r1 := R0.c1; have r2 := R0.c2; have r3 := R0.c3; have f0 := R0.f0; have f1 := R0.f1; have f2 := R0.f2; have f3 := R0.f3; have y0 := G0.c0; have y1 := G0.c1; have y2 := G0.c2; have y3 := G0.c3)
      all_goals go_wp2
      all_goals refine bodyPost_ret (v := .tuple #[.agg #[.int .u64 z3, .int .u64 z2, .int .u64 z1, .int .u64 z0], .bool true]) (by simp [results, Try.results33, go_sem, r0, r1, r2, r3]) rfl ?_
      all_goals first | exact tellP_set (by omega) ⟨T0.below, Or.inl ⟨HT.out.1, z3, z2, z1, z0, rfl, l3, l2, l1, l0, HT.out.2⟩⟩ | exact tellP_drew (tellP_set (by omega) ⟨T0.below, Or.inl ⟨HT.out.1, z3, z2, z1, z0, rfl, l3, l2, l1, l0, HT.out.2⟩⟩)
end Go.Proofs.Ytnnojeggjnddpaa

/- Fractions by their own numbers: what is asked of the program and of the model. -/
namespace Go.Proofs.Ytnnojeggjnddpaa
open Go.RowKit
theorem plusZ_det (n m : Int) (hn : told n = true) (hm : told m = true) (w : World) : Calls Try.prog 33 #[W4 n, W4 m] w (VP (tellV (n + m)) w) := by
  obtain ⟨a3, a2, a1, a0⟩ := ww_words n
  obtain ⟨b3, b2, b1, b0⟩ := ww_words m
  refine (implAdd_any (ww3 n) (ww2 n) (ww1 n) (ww0 n) (ww3 m) (ww2 m) (ww1 m) (ww0 m) a3 a2 a1 a0 b3 b2 b1 b0 w).mono ?_
  intro e w' h
  rw [ww_sw hn, ww_sw hm] at h
  exact tellP_VP h
end Go.Proofs.Ytnnojeggjnddpaa
