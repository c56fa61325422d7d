/- The walks of the pieces of the program's long division: the shift down, a number times a digit. -/
import Derived.Test.YtddniklhpkagmaaDivW
import Derived.Test.YtddniklhpkagmaaBase3
namespace Go.Proofs.Ytddniklhpkagmaa
open Go.RowKit
/-- A row that is made, beside one that is read. -/
structure MkX (w wr : World) (gx g gp : Nat) (xs : List Int) (vs : List Value) (zs : List Int) : Prop where
  m : Mk w wr g gp vs zs
  x : Blk wr gx (xs.map (Value.int .u64))
theorem MkX.drewN {w wr : World} {gx g gp : Nat} {xs : List Int} {vs : List Value} {zs : List Int} (h : MkX w wr gx g gp xs vs zs) (n : Nat) : MkX w (wr.drewN n) gx g gp xs vs zs := ⟨h.m.drewN n, h.x⟩
theorem MkX.drew {w wr : World} {gx g gp : Nat} {xs : List Int} {vs : List Value} {zs : List Int} (h : MkX w wr gx g gp xs vs zs) : MkX w wr.drew gx g gp xs vs zs := ⟨h.m.drew, h.x⟩
theorem MkX.set {w wr : World} {gx g gp : Nat} {xs : List Int} {vs : List Value} {zs : List Int} (h : MkX w wr gx g gp xs vs zs) (hx : gx ≠ gp) (hne : g ≠ gp) (hg : w.heap.size ≤ gp) (j : Nat) (hj : j < zs.length) (u : Int) : MkX w (wr.setCell ⟨gp, j, none⟩ (.int .u64 u)) gx g gp xs vs (zs.set j u) := ⟨h.m.set hne hg j hj u, h.x.setO hx _⟩
theorem MkX.cx {w wr : World} {gx g gp : Nat} {xs : List Int} {vs : List Value} {zs : List Int} (h : MkX w wr gx g gp xs vs zs) (j : Nat) (hj : j < xs.length) : wr.cell? ⟨gx, j, none⟩ = some (.int .u64 xs[j]) := h.x.c j (by simp [hj])
theorem words_zero (n : Nat) : Words (List.replicate n 0) := by
  intro d hd
  rw [List.eq_of_mem_replicate hd]; exact ⟨by decide, by decide⟩
set_option maxRecDepth 100000 in
set_option maxHeartbeats 1000000 in
theorem liftDown_any (us : List Int) (r : Nat) (m : Int) (hl : us.length = 9) (hx : Words us) (hr : r < 64) (hm : val64 us = 2 ^ r * m) (hb : m < pw64 8) (w : World) : Calls Try.prog 104 #[agg us, .int .i64 r] w (AggP 8 m w) := by
  have HL : Hid (us.length = 9) := hl
  have HX : Hid (Words us) := hx
  have HM : Hid (val64 us = 2 ^ r * m) := hm
  have HBD : Hid (m < pw64 8) := hb
  obtain ⟨x0, x1, x2, x3, x4, x5, x6, x7, x8, hxs⟩ := list9 hl
  have HA : agg us = .agg #[.int .u64 x0, .int .u64 x1, .int .u64 x2, .int .u64 x3, .int .u64 x4, .int .u64 x5, .int .u64 x6, .int .u64 x7, .int .u64 x8] := by rw [hxs]; rfl
  have AX : us.map (Value.int .u64) = [.int .u64 x0, .int .u64 x1, .int .u64 x2, .int .u64 x3, .int .u64 x4, .int .u64 x5, .int .u64 x6, .int .u64 x7, .int .u64 x8] := by rw [hxs]; rfl
  rw [HA]
  have HS : MkX w (((w.alloc (.cells #[.int .u64 x0, .int .u64 x1, .int .u64 x2, .int .u64 x3, .int .u64 x4, .int .u64 x5, .int .u64 x6, .int .u64 x7, .int .u64 x8] 121)).alloc (.cells #[.int .u64 0, .int .u64 0, .int .u64 0, .int .u64 0, .int .u64 0, .int .u64 0, .int .u64 0, .int .u64 0] 62)).alloc (.cells #[.int .u64 0, .int .u64 0, .int .u64 0, .int .u64 0, .int .u64 0, .int .u64 0, .int .u64 0, .int .u64 0] 62)) w.heap.size (w.heap.size + 1) (w.heap.size + 1 + 1) us (List.replicate 8 (.int .u64 0)) (List.replicate 8 0) :=
    ⟨⟨(((Below.refl _ _).alloc (Nat.le_refl _) _).alloc (by simp) _).alloc (by simp; omega) _, (Blk.new _ [.int .u64 0, .int .u64 0, .int .u64 0, .int .u64 0, .int .u64 0, .int .u64 0, .int .u64 0, .int .u64 0] _ (by simp)).alloc _, Blk.new _ [.int .u64 0, .int .u64 0, .int .u64 0, .int .u64 0, .int .u64 0, .int .u64 0, .int .u64 0, .int .u64 0] _ (by simp)⟩, by rw [AX]; exact ((Blk.new w _ _ rfl).alloc _).alloc _⟩
  clear hl hx HA hxs AX hm hb
  have HI := ld_start us (List.replicate 8 0) r rfl (words_zero 8)
  go_enter Try.func104, Try.ntmps104
  go_wp2
  generalize (((w.alloc (.cells #[.int .u64 x0, .int .u64 x1, .int .u64 x2, .int .u64 x3, .int .u64 x4, .int .u64 x5, .int .u64 x6, .int .u64 x7, .int .u64 x8] 121)).alloc (.cells #[.int .u64 0, .int .u64 0, .int .u64 0, .int .u64 0, .int .u64 0, .int .u64 0, .int .u64 0, .int .u64 0] 62)).alloc (.cells #[.int .u64 0, .int .u64 0, .int .u64 0, .int .u64 0, .int .u64 0, .int .u64 0, .int .u64 0, .int .u64 0] 62)) = W at *
  go_loopw [7] (fun i wr => ∃ (k : Nat) (zs : List Int), k ≤ 8 ∧ i = .int .i64 k ∧ LdI us zs r k ∧ MkX w wr w.heap.size (w.heap.size + 1) (w.heap.size + 1 + 1) us (List.replicate 8 (.int .u64 0)) zs) (fun i _ => 8 - (intOf i).toNat)
  case atStart => exact ⟨0, _, by omega, rfl, HI, HS⟩
  case round =>
    clear HI HS
    obtain ⟨k, zs, hk, rfl, hI, hM⟩ := hrel
    have hlen := hI.len
    by_cases hk8 : k < 8
    · have hkx : k < us.length := by have := HL.out; omega
      have hkx1 : k + 1 < us.length := by have := HL.out; omega
      have hz : k < zs.length := by omega
      have q0 := hM.cx k hkx
      have q3 := hM.cx (k + 1) hkx1
      obtain ⟨q1, q2⟩ := hM.m.cp k hz
      obtain ⟨z0, z1, z2⟩ := ld_words hkx hkx1 hr HX.out
      obtain ⟨u, hu⟩ : ∃ u, u = us[k] / 2 ^ r + (us[k + 1] * 2 ^ (64 - r)) % 18446744073709551616 := ⟨_, rfl⟩
      have hor : bits .or .u64 (us[k] / 2 ^ r) (IntKind.u64.wrap (us[k + 1] * 2 ^ (64 - r))) = u := by rw [hu]; exact or_shl64 _ _ _ (by omega) z0 z1
      have R1 := ld_step hI hkx hkx1 hr HX.out hz u hu
      have M1 := hM.set (by omega) (by omega) (by omega) k hz u
      have hkI : (k : Int) < 8 := by omega
      have hkJ : (k : Int) < 9 := by omega
      have hkK : (k : Int) + 1 < 9 := by omega
      clear hI hM z0 z1 z2 hu hlen
      go_wp2
      go_region
      go_wp2
      go_roundw
      case rel => exact ⟨k + 1, _, by omega, by go_num, R1, by first | exact M1 | exact M1.drew⟩
      case measure => simp [intOf]; omega
    · obtain rfl : k = 8 := by omega
      have HV := ld_end hI HL.out HX.out HM.out HBD.out
      have HW := hI.wds
      replace hM := hM.m
      obtain ⟨z0, z1, z2, z3, z4, z5, z6, z7, rfl⟩ := list8' hlen
      obtain ⟨c0, f0⟩ := hM.cp 0 (by simp)
      obtain ⟨c1, f1⟩ := hM.cp 1 (by simp)
      obtain ⟨c2, f2⟩ := hM.cp 2 (by simp)
      obtain ⟨c3, f3⟩ := hM.cp 3 (by simp)
      obtain ⟨c4, f4⟩ := hM.cp 4 (by simp)
      obtain ⟨c5, f5⟩ := hM.cp 5 (by simp)
      obtain ⟨c6, f6⟩ := hM.cp 6 (by simp)
      obtain ⟨c7, f7⟩ := hM.cp 7 (by simp)
      have d0 := hM.r.c 0 rfl; have e0 := hM.r.f 0 rfl
      have d1 := hM.r.c 1 rfl; have e1 := hM.r.f 1 rfl
      have d2 := hM.r.c 2 rfl; have e2 := hM.r.f 2 rfl
      have d3 := hM.r.c 3 rfl; have e3 := hM.r.f 3 rfl
      have d4 := hM.r.c 4 rfl; have e4 := hM.r.f 4 rfl
      have d5 := hM.r.c 5 rfl; have e5 := hM.r.f 5 rfl
      have d6 := hM.r.c 6 rfl; have e6 := hM.r.f 6 rfl
      have d7 := hM.r.c 7 rfl; have e7 := hM.r.f 7 rfl
      have HB := hM.below
      simp only [List.getElem_cons_zero, List.getElem_cons_succ] at c0 c1 c2 c3 c4 c5 c6 c7
      clear hI hM hlen
      go_wp2
      refine bodyPost_ret (v := .agg #[.int .u64 z0, .int .u64 z1, .int .u64 z2, .int .u64 z3, .int .u64 z4, .int .u64 z5, .int .u64 z6, .int .u64 z7]) (by simp [results, Try.results104, go_sem, d0, d1, d2, d3, d4, d5, d6, d7]) rfl ?_
      refine ⟨[z0, z1, z2, z3, z4, z5, z6, z7], rfl, rfl, HW, HV, ?_⟩
      repeat' (refine Below.setCell ?_ (by simp) _)
      exact HB

/-- Between the rounds of the product with a digit. -/
structure TdI (ys zs : List Int) (d o : Int) (k : Nat) : Prop where
  len : zs.length = 9
  wds : Words zs
  eq : val64 zs + o * pw64 k = d * val64 (ys.take k)
  zero : ∀ j, k ≤ j → (h : j < zs.length) → zs[j] = 0
theorem td_start (ys : List Int) (d : Int) : TdI ys (List.replicate 9 0) d 0 0 := ⟨rfl, words_zero 9, by simp [val64], fun j _ h => List.getElem_replicate _⟩
theorem td_arith {P o : Int} (p0 : 0 ≤ P) (p1 : P ≤ 340282366920938463426481119284349108225) (ho : Word o) :
    Word (P / 18446744073709551616) ∧ Word (P % 18446744073709551616) ∧ (P % 18446744073709551616 + o) % 18446744073709551616 = (P + o) % 18446744073709551616 ∧
    P / 18446744073709551616 + (P % 18446744073709551616 + o) / 18446744073709551616 = (P + o) / 18446744073709551616 ∧ Word ((P + o) / 18446744073709551616) ∧ Word ((P + o) % 18446744073709551616) := by
  unfold Word at *
  refine ⟨?_, ?_, ?_, ?_, ?_, ?_⟩ <;> omega
theorem td_step {ys zs : List Int} {d o : Int} {k : Nat} (h : TdI ys zs d o k) (hk : k < ys.length) (hj : k < zs.length) (T : Int) (hT : T = ys[k] * d + o) (hw : Word (T % 18446744073709551616)) :
    TdI ys (zs.set k (T % 18446744073709551616)) d (T / 18446744073709551616) (k + 1) := by
  refine ⟨by simpa using h.len, words_set h.wds _ hw, ?_, fun j hj1 hj2 => ?_⟩
  · rw [val64_set zs _ hj, h.zero k (Nat.le_refl _) hj, pw64, val64_take ys k hk]
    have e := h.eq
    have e2 : T = T % 18446744073709551616 + 18446744073709551616 * (T / 18446744073709551616) := by omega
    generalize T / 18446744073709551616 = q at *
    generalize T % 18446744073709551616 = r at *
    generalize ys[k] = yk at *
    generalize pw64 k = p at *
    subst e2
    grind
  · have hj3 : j < zs.length := by simpa using hj2
    rw [List.getElem_set_ne (by omega)]
    exact h.zero j (by omega) hj3
theorem td_out {ys zs : List Int} {d o : Int} {n : Nat} (h : TdI ys zs d o n) (hj : n < zs.length) (ho : Word o) : (zs.set n o).length = 9 ∧ Words (zs.set n o) ∧ val64 (zs.set n o) = d * val64 (ys.take n) := by
  refine ⟨by simpa using h.len, words_set h.wds _ ho, ?_⟩
  rw [val64_set zs _ hj, h.zero n (Nat.le_refl _) hj, ← h.eq, Int.sub_zero, Int.mul_comm o]
theorem mul64d (x y hi lo : Int) (hx : Word x) (hy : Word y) (h1 : x * y / 18446744073709551616 = hi) (h2 : x * y % 18446744073709551616 = lo) (w : World) : Calls Try.prog 113 #[.int .u64 x, .int .u64 y] w (fun e w' => e = .returned (.tuple #[.int .u64 hi, .int .u64 lo]) ∧ w' = w) := by
  refine (mul64 x y hx hy w).mono ?_
  rintro e w' ⟨rfl, rfl⟩
  rw [h1, h2]
  exact ⟨rfl, rfl⟩
theorem add64d (x y s c : Int) (hx : Word x) (hy : Word y) (h1 : (x + y) % 18446744073709551616 = s) (h2 : (x + y) / 18446744073709551616 = c) (w : World) : (callFunc 114 #[.int .u64 x, .int .u64 y, .int .u64 0]).run Try.prog w = .ok (.value (.tuple #[.int .u64 s, .int .u64 c])) w := by
  rw [add64 x y 0 hx hy (by decide) (by decide) w, Int.add_zero, h1, h2]
theorem arr9 : Try.prog.arrayLen 121 = 9 := by kernel_rfl
theorem und9 : Try.prog.underlying 121 = some (.array (Try.prog.arrayLen 121) (Try.prog.elem 121)) := by kernel_rfl
theorem siz9 (w : World) : (sizeOf (Try.prog.elem 121)).run Try.prog w = .ok 1 w := by kernel_rfl
theorem slice9_h (g n : Nat) (hn : n ≤ 9) (w : World) : (Instr.sliceAt 121 (.pointer (some ⟨g, 0, none⟩)) none (some (.int .i64 n)) none).run Try.prog w = .ok (.slice (some ⟨g, 0, none⟩) n 9) w := by
  rw [run_sliceAt_array_h w _ _ und9 _ _ (by omega) (by rw [arr9]; omega), siz9, arr9]
  simp [Result.andThen, slicedAt, Addr.add]
theorem slice9_j (g n : Nat) (hn : n ≤ 9) (j : Int) (hj : j = n) (w : World) : (Instr.sliceAt 121 (.pointer (some ⟨g, 0, none⟩)) none (some (.int .i64 j)) none).run Try.prog w = .ok (.slice (some ⟨g, 0, none⟩) n 9) w := by
  subst hj
  exact slice9_h g n hn w
theorem slice9_lh (g l h : Nat) (hl : l ≤ h) (hn : h ≤ 9) (hl9 : l < 9) (i j : Int) (hi : i = l) (hj : j = h) (w : World) : (Instr.sliceAt 121 (.pointer (some ⟨g, 0, none⟩)) (some (.int .i64 i)) (some (.int .i64 j)) none).run Try.prog w = .ok (.slice (some ⟨g, l, none⟩) (h - l) (9 - l)) w := by
  subst hi hj
  rw [run_sliceAt_array_lh w _ _ und9 _ _ _ _ (by omega) (by omega) (by rw [arr9]; omega), siz9, arr9]
  simp only [Result.andThen, slicedAt, Addr.add, Int.toNat_natCast, Nat.mul_one, Nat.zero_add]
  rw [if_neg (by omega)]
  split
  · next h0 => rw [h0]
  · rfl
set_option maxRecDepth 100000 in
set_option maxHeartbeats 2000000 in
theorem timesDigit_any (ys : List Int) (n : Nat) (d : Int) (hl : ys.length = 9) (hx : Words ys) (hd : Word d) (hn : n ≤ 8) (w : World) : Calls Try.prog 122 #[agg ys, .int .i64 n, .int .u64 d] w (AggP 9 (d * val64 (ys.take n)) w) := by
  have HL : Hid (ys.length = 9) := hl
  have HX : Hid (Words ys) := hx
  obtain ⟨x0, x1, x2, x3, x4, x5, x6, x7, x8, hxs⟩ := list9 hl
  have HA : agg ys = .agg #[.int .u64 x0, .int .u64 x1, .int .u64 x2, .int .u64 x3, .int .u64 x4, .int .u64 x5, .int .u64 x6, .int .u64 x7, .int .u64 x8] := by rw [hxs]; rfl
  have AX : ys.map (Value.int .u64) = [.int .u64 x0, .int .u64 x1, .int .u64 x2, .int .u64 x3, .int .u64 x4, .int .u64 x5, .int .u64 x6, .int .u64 x7, .int .u64 x8] := by rw [hxs]; rfl
  rw [HA]
  have HS : MkX w (((w.alloc (.cells #[.int .u64 x0, .int .u64 x1, .int .u64 x2, .int .u64 x3, .int .u64 x4, .int .u64 x5, .int .u64 x6, .int .u64 x7, .int .u64 x8] 121)).alloc (.cells #[.int .u64 0, .int .u64 0, .int .u64 0, .int .u64 0, .int .u64 0, .int .u64 0, .int .u64 0, .int .u64 0, .int .u64 0] 121)).alloc (.cells #[.int .u64 0, .int .u64 0, .int .u64 0, .int .u64 0, .int .u64 0, .int .u64 0, .int .u64 0, .int .u64 0, .int .u64 0] 121)) w.heap.size (w.heap.size + 1) (w.heap.size + 1 + 1) ys (List.replicate 9 (.int .u64 0)) (List.replicate 9 0) :=
    ⟨⟨(((Below.refl _ _).alloc (Nat.le_refl _) _).alloc (by simp) _).alloc (by simp; omega) _, (Blk.new _ [.int .u64 0, .int .u64 0, .int .u64 0, .int .u64 0, .int .u64 0, .int .u64 0, .int .u64 0, .int .u64 0, .int .u64 0] _ (by simp)).alloc _, Blk.new _ [.int .u64 0, .int .u64 0, .int .u64 0, .int .u64 0, .int .u64 0, .int .u64 0, .int .u64 0, .int .u64 0, .int .u64 0] _ (by simp)⟩, by rw [AX]; exact ((Blk.new w _ _ rfl).alloc _).alloc _⟩
  clear hl hx HA hxs AX
  have HI := td_start ys d
  have SL := slice9_h w.heap.size n (by omega)
  go_enter Try.func122, Try.ntmps122
  go_wp2
  generalize (((w.alloc (.cells #[.int .u64 x0, .int .u64 x1, .int .u64 x2, .int .u64 x3, .int .u64 x4, .int .u64 x5, .int .u64 x6, .int .u64 x7, .int .u64 x8] 121)).alloc (.cells #[.int .u64 0, .int .u64 0, .int .u64 0, .int .u64 0, .int .u64 0, .int .u64 0, .int .u64 0, .int .u64 0, .int .u64 0] 121)).alloc (.cells #[.int .u64 0, .int .u64 0, .int .u64 0, .int .u64 0, .int .u64 0, .int .u64 0, .int .u64 0, .int .u64 0, .int .u64 0] 121)) = W at *
  go_loopw [8, 17] (fun o i wr => ∃ (k : Nat) (ov : Int) (zs : List Int), k ≤ n ∧ i = .int .i64 k ∧ Word ov ∧ o = .int .u64 ov ∧ TdI ys zs d ov k ∧ MkX w wr w.heap.size (w.heap.size + 1) (w.heap.size + 1 + 1) ys (List.replicate 9 (.int .u64 0)) zs) (fun _ i _ => n - (intOf i).toNat)
  case atStart => exact ⟨0, 0, _, by omega, rfl, ⟨by decide, by decide⟩, rfl, HI, HS⟩
  case round =>
    clear HI HS SL
    obtain ⟨k, ov, zs, hk, rfl, ho, rfl, hI, hM⟩ := hrel
    have hlen := hI.len
    by_cases hkn : k < n
    · have hkx : k < ys.length := by have := HL.out; omega
      have hz : k < zs.length := by omega
      have q0 := hM.cx k hkx
      obtain ⟨q1, q2⟩ := hM.m.cp k hz
      have HWY := words_at HX.out k hkx
      obtain ⟨P0, P1⟩ := word_mul HWY hd
      obtain ⟨hi, ehi⟩ : ∃ v, ys[k] * d / 18446744073709551616 = v := ⟨_, rfl⟩
      obtain ⟨lo, elo⟩ : ∃ v, ys[k] * d % 18446744073709551616 = v := ⟨_, rfl⟩
      obtain ⟨t1, t2, t3, t4, t5, t6⟩ := td_arith P0 P1 ho
      rw [ehi] at t1 t4
      rw [elo] at t2 t3 t4
      have M1 := mul64d ys[k] d hi lo HWY hd ehi elo
      obtain ⟨n1, en1⟩ : ∃ v, (lo + ov) % 18446744073709551616 = v := ⟨_, rfl⟩
      obtain ⟨c1, ec1⟩ : ∃ v, (lo + ov) / 18446744073709551616 = v := ⟨_, rfl⟩
      have A1 := add64d lo ov n1 c1 t2 ho en1 ec1
      rw [en1] at t3
      rw [ec1] at t4
      have R1 := td_step hI hkx hz _ rfl t6
      have R2 := fun nq => (hM.drewN nq).set (by omega) (by omega) (by omega) k hz n1
      have R3 := hM.set (by omega) (by omega) (by omega) k hz n1
      rw [← t3, ← t4] at R1
      rw [← t4] at t5
      have d1 : 0 ≤ hi := t1.1
      have d2 : 0 ≤ c1 := by rw [← ec1]; have := t2.1; have := ho.1; omega
      obtain ⟨d4, d5⟩ : 0 ≤ hi + c1 ∧ hi + c1 < 18446744073709551616 := t5
      have hkI : (k : Int) < n := by omega
      have hkJ : (k : Int) < 9 := by omega
      clear hI hM hlen t1 t2 t3 t4 t6 P0 P1 ehi elo en1 ec1 HWY
      go_wp2_with fail
      refine (M1 _).mono ?_
      rintro e w1 ⟨rfl, rfl⟩
      clear M1
      go_wp2
      go_roundw
      case rel => exact ⟨k + 1, _, _, by omega, by go_num, ⟨d4, d5⟩, rfl, R1, R3⟩
      case measure => simp [intOf]; omega
    · obtain rfl : k = n := by omega
      have hz : k < zs.length := by omega
      obtain ⟨q1, q2⟩ := hM.m.cp k hz
      obtain ⟨E1, HW, HV⟩ := td_out hI hz ho
      replace hM : Mk w _ _ _ _ _ := (hM.set (by omega) (by omega) (by omega) k hz ov).m
      clear hI
      go_upto_region 12 with fail
      clear q1 q2 hz
      generalize wr.setCell ⟨w.heap.size + 1 + 1, k, none⟩ (.int .u64 ov) = wr at *
      generalize zs.set k ov = zs at *
      clear hlen
      have hlen := E1
      obtain ⟨z0, z1, z2, z3, z4, z5, z6, z7, z8, rfl⟩ := list9 hlen
      obtain ⟨c0, f0⟩ := hM.cp 0 (by simp)
      obtain ⟨c1, f1⟩ := hM.cp 1 (by simp)
      obtain ⟨c2, f2⟩ := hM.cp 2 (by simp)
      obtain ⟨c3, f3⟩ := hM.cp 3 (by simp)
      obtain ⟨c4, f4⟩ := hM.cp 4 (by simp)
      obtain ⟨c5, f5⟩ := hM.cp 5 (by simp)
      obtain ⟨c6, f6⟩ := hM.cp 6 (by simp)
      obtain ⟨c7, f7⟩ := hM.cp 7 (by simp)
      obtain ⟨c8, f8⟩ := hM.cp 8 (by simp)
      have d0 := hM.r.c 0 rfl; have e0 := hM.r.f 0 rfl
      have d1 := hM.r.c 1 rfl; have e1 := hM.r.f 1 rfl
      have d2 := hM.r.c 2 rfl; have e2 := hM.r.f 2 rfl
      have d3 := hM.r.c 3 rfl; have e3 := hM.r.f 3 rfl
      have d4 := hM.r.c 4 rfl; have e4 := hM.r.f 4 rfl
      have d5 := hM.r.c 5 rfl; have e5 := hM.r.f 5 rfl
      have d6 := hM.r.c 6 rfl; have e6 := hM.r.f 6 rfl
      have d7 := hM.r.c 7 rfl; have e7 := hM.r.f 7 rfl
      have d8 := hM.r.c 8 rfl; have e8 := hM.r.f 8 rfl
      have HB := hM.below
      simp only [List.getElem_cons_zero, List.getElem_cons_succ] at c0 c1 c2 c3 c4 c5 c6 c7 c8
      clear hM hlen E1
      go_wp2
      refine bodyPost_ret (v := .agg #[.int .u64 z0, .int .u64 z1, .int .u64 z2, .int .u64 z3, .int .u64 z4, .int .u64 z5, .int .u64 z6, .int .u64 z7, .int .u64 z8]) (by simp [results, Try.results122, go_sem, d0, d1, d2, d3, d4, d5, d6, d7, d8]) rfl ?_
      refine ⟨[z0, z1, z2, z3, z4, z5, z6, z7, z8], rfl, rfl, HW, HV, ?_⟩
      repeat' (refine Below.setCell ?_ (by simp) _)
      exact HB
end Go.Proofs.Ytddniklhpkagmaa
