/- The walks of the pieces of the program's long division: the guess of a digit, the shifts. -/
import Derived.Test.YtddniklhpkagmaaDv64
import Derived.Test.YtddniklhpkagmaaBase3
namespace Go.Proofs.Ytddniklhpkagmaa
open Go.RowKit
def guessV (high low top : Int) : Int := if top ≤ high then 18446744073709551615 else (high * 18446744073709551616 + low) / top
def GuessP (high low top : Int) (w : World) (e : Ending) (w' : World) : Prop := e = .returned (.int .u64 (guessV high low top)) ∧ Below w.heap.size w w'
set_option maxRecDepth 100000 in
set_option maxHeartbeats 400000 in
theorem guess_any (high low top : Int) (h1 : Word high) (h2 : Word low) (h3 : Word top) (w : World) : Calls Try.prog 121 #[.int .u64 high, .int .u64 low, .int .u64 top] w (GuessP high low top w) := by
  by_cases hc : top ≤ high
  · have HG : Hid (guessV high low top = 18446744073709551615) := by show _ = _; unfold guessV; rw [if_pos hc]
    go_enter Try.func121, Try.ntmps121
    go_wp2
    go_ret
    exact ⟨by simp [HG.out], Below.refl _ _⟩
  · have HG : Hid (guessV high low top = (high * 18446744073709551616 + low) / top) := by show _ = _; unfold guessV; rw [if_neg hc]
    go_enter Try.func121, Try.ntmps121
    go_wp2_with fail
    refine (div64_any high low top h1 h2 h3 (by omega) _).mono ?_
    rintro e w1 ⟨rfl, hB⟩
    go_wp2
    go_ret
    exact ⟨by simp [HG.out], hB⟩
theorem list9 {l : List Int} (h : l.length = 9) : ∃ z0 z1 z2 z3 z4 z5 z6 z7 z8, l = [z0, z1, z2, z3, z4, z5, z6, z7, z8] := by
  match l, h with
  | [z0, z1, z2, z3, z4, z5, z6, z7, z8], _ => exact ⟨z0, z1, z2, z3, z4, z5, z6, z7, z8, rfl⟩
theorem list8' {l : List Int} (h : l.length = 8) : ∃ z0 z1 z2 z3 z4 z5 z6 z7, l = [z0, z1, z2, z3, z4, z5, z6, z7] := by
  match l, h with
  | [z0, z1, z2, z3, z4, z5, z6, z7], _ => exact ⟨z0, z1, z2, z3, z4, z5, z6, z7, rfl⟩
/-- A row of words as a value. -/
def agg (xs : List Int) : Value := .agg (xs.map (Value.int .u64)).toArray
def AggP (n : Nat) (v : Int) (w : World) (e : Ending) (w' : World) : Prop := ∃ zs : List Int, e = .returned (agg zs) ∧ zs.length = n ∧ Words zs ∧ val64 zs = v ∧ Below w.heap.size w w'
/-- The answer's block and the row that is made, behind some rounds. -/
structure Mk (w wr : World) (g gp : Nat) (vs : List Value) (zs : List Int) : Prop where
  below : Below w.heap.size w wr
  r : Blk wr g vs
  p : Blk wr gp (zs.map (Value.int .u64))
theorem Mk.drew {w wr : World} {g gp : Nat} {vs : List Value} {zs : List Int} (h : Mk w wr g gp vs zs) : Mk w wr.drew g gp vs zs := ⟨h.below.drew, h.r, h.p⟩
theorem Mk.drewN {w wr : World} {g gp : Nat} {vs : List Value} {zs : List Int} (h : Mk w wr g gp vs zs) (n : Nat) : Mk w (wr.drewN n) g gp vs zs := ⟨bdrew h.below n, h.r, h.p⟩
theorem Mk.set {w wr : World} {g gp : Nat} {vs : List Value} {zs : List Int} (h : Mk w wr g gp vs zs) (hne : g ≠ gp) (hg : w.heap.size ≤ gp) (j : Nat) (hj : j < zs.length) (u : Int) : Mk w (wr.setCell ⟨gp, j, none⟩ (.int .u64 u)) g gp vs (zs.set j u) :=
  ⟨h.below.setCell hg _, h.r.setO hne _, by have := h.p.setI j (by simpa using hj) (.int .u64 u); rwa [← List.map_set] at this⟩
theorem Mk.step {w wr wr' : World} {g gp : Nat} {vs : List Value} {zs : List Int} (h : Mk w wr g gp vs zs) (hB : Below wr.heap.size wr wr') : Mk w wr' g gp vs zs := ⟨h.below.trans (hB.mono h.below.size), h.r.step hB, h.p.step hB⟩
theorem Mk.cp {w wr : World} {g gp : Nat} {vs : List Value} {zs : List Int} (h : Mk w wr g gp vs zs) (j : Nat) (hj : j < zs.length) : wr.cell? ⟨gp, j, none⟩ = some (.int .u64 zs[j]) ∧ wr.frozen? ⟨gp, j, none⟩ = false := ⟨h.p.c j (by simp [hj]), h.p.f j (v := .int .u64 zs[j]) (by simp [hj])⟩
theorem ix8 (x0 x1 x2 x3 x4 x5 x6 x7 : Int) (k : Nat) (hk : k < [x0, x1, x2, x3, x4, x5, x6, x7].length) (w : World) : (Instr.index 62 (.agg #[.int .u64 x0, .int .u64 x1, .int .u64 x2, .int .u64 x3, .int .u64 x4, .int .u64 x5, .int .u64 x6, .int .u64 x7]) (.int .i64 k)).run Try.prog w = .ok (.int .u64 [x0, x1, x2, x3, x4, x5, x6, x7][k]) w := by
  match k, hk with
  | 0, _ => exact (show (Instr.index 62 (.agg #[.int .u64 x0, .int .u64 x1, .int .u64 x2, .int .u64 x3, .int .u64 x4, .int .u64 x5, .int .u64 x6, .int .u64 x7]) (.int .i64 ((0 : Nat) : Int))).run Try.prog w = .ok (.int .u64 x0) w by kernel_rfl)
  | 1, _ => exact (show (Instr.index 62 (.agg #[.int .u64 x0, .int .u64 x1, .int .u64 x2, .int .u64 x3, .int .u64 x4, .int .u64 x5, .int .u64 x6, .int .u64 x7]) (.int .i64 ((1 : Nat) : Int))).run Try.prog w = .ok (.int .u64 x1) w by kernel_rfl)
  | 2, _ => exact (show (Instr.index 62 (.agg #[.int .u64 x0, .int .u64 x1, .int .u64 x2, .int .u64 x3, .int .u64 x4, .int .u64 x5, .int .u64 x6, .int .u64 x7]) (.int .i64 ((2 : Nat) : Int))).run Try.prog w = .ok (.int .u64 x2) w by kernel_rfl)
  | 3, _ => exact (show (Instr.index 62 (.agg #[.int .u64 x0, .int .u64 x1, .int .u64 x2, .int .u64 x3, .int .u64 x4, .int .u64 x5, .int .u64 x6, .int .u64 x7]) (.int .i64 ((3 : Nat) : Int))).run Try.prog w = .ok (.int .u64 x3) w by kernel_rfl)
  | 4, _ => exact (show (Instr.index 62 (.agg #[.int .u64 x0, .int .u64 x1, .int .u64 x2, .int .u64 x3, .int .u64 x4, .int .u64 x5, .int .u64 x6, .int .u64 x7]) (.int .i64 ((4 : Nat) : Int))).run Try.prog w = .ok (.int .u64 x4) w by kernel_rfl)
  | 5, _ => exact (show (Instr.index 62 (.agg #[.int .u64 x0, .int .u64 x1, .int .u64 x2, .int .u64 x3, .int .u64 x4, .int .u64 x5, .int .u64 x6, .int .u64 x7]) (.int .i64 ((5 : Nat) : Int))).run Try.prog w = .ok (.int .u64 x5) w by kernel_rfl)
  | 6, _ => exact (show (Instr.index 62 (.agg #[.int .u64 x0, .int .u64 x1, .int .u64 x2, .int .u64 x3, .int .u64 x4, .int .u64 x5, .int .u64 x6, .int .u64 x7]) (.int .i64 ((6 : Nat) : Int))).run Try.prog w = .ok (.int .u64 x6) w by kernel_rfl)
  | 7, _ => exact (show (Instr.index 62 (.agg #[.int .u64 x0, .int .u64 x1, .int .u64 x2, .int .u64 x3, .int .u64 x4, .int .u64 x5, .int .u64 x6, .int .u64 x7]) (.int .i64 ((7 : Nat) : Int))).run Try.prog w = .ok (.int .u64 x7) w by kernel_rfl)
set_option maxRecDepth 100000 in
set_option maxHeartbeats 1000000 in
theorem liftUp_any (xs : List Int) (r : Nat) (hl : xs.length = 8) (hx : Words xs) (hr : r < 64) (w : World) : Calls Try.prog 102 #[agg xs, .int .i64 r] w (AggP 9 (2 ^ r * val64 xs) w) := by
  have HL : Hid (xs.length = 8) := hl
  have HX : Hid (Words xs) := hx
  obtain ⟨x0, x1, x2, x3, x4, x5, x6, x7, hxs⟩ := list8' hl
  have HA : agg xs = .agg #[.int .u64 x0, .int .u64 x1, .int .u64 x2, .int .u64 x3, .int .u64 x4, .int .u64 x5, .int .u64 x6, .int .u64 x7] := by rw [hxs]; rfl
  have AG := ix8 x0 x1 x2 x3 x4 x5 x6 x7
  rw [← hxs] at AG
  rw [HA]
  clear hl hx HA hxs
  have HS : Mk w (((w.alloc (.cells #[.int .u64 x0, .int .u64 x1, .int .u64 x2, .int .u64 x3, .int .u64 x4, .int .u64 x5, .int .u64 x6, .int .u64 x7] 62)).alloc (.cells #[.int .u64 0, .int .u64 0, .int .u64 0, .int .u64 0, .int .u64 0, .int .u64 0, .int .u64 0, .int .u64 0, .int .u64 0] 121)).alloc (.cells #[.int .u64 0, .int .u64 0, .int .u64 0, .int .u64 0, .int .u64 0, .int .u64 0, .int .u64 0, .int .u64 0, .int .u64 0] 121)) (w.heap.size + 1) (w.heap.size + 1 + 1) (List.replicate 9 (.int .u64 0)) (List.replicate 9 0) :=
    ⟨(((Below.refl _ _).alloc (Nat.le_refl _) _).alloc (by simp) _).alloc (by simp; omega) _, (Blk.new _ [.int .u64 0, .int .u64 0, .int .u64 0, .int .u64 0, .int .u64 0, .int .u64 0, .int .u64 0, .int .u64 0, .int .u64 0] _ (by simp)).alloc _, Blk.new _ [.int .u64 0, .int .u64 0, .int .u64 0, .int .u64 0, .int .u64 0, .int .u64 0, .int .u64 0, .int .u64 0, .int .u64 0] _ (by simp)⟩
  have HI := lu_start xs r
  go_enter Try.func102, Try.ntmps102
  go_wp2
  generalize (((w.alloc (.cells #[.int .u64 x0, .int .u64 x1, .int .u64 x2, .int .u64 x3, .int .u64 x4, .int .u64 x5, .int .u64 x6, .int .u64 x7] 62)).alloc (.cells #[.int .u64 0, .int .u64 0, .int .u64 0, .int .u64 0, .int .u64 0, .int .u64 0, .int .u64 0, .int .u64 0, .int .u64 0] 121)).alloc (.cells #[.int .u64 0, .int .u64 0, .int .u64 0, .int .u64 0, .int .u64 0, .int .u64 0, .int .u64 0, .int .u64 0, .int .u64 0] 121)) = W at *
  go_loopw [9] (fun i wr => ∃ (k : Nat) (zs : List Int), k ≤ 8 ∧ i = .int .i64 k ∧ LuI xs zs r k ∧ Mk w wr (w.heap.size + 1) (w.heap.size + 1 + 1) (List.replicate 9 (.int .u64 0)) zs) (fun i _ => 8 - (intOf i).toNat)
  case atStart => exact ⟨0, _, by omega, rfl, HI, HS⟩
  case round =>
    clear HI HS
    obtain ⟨k, zs, hk, rfl, hI, hM⟩ := hrel
    have hlen := hI.len
    by_cases hk8 : k < 8
    · have hkx : k < xs.length := by have := HL.out; omega
      have ag := AG k hkx
      have hz : k < zs.length := by omega
      obtain ⟨q1, q2⟩ := hM.cp k hz
      obtain ⟨z0, z1, z2, z3⟩ := lu_words hI hkx hr HX.out hz
      obtain ⟨u, hu⟩ : ∃ u, u = zs[k] + (xs[k] * 2 ^ r) % 18446744073709551616 := ⟨_, rfl⟩
      obtain ⟨v, hv⟩ : ∃ v, v = xs[k] / 2 ^ (64 - r) := ⟨_, rfl⟩
      have hor : bits .or .u64 zs[k] (IntKind.u64.wrap (xs[k] * 2 ^ r)) = u := by rw [hu]; exact or_shl64 _ _ _ (by omega) z0 z1
      have R1 := lu_step hI hkx hk8 hr HX.out hz u v hu hv
      have hz1 : k + 1 < zs.length := by omega
      obtain ⟨q3, q4⟩ := hM.cp (k + 1) hz1
      have M1 := (hM.set (by omega) (by omega) k hz u).set (by omega) (by omega) (k + 1) (by simpa using hz1) v
      have hkI : (k : Int) < 8 := by omega
      rw [hv] at M1 R1
      clear hI hM z0 z1 z2 z3 hu hv AG hlen
      go_wp2
      go_region
      go_wp2
      go_roundw
      case rel => exact ⟨k + 1, _, by omega, by go_num, R1, by first | exact M1 | exact Mk.drew M1⟩
      case measure => simp [intOf]; omega
    · obtain rfl : k = 8 := by omega
      have HV := lu_end hI HL.out
      have HW := hI.wds
      obtain ⟨z0, z1, z2, z3, z4, z5, z6, z7, z8, rfl⟩ := list9 hlen
      obtain ⟨c0, f0⟩ := hM.cp 0 (by simp)
      obtain ⟨c1, f1⟩ := hM.cp 1 (by simp)
      obtain ⟨c2, f2⟩ := hM.cp 2 (by simp)
      obtain ⟨c3, f3⟩ := hM.cp 3 (by simp)
      obtain ⟨c4, f4⟩ := hM.cp 4 (by simp)
      obtain ⟨c5, f5⟩ := hM.cp 5 (by simp)
      obtain ⟨c6, f6⟩ := hM.cp 6 (by simp)
      obtain ⟨c7, f7⟩ := hM.cp 7 (by simp)
      obtain ⟨c8, f8⟩ := hM.cp 8 (by simp)
      have d0 := hM.r.c 0 rfl; have e0 := hM.r.f 0 rfl
      have d1 := hM.r.c 1 rfl; have e1 := hM.r.f 1 rfl
      have d2 := hM.r.c 2 rfl; have e2 := hM.r.f 2 rfl
      have d3 := hM.r.c 3 rfl; have e3 := hM.r.f 3 rfl
      have d4 := hM.r.c 4 rfl; have e4 := hM.r.f 4 rfl
      have d5 := hM.r.c 5 rfl; have e5 := hM.r.f 5 rfl
      have d6 := hM.r.c 6 rfl; have e6 := hM.r.f 6 rfl
      have d7 := hM.r.c 7 rfl; have e7 := hM.r.f 7 rfl
      have d8 := hM.r.c 8 rfl; have e8 := hM.r.f 8 rfl
      have HB := hM.below
      simp only [List.getElem_cons_zero, List.getElem_cons_succ] at c0 c1 c2 c3 c4 c5 c6 c7 c8
      clear hI hM AG hlen
      go_wp2
      refine bodyPost_ret (v := .agg #[.int .u64 z0, .int .u64 z1, .int .u64 z2, .int .u64 z3, .int .u64 z4, .int .u64 z5, .int .u64 z6, .int .u64 z7, .int .u64 z8]) (by simp [results, Try.results102, go_sem, d0, d1, d2, d3, d4, d5, d6, d7, d8]) rfl ?_
      refine ⟨[z0, z1, z2, z3, z4, z5, z6, z7, z8], rfl, rfl, HW, HV, ?_⟩
      repeat' (refine Below.setCell ?_ (by simp) _)
      exact HB
end Go.Proofs.Ytddniklhpkagmaa
