/- The walks of a number's size in eight words, and of the common divisor of two words. -/
import Derived.Test.YtllfpnnngdphfaaDivL
import Derived.Test.YtllfpnnngdphfaaBase6
namespace Go.Proofs.Ytllfpnnngdphfaa
open Go.RowKit
def BelowLP (x7 : Int) (w : World) (e : Ending) (w' : World) : Prop := e = .returned (.bool (x7 / 9223372036854775808 == 1)) ∧ Below w.heap.size w w'
set_option maxRecDepth 100000 in
set_option maxHeartbeats 400000 in
theorem isBelowL_any (x0 x1 x2 x3 x4 x5 x6 x7 : Int) (w : World) : Calls Try.prog 63 #[L8 x0 x1 x2 x3 x4 x5 x6 x7] w (BelowLP x7 w) := by
  go_enter Try.func63, Try.ntmps63
  go_wp2
  go_ret
  exact ⟨rfl, (Below.refl _ _).alloc (Nat.le_refl _) _⟩
theorem sl_size {z0 z1 z2 z3 z4 z5 z6 z7 x0 x1 x2 x3 x4 x5 x6 x7 : Int} (wx : Words [x0, x1, x2, x3, x4, x5, x6, x7]) (wz : Words [z0, z1, z2, z3, z4, z5, z6, z7]) (h : ∃ c, 0 ≤ c ∧ c ≤ 1 ∧ val64 [z0, z1, z2, z3, z4, z5, z6, z7] = if (x7 / 9223372036854775808 == 1) = true then 0 - val64 [x0, x1, x2, x3, x4, x5, x6, x7] + c * 13407807929942597099574024998205846127479365820592393377723561443721764030073546976801874298166903427690031858186486050853753882811946569946433649006084096 else val64 [x0, x1, x2, x3, x4, x5, x6, x7]) :
    val64 [z0, z1, z2, z3, z4, z5, z6, z7] = ((sl x0 x1 x2 x3 x4 x5 x6 x7).natAbs : Int) := by
  obtain ⟨t1, t2, t3⟩ := sl_top wx
  obtain ⟨_, s2, s3⟩ := sl_top wz
  obtain ⟨c, c0, c1, hv⟩ := h
  have h7 : Word x7 := words_at wx 7 (by simp)
  unfold Word at h7
  unfold sl
  by_cases hb : x7 < 9223372036854775808
  · rw [if_pos hb]
    have : (x7 / 9223372036854775808 == 1) = false := beq_eq_false_iff_ne.2 (by omega)
    rw [this] at hv
    simp only [Bool.false_eq_true, if_false] at hv
    omega
  · rw [if_neg hb]
    have : (x7 / 9223372036854775808 == 1) = true := beq_iff_eq.2 (by omega)
    rw [this] at hv
    simp only [if_true] at hv
    have := mt t1.2 hb
    obtain rfl | rfl : c = 0 ∨ c = 1 := by omega
    · omega
    · omega
theorem sz_cells {x0 x1 x2 x3 x4 x5 x6 x7 : Int} {w W : World} (h : Blk W w.heap.size [.int .u64 x0, .int .u64 x1, .int .u64 x2, .int .u64 x3, .int .u64 x4, .int .u64 x5, .int .u64 x6, .int .u64 x7]) : (fun w' => w'.cell? ⟨w.heap.size, 0, none⟩ = some (.int .u64 x0) ∧ w'.cell? ⟨w.heap.size, 1, none⟩ = some (.int .u64 x1) ∧ w'.cell? ⟨w.heap.size, 2, none⟩ = some (.int .u64 x2) ∧ w'.cell? ⟨w.heap.size, 3, none⟩ = some (.int .u64 x3) ∧ w'.cell? ⟨w.heap.size, 4, none⟩ = some (.int .u64 x4) ∧ w'.cell? ⟨w.heap.size, 5, none⟩ = some (.int .u64 x5) ∧ w'.cell? ⟨w.heap.size, 6, none⟩ = some (.int .u64 x6) ∧ w'.cell? ⟨w.heap.size, 7, none⟩ = some (.int .u64 x7)) W :=
  ⟨h.c 0 rfl, h.c 1 rfl, h.c 2 rfl, h.c 3 rfl, h.c 4 rfl, h.c 5 rfl, h.c 6 rfl, h.c 7 rfl⟩
set_option maxRecDepth 100000 in
set_option maxHeartbeats 1000000 in
theorem sizeL_any (x0 x1 x2 x3 x4 x5 x6 x7 : Int) (wx : Words [x0, x1, x2, x3, x4, x5, x6, x7]) (w : World) : Calls Try.prog 35 #[L8 x0 x1 x2 x3 x4 x5 x6 x7] w (AggP 8 ((sl x0 x1 x2 x3 x4 x5 x6 x7).natAbs : Int) w) := by
  have X0 := (Blk.new w [.int .u64 x0, .int .u64 x1, .int .u64 x2, .int .u64 x3, .int .u64 x4, .int .u64 x5, .int .u64 x6, .int .u64 x7] 53 rfl).alloc (.cells #[.int .u64 0, .int .u64 0, .int .u64 0, .int .u64 0, .int .u64 0, .int .u64 0, .int .u64 0, .int .u64 0] 53)
  have Y0 := Blk.new (w.alloc (.cells #[.int .u64 x0, .int .u64 x1, .int .u64 x2, .int .u64 x3, .int .u64 x4, .int .u64 x5, .int .u64 x6, .int .u64 x7] 53)) [.int .u64 0, .int .u64 0, .int .u64 0, .int .u64 0, .int .u64 0, .int .u64 0, .int .u64 0, .int .u64 0] 53 (g := w.heap.size + 1) (by simp)
  have HB := ((Below.refl _ w).alloc (Nat.le_refl _) (.cells #[.int .u64 x0, .int .u64 x1, .int .u64 x2, .int .u64 x3, .int .u64 x4, .int .u64 x5, .int .u64 x6, .int .u64 x7] 53)).alloc (by simp) (.cells #[.int .u64 0, .int .u64 0, .int .u64 0, .int .u64 0, .int .u64 0, .int .u64 0, .int .u64 0, .int .u64 0] 53)
  go_enter Try.func35, Try.ntmps35
  go_wp2_with fail
  rw [show ([.int .u64 x0, .int .u64 x1, .int .u64 x2, .int .u64 x3, .int .u64 x4, .int .u64 x5, .int .u64 x6, .int .u64 x7] : List Value).toArray = #[.int .u64 x0, .int .u64 x1, .int .u64 x2, .int .u64 x3, .int .u64 x4, .int .u64 x5, .int .u64 x6, .int .u64 x7] from rfl] at X0
  generalize (w.alloc (.cells #[.int .u64 x0, .int .u64 x1, .int .u64 x2, .int .u64 x3, .int .u64 x4, .int .u64 x5, .int .u64 x6, .int .u64 x7] 53)).alloc (.cells #[.int .u64 0, .int .u64 0, .int .u64 0, .int .u64 0, .int .u64 0, .int .u64 0, .int .u64 0, .int .u64 0] 53) = W at *
  go_region_held3 (fun w' => w'.cell? ⟨w.heap.size, 0, none⟩ = some (.int .u64 x0) ∧ w'.cell? ⟨w.heap.size, 1, none⟩ = some (.int .u64 x1) ∧ w'.cell? ⟨w.heap.size, 2, none⟩ = some (.int .u64 x2) ∧ w'.cell? ⟨w.heap.size, 3, none⟩ = some (.int .u64 x3) ∧ w'.cell? ⟨w.heap.size, 4, none⟩ = some (.int .u64 x4) ∧ w'.cell? ⟨w.heap.size, 5, none⟩ = some (.int .u64 x5) ∧ w'.cell? ⟨w.heap.size, 6, none⟩ = some (.int .u64 x6) ∧ w'.cell? ⟨w.heap.size, 7, none⟩ = some (.int .u64 x7)) ((refine sz_cells ?_; repeat (first | (with_reducible exact X0) | (with_reducible exact X0.drew) | (with_reducible refine Blk.setO ?_ (by show w.heap.size ≠ w.heap.size + 1; omega) _))))
    (first
      | (go_at_call 63; refine (isBelowL_any x0 x1 x2 x3 x4 x5 x6 x7 _).mono ?_; rintro e w1 ⟨rfl, hB⟩; (first | (replace X0 := X0.step hB; replace Y0 := Y0.step hB; replace HB := HB.trans (hB.mono HB.size)) | (replace X0 := X0.drew.step hB; replace Y0 := Y0.drew.step hB; replace HB := HB.drew.trans (hB.mono HB.size))); clear hB)
      | (go_at_call 39; refine (signed_any x0 x1 x2 x3 x4 x5 x6 x7 _ wx _).mono ?_; rintro e w2 ⟨r0, r1, r2, r3, r4, r5, r6, r7, rfl, wr8, hr8, hB⟩; (first | (replace X0 := X0.step hB; replace Y0 := Y0.step hB; replace HB := HB.trans (hB.mono HB.size)) | (replace X0 := X0.drew.step hB; replace Y0 := Y0.drew.step hB; replace HB := HB.drew.trans (hB.mono HB.size))); clear hB; have o0 := Y0.c 0 rfl; have p0 := Y0.f 0 rfl; have o1 := Y0.c 1 rfl; have p1 := Y0.f 1 rfl; have o2 := Y0.c 2 rfl; have p2 := Y0.f 2 rfl; have o3 := Y0.c 3 rfl; have p3 := Y0.f 3 rfl; have o4 := Y0.c 4 rfl; have p4 := Y0.f 4 rfl; have o5 := Y0.c 5 rfl; have p5 := Y0.f 5 rfl; have o6 := Y0.c 6 rfl; have p6 := Y0.f 6 rfl; have o7 := Y0.c 7 rfl; have p7 := Y0.f 7 rfl; have olt := Y0.lt))
  all_goals have HV := sl_size wx wr8 hr8
  all_goals clear hr8 X0 Y0
  all_goals go_wp2
  all_goals refine bodyPost_ret (v := L8 r0 r1 r2 r3 r4 r5 r6 r7) (by simp [results, Try.results35, go_sem, o0, o1, o2, o3, o4, o5, o6, o7]) rfl ?_
  all_goals refine ⟨[r0, r1, r2, r3, r4, r5, r6, r7], rfl, rfl, wr8, HV, ?_⟩
  all_goals exact below_set8 (g := w.heap.size + 1) (by omega) HB
theorem Blk.stored8 {W : World} {g : Nat} {z0 z1 z2 z3 z4 z5 z6 z7 : Value} (G : Blk W g [z0, z1, z2, z3, z4, z5, z6, z7]) (v0 v1 v2 v3 v4 v5 v6 v7 : Value) : Blk ((((((((W.setCell ⟨g, 0, none⟩ v0).setCell ⟨g, 1, none⟩ v1).setCell ⟨g, 2, none⟩ v2).setCell ⟨g, 3, none⟩ v3).setCell ⟨g, 4, none⟩ v4).setCell ⟨g, 5, none⟩ v5).setCell ⟨g, 6, none⟩ v6).setCell ⟨g, 7, none⟩ v7) g [v0, v1, v2, v3, v4, v5, v6, v7] :=
  ((((((((G.setI 0 (by simp) v0).setI 1 (by simp) v1).setI 2 (by simp) v2).setI 3 (by simp) v3).setI 4 (by simp) v4).setI 5 (by simp) v5).setI 6 (by simp) v6).setI 7 (by simp) v7)
theorem Blk.set8 {W : World} {vs : List Value} {v0 v1 v2 v3 v4 v5 v6 v7 : Value} {g g' : Nat} (G : Blk W g' vs) (hg : g' ≠ g) : Blk ((((((((W.setCell ⟨g, 0, none⟩ v0).setCell ⟨g, 1, none⟩ v1).setCell ⟨g, 2, none⟩ v2).setCell ⟨g, 3, none⟩ v3).setCell ⟨g, 4, none⟩ v4).setCell ⟨g, 5, none⟩ v5).setCell ⟨g, 6, none⟩ v6).setCell ⟨g, 7, none⟩ v7) g' vs :=
  ((((((((G.setO (by exact hg) _).setO (by exact hg) _).setO (by exact hg) _).setO (by exact hg) _).setO (by exact hg) _).setO (by exact hg) _).setO (by exact hg) _).setO (by exact hg) _)
set_option maxRecDepth 100000 in
set_option maxHeartbeats 2000000 in
theorem eqLongZ (x0 x1 x2 x3 x4 x5 x6 x7 : Int) (w : World) : (Op.equalIn 10000 53 (L8 x0 x1 x2 x3 x4 x5 x6 x7) (L8 0 0 0 0 0 0 0 0)).run Try.prog w = .ok (x0 == 0 && x1 == 0 && x2 == 0 && x3 == 0 && x4 == 0 && x5 == 0 && x6 == 0 && x7 == 0) w := by
  have u3 := Try.underlying24
  have a3 := Try.isAgg24
  have z3 := Try.sizeOf24
  rw [show (10000 : Nat) = 9999 + 1 from rfl, Op.equalIn]
  simp only [Sem.run_bind, run_underlying Try.underlying53, Result.andThen_ok]
  simp only [Std.Legacy.Range.forIn_eq_forIn_range', Std.Legacy.Range.size, Nat.sub_zero, Nat.add_sub_cancel, Nat.div_one, List.range'_succ, List.range'_zero, List.forIn_cons, List.forIn_nil]
  go_simp
  by_cases h0 : x0 = 0
  · subst h0
    by_cases h1 : x1 = 0
    · subst h1
      by_cases h2 : x2 = 0
      · subst h2
        by_cases h3 : x3 = 0
        · subst h3
          by_cases h4 : x4 = 0
          · subst h4
            by_cases h5 : x5 = 0
            · subst h5
              by_cases h6 : x6 = 0
              · subst h6
                by_cases h7 : x7 = 0
                · subst h7
                  simp
                · simp [h7]
              · simp [h6]
            · simp [h5]
          · simp [h4]
        · simp [h3]
      · simp [h2]
    · simp [h1]
  · simp [h0]
theorem zeroL (x0 x1 x2 x3 x4 x5 x6 x7 : Int) (h : Words [x0, x1, x2, x3, x4, x5, x6, x7]) : (x0 == 0 && x1 == 0 && x2 == 0 && x3 == 0 && x4 == 0 && x5 == 0 && x6 == 0 && x7 == 0) = decide (val64 [x0, x1, x2, x3, x4, x5, x6, x7] = 0) := by
  obtain ⟨h0, h1, h2, h3, h4, h5, h6, h7⟩ := words8_of h
  rw [Bool.eq_iff_iff]
  simp only [Bool.and_eq_true, beq_iff_eq, decide_eq_true_eq]
  unfold Word at *
  simp only [val64]
  omega
structure Gl (w wr : World) (xs ys : List Int) : Prop where
  below : Below w.heap.size w wr
  x : Blk wr w.heap.size (xs.map (Value.int .u64))
  y : Blk wr (w.heap.size + 1) (ys.map (Value.int .u64))
  o : Blk wr (w.heap.size + 1 + 1) [.int .u64 0, .int .u64 0, .int .u64 0, .int .u64 0, .int .u64 0, .int .u64 0, .int .u64 0, .int .u64 0]
theorem Gl.step {w wr wr' : World} {xs ys : List Int} (h : Gl w wr xs ys) (hB : Below wr.heap.size wr wr') : Gl w wr' xs ys := ⟨h.below.trans (hB.mono h.below.size), h.x.step hB, h.y.step hB, h.o.step hB⟩
end Go.Proofs.Ytllfpnnngdphfaa
