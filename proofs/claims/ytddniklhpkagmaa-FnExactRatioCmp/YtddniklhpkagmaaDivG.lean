/- The walks of a number's size in eight words, and of the common divisor of two words. -/
import Derived.Test.YtddniklhpkagmaaDivL
import Derived.Test.YtddniklhpkagmaaBase4
namespace Go.Proofs.Ytddniklhpkagmaa
open Go.RowKit
def BelowLP (x7 : Int) (w : World) (e : Ending) (w' : World) : Prop := e = .returned (.bool (x7 / 9223372036854775808 == 1)) ∧ Below w.heap.size w w'
set_option maxRecDepth 100000 in
set_option maxHeartbeats 400000 in
theorem isBelowL_any (x0 x1 x2 x3 x4 x5 x6 x7 : Int) (w : World) : Calls Try.prog 100 #[L8 x0 x1 x2 x3 x4 x5 x6 x7] w (BelowLP x7 w) := by
  go_enter Try.func100, Try.ntmps100
  go_wp2
  go_ret
  exact ⟨rfl, (Below.refl _ _).alloc (Nat.le_refl _) _⟩
theorem sl_size {z0 z1 z2 z3 z4 z5 z6 z7 x0 x1 x2 x3 x4 x5 x6 x7 : Int} (wx : Words [x0, x1, x2, x3, x4, x5, x6, x7]) (wz : Words [z0, z1, z2, z3, z4, z5, z6, z7]) (h : ∃ c, 0 ≤ c ∧ c ≤ 1 ∧ val64 [z0, z1, z2, z3, z4, z5, z6, z7] = if (x7 / 9223372036854775808 == 1) = true then 0 - val64 [x0, x1, x2, x3, x4, x5, x6, x7] + c * 13407807929942597099574024998205846127479365820592393377723561443721764030073546976801874298166903427690031858186486050853753882811946569946433649006084096 else val64 [x0, x1, x2, x3, x4, x5, x6, x7]) :
    val64 [z0, z1, z2, z3, z4, z5, z6, z7] = ((sl x0 x1 x2 x3 x4 x5 x6 x7).natAbs : Int) := by
  obtain ⟨t1, t2, t3⟩ := sl_top wx
  obtain ⟨_, s2, s3⟩ := sl_top wz
  obtain ⟨c, c0, c1, hv⟩ := h
  have h7 : Word x7 := words_at wx 7 (by simp)
  unfold Word at h7
  unfold sl
  by_cases hb : x7 < 9223372036854775808
  · rw [if_pos hb]
    have : (x7 / 9223372036854775808 == 1) = false := beq_eq_false_iff_ne.2 (by omega)
    rw [this] at hv
    simp only [Bool.false_eq_true, if_false] at hv
    omega
  · rw [if_neg hb]
    have : (x7 / 9223372036854775808 == 1) = true := beq_iff_eq.2 (by omega)
    rw [this] at hv
    simp only [if_true] at hv
    have := mt t1.2 hb
    obtain rfl | rfl : c = 0 ∨ c = 1 := by omega
    · omega
    · omega
theorem sz_cells {x0 x1 x2 x3 x4 x5 x6 x7 : Int} {w W : World} (h : Blk W w.heap.size [.int .u64 x0, .int .u64 x1, .int .u64 x2, .int .u64 x3, .int .u64 x4, .int .u64 x5, .int .u64 x6, .int .u64 x7]) : (fun w' => w'.cell? ⟨w.heap.size, 0, none⟩ = some (.int .u64 x0) ∧ w'.cell? ⟨w.heap.size, 1, none⟩ = some (.int .u64 x1) ∧ w'.cell? ⟨w.heap.size, 2, none⟩ = some (.int .u64 x2) ∧ w'.cell? ⟨w.heap.size, 3, none⟩ = some (.int .u64 x3) ∧ w'.cell? ⟨w.heap.size, 4, none⟩ = some (.int .u64 x4) ∧ w'.cell? ⟨w.heap.size, 5, none⟩ = some (.int .u64 x5) ∧ w'.cell? ⟨w.heap.size, 6, none⟩ = some (.int .u64 x6) ∧ w'.cell? ⟨w.heap.size, 7, none⟩ = some (.int .u64 x7)) W :=
  ⟨h.c 0 rfl, h.c 1 rfl, h.c 2 rfl, h.c 3 rfl, h.c 4 rfl, h.c 5 rfl, h.c 6 rfl, h.c 7 rfl⟩
set_option maxRecDepth 100000 in
set_option maxHeartbeats 1000000 in
theorem sizeL_any (x0 x1 x2 x3 x4 x5 x6 x7 : Int) (wx : Words [x0, x1, x2, x3, x4, x5, x6, x7]) (w : World) : Calls Try.prog 56 #[L8 x0 x1 x2 x3 x4 x5 x6 x7] w (AggP 8 ((sl x0 x1 x2 x3 x4 x5 x6 x7).natAbs : Int) w) := by
  have X0 := (Blk.new w [.int .u64 x0, .int .u64 x1, .int .u64 x2, .int .u64 x3, .int .u64 x4, .int .u64 x5, .int .u64 x6, .int .u64 x7] 62 rfl).alloc (.cells #[.int .u64 0, .int .u64 0, .int .u64 0, .int .u64 0, .int .u64 0, .int .u64 0, .int .u64 0, .int .u64 0] 62)
  have Y0 := Blk.new (w.alloc (.cells #[.int .u64 x0, .int .u64 x1, .int .u64 x2, .int .u64 x3, .int .u64 x4, .int .u64 x5, .int .u64 x6, .int .u64 x7] 62)) [.int .u64 0, .int .u64 0, .int .u64 0, .int .u64 0, .int .u64 0, .int .u64 0, .int .u64 0, .int .u64 0] 62 (g := w.heap.size + 1) (by simp)
  have HB := ((Below.refl _ w).alloc (Nat.le_refl _) (.cells #[.int .u64 x0, .int .u64 x1, .int .u64 x2, .int .u64 x3, .int .u64 x4, .int .u64 x5, .int .u64 x6, .int .u64 x7] 62)).alloc (by simp) (.cells #[.int .u64 0, .int .u64 0, .int .u64 0, .int .u64 0, .int .u64 0, .int .u64 0, .int .u64 0, .int .u64 0] 62)
  go_enter Try.func56, Try.ntmps56
  go_wp2_with fail
  rw [show ([.int .u64 x0, .int .u64 x1, .int .u64 x2, .int .u64 x3, .int .u64 x4, .int .u64 x5, .int .u64 x6, .int .u64 x7] : List Value).toArray = #[.int .u64 x0, .int .u64 x1, .int .u64 x2, .int .u64 x3, .int .u64 x4, .int .u64 x5, .int .u64 x6, .int .u64 x7] from rfl] at X0
  generalize (w.alloc (.cells #[.int .u64 x0, .int .u64 x1, .int .u64 x2, .int .u64 x3, .int .u64 x4, .int .u64 x5, .int .u64 x6, .int .u64 x7] 62)).alloc (.cells #[.int .u64 0, .int .u64 0, .int .u64 0, .int .u64 0, .int .u64 0, .int .u64 0, .int .u64 0, .int .u64 0] 62) = W at *
  go_region_held3 (fun w' => w'.cell? ⟨w.heap.size, 0, none⟩ = some (.int .u64 x0) ∧ w'.cell? ⟨w.heap.size, 1, none⟩ = some (.int .u64 x1) ∧ w'.cell? ⟨w.heap.size, 2, none⟩ = some (.int .u64 x2) ∧ w'.cell? ⟨w.heap.size, 3, none⟩ = some (.int .u64 x3) ∧ w'.cell? ⟨w.heap.size, 4, none⟩ = some (.int .u64 x4) ∧ w'.cell? ⟨w.heap.size, 5, none⟩ = some (.int .u64 x5) ∧ w'.cell? ⟨w.heap.size, 6, none⟩ = some (.int .u64 x6) ∧ w'.cell? ⟨w.heap.size, 7, none⟩ = some (.int .u64 x7)) ((refine sz_cells ?_; repeat (first | (with_reducible exact X0) | (with_reducible exact X0.drew) | (with_reducible refine Blk.setO ?_ (by show w.heap.size ≠ w.heap.size + 1; omega) _))))
    (first
      | (go_at_call 100; refine (isBelowL_any x0 x1 x2 x3 x4 x5 x6 x7 _).mono ?_; rintro e w1 ⟨rfl, hB⟩; (first | (replace X0 := X0.step hB; replace Y0 := Y0.step hB; replace HB := HB.trans (hB.mono HB.size)) | (replace X0 := X0.drew.step hB; replace Y0 := Y0.drew.step hB; replace HB := HB.drew.trans (hB.mono HB.size))); clear hB)
      | (go_at_call 61; refine (signed_any x0 x1 x2 x3 x4 x5 x6 x7 _ wx _).mono ?_; rintro e w2 ⟨r0, r1, r2, r3, r4, r5, r6, r7, rfl, wr8, hr8, hB⟩; (first | (replace X0 := X0.step hB; replace Y0 := Y0.step hB; replace HB := HB.trans (hB.mono HB.size)) | (replace X0 := X0.drew.step hB; replace Y0 := Y0.drew.step hB; replace HB := HB.drew.trans (hB.mono HB.size))); clear hB; have o0 := Y0.c 0 rfl; have p0 := Y0.f 0 rfl; have o1 := Y0.c 1 rfl; have p1 := Y0.f 1 rfl; have o2 := Y0.c 2 rfl; have p2 := Y0.f 2 rfl; have o3 := Y0.c 3 rfl; have p3 := Y0.f 3 rfl; have o4 := Y0.c 4 rfl; have p4 := Y0.f 4 rfl; have o5 := Y0.c 5 rfl; have p5 := Y0.f 5 rfl; have o6 := Y0.c 6 rfl; have p6 := Y0.f 6 rfl; have o7 := Y0.c 7 rfl; have p7 := Y0.f 7 rfl; have olt := Y0.lt))
  all_goals have HV := sl_size wx wr8 hr8
  all_goals clear hr8 X0 Y0
  all_goals go_wp2
  all_goals refine bodyPost_ret (v := L8 r0 r1 r2 r3 r4 r5 r6 r7) (by simp [results, Try.results56, go_sem, o0, o1, o2, o3, o4, o5, o6, o7]) rfl ?_
  all_goals refine ⟨[r0, r1, r2, r3, r4, r5, r6, r7], rfl, rfl, wr8, HV, ?_⟩
  all_goals exact below_set8 (g := w.heap.size + 1) (by omega) HB
def GcdWP (x y : Int) (w : World) (e : Ending) (w' : World) : Prop := e = .returned (.int .u64 (Int.gcd x y : Int)) ∧ Below w.heap.size w w'
theorem gcd_down {x y : Int} (hx : 0 ≤ x) (hy : 0 < y) : Int.gcd y (x % y) = Int.gcd x y := by
  obtain ⟨a, rfl⟩ := Int.eq_ofNat_of_zero_le hx
  obtain ⟨b, rfl⟩ := Int.eq_ofNat_of_zero_le (Int.le_of_lt hy)
  rw [show ((a : Int) % (b : Int)) = ((a % b : Nat) : Int) from (Int.natCast_emod a b).symm, Int.gcd_natCast_natCast, Int.gcd_natCast_natCast, Nat.gcd_comm a b, Nat.gcd_rec b a, Nat.gcd_comm]
set_option maxRecDepth 100000 in
set_option maxHeartbeats 400000 in
theorem gcdW_any (x y : Int) (hx : Word x) (hy : Word y) (w : World) : Calls Try.prog 107 #[.int .u64 x, .int .u64 y] w (GcdWP x y w) := by
  go_enter Try.func107, Try.ntmps107
  go_wp2
  go_loopg [0, 1] y.toNat (fun k p q wr => ∃ a b : Int, p = .int .u64 a ∧ q = .int .u64 b ∧ Word a ∧ Word b ∧ b.toNat = k ∧ Int.gcd a b = Int.gcd x y ∧ Below w.heap.size w wr)
  case atStart => exact ⟨x, y, rfl, rfl, hx, hy, rfl, rfl, Below.refl _ _⟩
  case round =>
    obtain ⟨a, b, rfl, rfl, ha, hb, hk, hg, hB⟩ := hrel
    have HG : Hid (Int.gcd a b = Int.gcd x y) := hg
    clear hg
    by_cases h0 : b = 0
    · subst h0
      go_wp2
      go_ret
      refine ⟨?_, hB⟩
      rw [← HG.out]
      have := ha.1
      simp
      omega
    · have hb0 : 0 < b := by have := hb.1; omega
      have d2 : a.tmod b = a % b := Int.tmod_eq_emod_of_nonneg ha.1
      have e0 := Int.emod_nonneg a (b := b) h0
      have e1 := Int.emod_lt_of_pos a hb0
      have e2 : Word (a % b) := ⟨e0, Int.lt_trans e1 hb.2⟩
      have e3 : Hid (Int.gcd b (a % b) = Int.gcd x y) := (gcd_down ha.1 hb0).trans HG.out
      have d3 := wrap_word e2.1 e2.2
      go_wp2
      go_quiet (fail)
      go_wp2
      go_roundg (a % b).toNat
      case measure => omega
      case rel => exact ⟨b, a % b, rfl, rfl, hb, e2, rfl, e3.out, bdrew hB _⟩
theorem Blk.stored8 {W : World} {g : Nat} {z0 z1 z2 z3 z4 z5 z6 z7 : Value} (G : Blk W g [z0, z1, z2, z3, z4, z5, z6, z7]) (v0 v1 v2 v3 v4 v5 v6 v7 : Value) : Blk ((((((((W.setCell ⟨g, 0, none⟩ v0).setCell ⟨g, 1, none⟩ v1).setCell ⟨g, 2, none⟩ v2).setCell ⟨g, 3, none⟩ v3).setCell ⟨g, 4, none⟩ v4).setCell ⟨g, 5, none⟩ v5).setCell ⟨g, 6, none⟩ v6).setCell ⟨g, 7, none⟩ v7) g [v0, v1, v2, v3, v4, v5, v6, v7] :=
  ((((((((G.setI 0 (by simp) v0).setI 1 (by simp) v1).setI 2 (by simp) v2).setI 3 (by simp) v3).setI 4 (by simp) v4).setI 5 (by simp) v5).setI 6 (by simp) v6).setI 7 (by simp) v7)
theorem Blk.set8 {W : World} {vs : List Value} {v0 v1 v2 v3 v4 v5 v6 v7 : Value} {g g' : Nat} (G : Blk W g' vs) (hg : g' ≠ g) : Blk ((((((((W.setCell ⟨g, 0, none⟩ v0).setCell ⟨g, 1, none⟩ v1).setCell ⟨g, 2, none⟩ v2).setCell ⟨g, 3, none⟩ v3).setCell ⟨g, 4, none⟩ v4).setCell ⟨g, 5, none⟩ v5).setCell ⟨g, 6, none⟩ v6).setCell ⟨g, 7, none⟩ v7) g' vs :=
  ((((((((G.setO (by exact hg) _).setO (by exact hg) _).setO (by exact hg) _).setO (by exact hg) _).setO (by exact hg) _).setO (by exact hg) _).setO (by exact hg) _).setO (by exact hg) _)
set_option maxRecDepth 100000 in
set_option maxHeartbeats 2000000 in
theorem eqLongZ (x0 x1 x2 x3 x4 x5 x6 x7 : Int) (w : World) : (Op.equalIn 10000 62 (L8 x0 x1 x2 x3 x4 x5 x6 x7) (L8 0 0 0 0 0 0 0 0)).run Try.prog w = .ok (x0 == 0 && x1 == 0 && x2 == 0 && x3 == 0 && x4 == 0 && x5 == 0 && x6 == 0 && x7 == 0) w := by
  have u3 := Try.underlying22
  have a3 := Try.isAgg22
  have z3 := Try.sizeOf22
  rw [show (10000 : Nat) = 9999 + 1 from rfl, Op.equalIn]
  simp only [Sem.run_bind, run_underlying Try.underlying62, Result.andThen_ok]
  simp only [Std.Legacy.Range.forIn_eq_forIn_range', Std.Legacy.Range.size, Nat.sub_zero, Nat.add_sub_cancel, Nat.div_one, List.range'_succ, List.range'_zero, List.forIn_cons, List.forIn_nil]
  go_simp
  by_cases h0 : x0 = 0
  · subst h0
    by_cases h1 : x1 = 0
    · subst h1
      by_cases h2 : x2 = 0
      · subst h2
        by_cases h3 : x3 = 0
        · subst h3
          by_cases h4 : x4 = 0
          · subst h4
            by_cases h5 : x5 = 0
            · subst h5
              by_cases h6 : x6 = 0
              · subst h6
                by_cases h7 : x7 = 0
                · subst h7
                  simp
                · simp [h7]
              · simp [h6]
            · simp [h5]
          · simp [h4]
        · simp [h3]
      · simp [h2]
    · simp [h1]
  · simp [h0]
theorem zeroL (x0 x1 x2 x3 x4 x5 x6 x7 : Int) (h : Words [x0, x1, x2, x3, x4, x5, x6, x7]) : (x0 == 0 && x1 == 0 && x2 == 0 && x3 == 0 && x4 == 0 && x5 == 0 && x6 == 0 && x7 == 0) = decide (val64 [x0, x1, x2, x3, x4, x5, x6, x7] = 0) := by
  obtain ⟨h0, h1, h2, h3, h4, h5, h6, h7⟩ := words8_of h
  rw [Bool.eq_iff_iff]
  simp only [Bool.and_eq_true, beq_iff_eq, decide_eq_true_eq]
  unfold Word at *
  simp only [val64]
  omega
structure Gl (w wr : World) (xs ys : List Int) : Prop where
  below : Below w.heap.size w wr
  x : Blk wr w.heap.size (xs.map (Value.int .u64))
  y : Blk wr (w.heap.size + 1) (ys.map (Value.int .u64))
  o : Blk wr (w.heap.size + 1 + 1) [.int .u64 0, .int .u64 0, .int .u64 0, .int .u64 0, .int .u64 0, .int .u64 0, .int .u64 0, .int .u64 0]
theorem Gl.step {w wr wr' : World} {xs ys : List Int} (h : Gl w wr xs ys) (hB : Below wr.heap.size wr wr') : Gl w wr' xs ys := ⟨h.below.trans (hB.mono h.below.size), h.x.step hB, h.y.step hB, h.o.step hB⟩
set_option maxRecDepth 100000 in
set_option maxHeartbeats 2000000 in
theorem gcdL_any (xs ys : List Int) (hl : xs.length = 8) (hm : ys.length = 8) (hx : Words xs) (hy : Words ys) (w : World) : Calls Try.prog 63 #[agg xs, agg ys] w (AggP 8 (Int.gcd (val64 xs) (val64 ys) : Int) w) := by
  obtain ⟨G, hG⟩ : ∃ G, Int.gcd (val64 xs) (val64 ys) = G := ⟨_, rfl⟩
  rw [hG]
  have HI : xs.length = 8 ∧ ys.length = 8 ∧ Words xs ∧ Words ys ∧ Int.gcd (val64 xs) (val64 ys) = G := ⟨hl, hm, hx, hy, hG⟩
  obtain ⟨x0, x1, x2, x3, x4, x5, x6, x7, hxs⟩ := list8' hl
  have HA : agg xs = L8 x0 x1 x2 x3 x4 x5 x6 x7 := by rw [hxs]; rfl
  have AX : xs.map (Value.int .u64) = [.int .u64 x0, .int .u64 x1, .int .u64 x2, .int .u64 x3, .int .u64 x4, .int .u64 x5, .int .u64 x6, .int .u64 x7] := by rw [hxs]; rfl
  rw [HA]
  obtain ⟨y0, y1, y2, y3, y4, y5, y6, y7, hys⟩ := list8' hm
  have HA : agg ys = L8 y0 y1 y2 y3 y4 y5 y6 y7 := by rw [hys]; rfl
  have AY : ys.map (Value.int .u64) = [.int .u64 y0, .int .u64 y1, .int .u64 y2, .int .u64 y3, .int .u64 y4, .int .u64 y5, .int .u64 y6, .int .u64 y7] := by rw [hys]; rfl
  rw [HA]
  have HS : Gl w (((w.alloc (.cells #[.int .u64 x0, .int .u64 x1, .int .u64 x2, .int .u64 x3, .int .u64 x4, .int .u64 x5, .int .u64 x6, .int .u64 x7] 62)).alloc (.cells #[.int .u64 y0, .int .u64 y1, .int .u64 y2, .int .u64 y3, .int .u64 y4, .int .u64 y5, .int .u64 y6, .int .u64 y7] 62)).alloc (.cells #[.int .u64 0, .int .u64 0, .int .u64 0, .int .u64 0, .int .u64 0, .int .u64 0, .int .u64 0, .int .u64 0] 62)) xs ys :=
    ⟨(((Below.refl _ _).alloc (Nat.le_refl _) _).alloc (by simp) _).alloc (by simp; omega) _, by rw [AX]; exact ((Blk.new w _ _ rfl).alloc _).alloc _, by rw [AY]; exact (Blk.new _ [.int .u64 y0, .int .u64 y1, .int .u64 y2, .int .u64 y3, .int .u64 y4, .int .u64 y5, .int .u64 y6, .int .u64 y7] _ (by simp)).alloc _, Blk.new _ [.int .u64 0, .int .u64 0, .int .u64 0, .int .u64 0, .int .u64 0, .int .u64 0, .int .u64 0, .int .u64 0] _ (by simp)⟩
  have HJ : Hid (xs.length = 8 ∧ ys.length = 8 ∧ Words xs ∧ Words ys ∧ Int.gcd (val64 xs) (val64 ys) = G) := HI
  clear HI HA AX AY hxs hys hl hm hx hy hG
  go_enter Try.func63, Try.ntmps63
  go_wp2_with fail
  generalize (((w.alloc (.cells #[.int .u64 x0, .int .u64 x1, .int .u64 x2, .int .u64 x3, .int .u64 x4, .int .u64 x5, .int .u64 x6, .int .u64 x7] 62)).alloc (.cells #[.int .u64 y0, .int .u64 y1, .int .u64 y2, .int .u64 y3, .int .u64 y4, .int .u64 y5, .int .u64 y6, .int .u64 y7] 62)).alloc (.cells #[.int .u64 0, .int .u64 0, .int .u64 0, .int .u64 0, .int .u64 0, .int .u64 0, .int .u64 0, .int .u64 0] 62)) = W at *
  go_loopg [] (val64 ys).toNat (fun k wr => ∃ us vs : List Int, Hid (us.length = 8 ∧ vs.length = 8 ∧ Words us ∧ Words vs ∧ Int.gcd (val64 us) (val64 vs) = G) ∧ (val64 vs).toNat = k ∧ Gl w wr us vs)
  case atStart => exact ⟨xs, ys, HJ, rfl, HS⟩
  case round =>
    clear HJ HS
    obtain ⟨us, vs, HJ, hk, HT⟩ := hrel
    obtain ⟨ul, vl, uw', vw, hG⟩ := HJ.out
    have RY := blk_row_take HT.y (k := 8) (by omega)
    rw [List.take_of_length_le (by omega)] at RY
    go_wp2_with fail
    refine (countWords_any (w.heap.size + 1) 0 8 8 vs _ vl RY (by decide)).mono ?_
    rintro e w1 ⟨n, rfl, c1, c2, c3, rfl⟩
    have hn8 : (n : Int) ≤ 8 := by omega
    clear RY hG
    by_cases hn : 1 < n
    · have V0 : 0 < val64 vs := by
        obtain ⟨m, rfl⟩ : ∃ m, n = m + 1 := ⟨n - 1, by omega⟩
        have h1 := c3 m rfl (by omega)
        have h2 := val64_nonneg vw
        apply Decidable.byContradiction
        intro h3
        exact h1 (val64_zero_at vw (by omega) m (by omega))
      have DV := divideLong_any us vs ul vl uw' vw V0
      obtain ⟨u0, u1, u2, u3, u4, u5, u6, u7, hus⟩ := list8' ul
      obtain ⟨v0, v1, v2, v3, v4, v5, v6, v7, hvs⟩ := list8' vl
      have UA : agg us = L8 u0 u1 u2 u3 u4 u5 u6 u7 := by rw [hus]; rfl
      have VA : agg vs = L8 v0 v1 v2 v3 v4 v5 v6 v7 := by rw [hvs]; rfl
      rw [UA, VA] at DV
      have VM : Hid (vs.map (Value.int .u64) = [.int .u64 v0, .int .u64 v1, .int .u64 v2, .int .u64 v3, .int .u64 v4, .int .u64 v5, .int .u64 v6, .int .u64 v7]) := by show _ = _; rw [hvs]; rfl
      have XB : Blk w1 w.heap.size [.int .u64 u0, .int .u64 u1, .int .u64 u2, .int .u64 u3, .int .u64 u4, .int .u64 u5, .int .u64 u6, .int .u64 u7] := by have := HT.x; rw [hus] at this; exact this
      have YB : Blk w1 (w.heap.size + 1) [.int .u64 v0, .int .u64 v1, .int .u64 v2, .int .u64 v3, .int .u64 v4, .int .u64 v5, .int .u64 v6, .int .u64 v7] := by have := HT.y; rw [hvs] at this; exact this
      have OB := HT.o
      have HB := HT.below
      have xc0 := XB.c 0 rfl; have yc0 := YB.c 0 rfl; have xc1 := XB.c 1 rfl; have yc1 := YB.c 1 rfl; have xc2 := XB.c 2 rfl; have yc2 := YB.c 2 rfl; have xc3 := XB.c 3 rfl; have yc3 := YB.c 3 rfl; have xc4 := XB.c 4 rfl; have yc4 := YB.c 4 rfl; have xc5 := XB.c 5 rfl; have yc5 := YB.c 5 rfl; have xc6 := XB.c 6 rfl; have yc6 := YB.c 6 rfl; have xc7 := XB.c 7 rfl; have yc7 := YB.c 7 rfl
      clear UA VA hus hvs HT c1 c2 c3
      go_wp2_with fail
      refine (DV _).mono ?_
      rintro e w2 ⟨qs, rs, rfl, ql, rl, qw, rw', qv, rv, hB⟩
      replace XB := XB.step hB
      replace YB := YB.step hB
      replace OB := OB.step hB
      replace HB := HB.trans (hB.mono HB.size)
      have HN : Hid (vs.length = 8 ∧ rs.length = 8 ∧ Words vs ∧ Words rs ∧ Int.gcd (val64 vs) (val64 rs) = G) := by
        obtain ⟨_, _, _, _, hG⟩ := HJ.out
        exact ⟨vl, rl, vw, rw', by rw [rv, gcd_down (val64_nonneg uw') V0]; exact hG⟩
      have hlt : (val64 rs).toNat < gk := by
        have h1 := Int.emod_lt_of_pos (val64 us) V0
        have h2 := val64_nonneg rw'
        omega
      obtain ⟨q0, q1, q2, q3, q4, q5, q6, q7, rfl⟩ := list8' ql
      obtain ⟨r0, r1, r2, r3, r4, r5, r6, r7, rfl⟩ := list8' rl
      unfold agg
      simp only [List.map_cons, List.map_nil]
      have xd0 := XB.c 0 rfl; have xf0 := XB.f 0 rfl; have yd0 := YB.c 0 rfl; have yf0 := YB.f 0 rfl; have xd1 := XB.c 1 rfl; have xf1 := XB.f 1 rfl; have yd1 := YB.c 1 rfl; have yf1 := YB.f 1 rfl; have xd2 := XB.c 2 rfl; have xf2 := XB.f 2 rfl; have yd2 := YB.c 2 rfl; have yf2 := YB.f 2 rfl; have xd3 := XB.c 3 rfl; have xf3 := XB.f 3 rfl; have yd3 := YB.c 3 rfl; have yf3 := YB.f 3 rfl; have xd4 := XB.c 4 rfl; have xf4 := XB.f 4 rfl; have yd4 := YB.c 4 rfl; have yf4 := YB.f 4 rfl; have xd5 := XB.c 5 rfl; have xf5 := XB.f 5 rfl; have yd5 := YB.c 5 rfl; have yf5 := YB.f 5 rfl; have xd6 := XB.c 6 rfl; have xf6 := XB.f 6 rfl; have yd6 := YB.c 6 rfl; have yf6 := YB.f 6 rfl; have xd7 := XB.c 7 rfl; have xf7 := XB.f 7 rfl; have yd7 := YB.c 7 rfl; have yf7 := YB.f 7 rfl
      have xlt := XB.lt
      have ylt := YB.lt
      clear qv rv ql rl qw rw' hB DV
      go_wp2_with fail
      have QO : Obj := .cells #[.int .u64 q0, .int .u64 q1, .int .u64 q2, .int .u64 q3, .int .u64 q4, .int .u64 q5, .int .u64 q6, .int .u64 q7] 62
      have RB : Blk ((w2.alloc (.cells #[.int .u64 q0, .int .u64 q1, .int .u64 q2, .int .u64 q3, .int .u64 q4, .int .u64 q5, .int .u64 q6, .int .u64 q7] 62)).alloc (.cells #[.int .u64 r0, .int .u64 r1, .int .u64 r2, .int .u64 r3, .int .u64 r4, .int .u64 r5, .int .u64 r6, .int .u64 r7] 62)) (w2.heap.size + 1) [.int .u64 r0, .int .u64 r1, .int .u64 r2, .int .u64 r3, .int .u64 r4, .int .u64 r5, .int .u64 r6, .int .u64 r7] := Blk.newS w2 _ [.int .u64 r0, .int .u64 r1, .int .u64 r2, .int .u64 r3, .int .u64 r4, .int .u64 r5, .int .u64 r6, .int .u64 r7] 62
      replace XB := (XB.alloc (.cells #[.int .u64 q0, .int .u64 q1, .int .u64 q2, .int .u64 q3, .int .u64 q4, .int .u64 q5, .int .u64 q6, .int .u64 q7] 62)).alloc (.cells #[.int .u64 r0, .int .u64 r1, .int .u64 r2, .int .u64 r3, .int .u64 r4, .int .u64 r5, .int .u64 r6, .int .u64 r7] 62)
      replace YB := (YB.alloc (.cells #[.int .u64 q0, .int .u64 q1, .int .u64 q2, .int .u64 q3, .int .u64 q4, .int .u64 q5, .int .u64 q6, .int .u64 q7] 62)).alloc (.cells #[.int .u64 r0, .int .u64 r1, .int .u64 r2, .int .u64 r3, .int .u64 r4, .int .u64 r5, .int .u64 r6, .int .u64 r7] 62)
      replace OB := (OB.alloc (.cells #[.int .u64 q0, .int .u64 q1, .int .u64 q2, .int .u64 q3, .int .u64 q4, .int .u64 q5, .int .u64 q6, .int .u64 q7] 62)).alloc (.cells #[.int .u64 r0, .int .u64 r1, .int .u64 r2, .int .u64 r3, .int .u64 r4, .int .u64 r5, .int .u64 r6, .int .u64 r7] 62)
      replace HB := (HB.alloc HB.size (.cells #[.int .u64 q0, .int .u64 q1, .int .u64 q2, .int .u64 q3, .int .u64 q4, .int .u64 q5, .int .u64 q6, .int .u64 q7] 62)).alloc (by have := HB.size; simp; omega) (.cells #[.int .u64 r0, .int .u64 r1, .int .u64 r2, .int .u64 r3, .int .u64 r4, .int .u64 r5, .int .u64 r6, .int .u64 r7] 62)
      have hn1 : w.heap.size ≠ w2.heap.size + 1 := by omega
      have hn2 : w.heap.size + 1 ≠ w2.heap.size + 1 := by omega
      clear xd0 xf0 yd0 yf0 xd1 xf1 yd1 yf1 xd2 xf2 yd2 yf2 xd3 xf3 yd3 yf3 xd4 xf4 yd4 yf4 xd5 xf5 yd5 yf5 xd6 xf6 yd6 yf6 xd7 xf7 yd7 yf7 xc0 yc0 xc1 yc1 xc2 yc2 xc3 yc3 xc4 yc4 xc5 yc5 xc6 yc6 xc7 yc7 xlt ylt QO
      generalize (w2.alloc (.cells #[.int .u64 q0, .int .u64 q1, .int .u64 q2, .int .u64 q3, .int .u64 q4, .int .u64 q5, .int .u64 q6, .int .u64 q7] 62)).alloc (.cells #[.int .u64 r0, .int .u64 r1, .int .u64 r2, .int .u64 r3, .int .u64 r4, .int .u64 r5, .int .u64 r6, .int .u64 r7] 62) = W2 at *
      generalize w2.heap.size + 1 = gr at *
      have xd0 := XB.c 0 rfl; have xf0 := XB.f 0 rfl; have yd0 := YB.c 0 rfl; have yf0 := YB.f 0 rfl; have rd0 := RB.c 0 rfl; have xd1 := XB.c 1 rfl; have xf1 := XB.f 1 rfl; have yd1 := YB.c 1 rfl; have yf1 := YB.f 1 rfl; have rd1 := RB.c 1 rfl; have xd2 := XB.c 2 rfl; have xf2 := XB.f 2 rfl; have yd2 := YB.c 2 rfl; have yf2 := YB.f 2 rfl; have rd2 := RB.c 2 rfl; have xd3 := XB.c 3 rfl; have xf3 := XB.f 3 rfl; have yd3 := YB.c 3 rfl; have yf3 := YB.f 3 rfl; have rd3 := RB.c 3 rfl; have xd4 := XB.c 4 rfl; have xf4 := XB.f 4 rfl; have yd4 := YB.c 4 rfl; have yf4 := YB.f 4 rfl; have rd4 := RB.c 4 rfl; have xd5 := XB.c 5 rfl; have xf5 := XB.f 5 rfl; have yd5 := YB.c 5 rfl; have yf5 := YB.f 5 rfl; have rd5 := RB.c 5 rfl; have xd6 := XB.c 6 rfl; have xf6 := XB.f 6 rfl; have yd6 := YB.c 6 rfl; have yf6 := YB.f 6 rfl; have rd6 := RB.c 6 rfl; have xd7 := XB.c 7 rfl; have xf7 := XB.f 7 rfl; have yd7 := YB.c 7 rfl; have yf7 := YB.f 7 rfl; have rd7 := RB.c 7 rfl
      go_region
      go_wp2
      go_roundg (val64 [r0, r1, r2, r3, r4, r5, r6, r7]).toNat
      case measure => exact hlt
      case rel =>
        refine ⟨vs, [r0, r1, r2, r3, r4, r5, r6, r7], HN, rfl, ?_, ?_, ?_, ?_⟩
        · exact (below_set8 (g := w.heap.size + 1) (by omega) (below_set8 (g := w.heap.size) (by omega) HB)).drew
        · rw [VM.out]
          exact ((XB.stored8 _ _ _ _ _ _ _ _).set8 (by omega)).drew
        · exact ((YB.set8 (by omega)).stored8 _ _ _ _ _ _ _ _).drew
        · exact ((OB.set8 (by omega)).set8 (by omega)).drew
    · have V1 : val64 vs < 18446744073709551616 := by
        have h1 := (val64_few vw n c1 c2).2
        have h2 := pw64_mono (a := n) (b := 1) (by omega)
        simp only [pw64] at h2
        omega
      have V2 := val64_nonneg vw
      obtain ⟨u0, u1, u2, u3, u4, u5, u6, u7, hus⟩ := list8' ul
      obtain ⟨v0, v1, v2, v3, v4, v5, v6, v7, hvs⟩ := list8' vl
      have UA : Hid (agg us = L8 u0 u1 u2 u3 u4 u5 u6 u7) := by show _ = _; rw [hus]; rfl
      have VA : Hid (agg vs = L8 v0 v1 v2 v3 v4 v5 v6 v7) := by show _ = _; rw [hvs]; rfl
      have XB : Blk w1 w.heap.size [.int .u64 u0, .int .u64 u1, .int .u64 u2, .int .u64 u3, .int .u64 u4, .int .u64 u5, .int .u64 u6, .int .u64 u7] := by have := HT.x; rw [hus] at this; exact this
      have YB : Blk w1 (w.heap.size + 1) [.int .u64 v0, .int .u64 v1, .int .u64 v2, .int .u64 v3, .int .u64 v4, .int .u64 v5, .int .u64 v6, .int .u64 v7] := by have := HT.y; rw [hvs] at this; exact this
      have OB := HT.o
      have HB := HT.below
      have ZW := zeroL v0 v1 v2 v3 v4 v5 v6 v7 (by rw [← hvs]; exact vw)
      have EZ := eqLongZ v0 v1 v2 v3 v4 v5 v6 v7
      rw [ZW, ← hvs] at EZ
      have xc0 := XB.c 0 rfl; have yc0 := YB.c 0 rfl; have oc0 := OB.c 0 rfl; have of0 := OB.f 0 rfl; have xc1 := XB.c 1 rfl; have yc1 := YB.c 1 rfl; have oc1 := OB.c 1 rfl; have of1 := OB.f 1 rfl; have xc2 := XB.c 2 rfl; have yc2 := YB.c 2 rfl; have oc2 := OB.c 2 rfl; have of2 := OB.f 2 rfl; have xc3 := XB.c 3 rfl; have yc3 := YB.c 3 rfl; have oc3 := OB.c 3 rfl; have of3 := OB.f 3 rfl; have xc4 := XB.c 4 rfl; have yc4 := YB.c 4 rfl; have oc4 := OB.c 4 rfl; have of4 := OB.f 4 rfl; have xc5 := XB.c 5 rfl; have yc5 := YB.c 5 rfl; have oc5 := OB.c 5 rfl; have of5 := OB.f 5 rfl; have xc6 := XB.c 6 rfl; have yc6 := YB.c 6 rfl; have oc6 := OB.c 6 rfl; have of6 := OB.f 6 rfl; have xc7 := XB.c 7 rfl; have yc7 := YB.c 7 rfl; have oc7 := OB.c 7 rfl; have of7 := OB.f 7 rfl
      have olt := OB.lt
      by_cases hz : val64 vs = 0
      · rw [hz] at EZ
        simp only [decide_true] at EZ
        have HV : Hid (val64 us = (G : Int)) := by
          obtain ⟨_, _, _, _, hG⟩ := HJ.out
          show _ = _
          have := val64_nonneg uw'
          rw [← hG, hz]
          simp
          omega
        clear ZW hvs c1 c2 c3 HT V1 V2
        go_wp2
        refine bodyPost_ret (v := L8 u0 u1 u2 u3 u4 u5 u6 u7) (by simp [results, Try.results63, go_sem, oc0, oc1, oc2, oc3, oc4, oc5, oc6, oc7]) rfl ?_
        refine ⟨us, by rw [UA.out], ul, uw', HV.out, ?_⟩
        exact below_set8 (g := w.heap.size + 1 + 1) (by omega) HB
      · have V0 : 0 < val64 vs := by omega
        simp only [hz, decide_false] at EZ
        have DV := divideLong_any us vs ul vl uw' vw V0
        rw [UA.out, VA.out] at DV
        have hv0 : Hid (v0 = val64 vs) := by
          obtain ⟨h0, h1, h2, h3, h4, h5, h6, h7⟩ := words8_of (by rw [← hvs]; exact vw)
          show _ = _
          have := V1
          rw [hvs] at this ⊢
          unfold Word at *
          simp only [val64] at *
          omega
        have wv0 : Word v0 := by rw [hv0.out]; exact ⟨V2, V1⟩
        clear ZW hvs c1 c2 c3 HT
        go_wp2_with fail
        refine (DV _).mono ?_
        rintro e w2 ⟨qs, rs, rfl, ql, rl, qw, rw', qv, rv, hB⟩
        replace YB := YB.step hB
        replace OB := OB.step hB
        replace HB := HB.trans (hB.mono HB.size)
        clear hB
        obtain ⟨q0, q1, q2, q3, q4, q5, q6, q7, rfl⟩ := list8' ql
        obtain ⟨r0, r1, r2, r3, r4, r5, r6, r7, hrs⟩ := list8' rl
        have hr0 : Hid (r0 = val64 us % val64 vs) := by
          obtain ⟨h0, h1, h2, h3, h4, h5, h6, h7⟩ := words8_of (by rw [← hrs]; exact rw')
          show _ = _
          have h8 := Int.emod_lt_of_pos (val64 us) V0
          have h9 := Int.emod_nonneg (val64 us) hz
          rw [hrs] at rv
          rw [← rv] at h8 h9 ⊢
          unfold Word at *
          simp only [val64] at *
          omega
        have wr0 : Word r0 := by
          rw [hr0.out]
          exact ⟨Int.emod_nonneg _ hz, Int.lt_trans (Int.emod_lt_of_pos _ V0) V1⟩
        have GW := gcdW_any v0 r0 wv0 wr0
        have RA : agg rs = .agg #[.int .u64 r0, .int .u64 r1, .int .u64 r2, .int .u64 r3, .int .u64 r4, .int .u64 r5, .int .u64 r6, .int .u64 r7] := by rw [hrs]; rfl
        rw [RA]
        have HGV : Hid ((Int.gcd v0 r0 : Int) = (G : Int)) := by
          obtain ⟨_, _, _, _, hG⟩ := HJ.out
          show _ = _
          rw [hv0.out, hr0.out, gcd_down (val64_nonneg uw') V0, hG]
        clear RA hrs
        unfold agg
        simp only [List.map_cons, List.map_nil]
        have ylt := YB.lt
        go_upto_region 7 with fail
        have RB : Blk ((w2.alloc (.cells #[.int .u64 q0, .int .u64 q1, .int .u64 q2, .int .u64 q3, .int .u64 q4, .int .u64 q5, .int .u64 q6, .int .u64 q7] 62)).alloc (.cells #[.int .u64 r0, .int .u64 r1, .int .u64 r2, .int .u64 r3, .int .u64 r4, .int .u64 r5, .int .u64 r6, .int .u64 r7] 62)) (w2.heap.size + 1) [.int .u64 r0, .int .u64 r1, .int .u64 r2, .int .u64 r3, .int .u64 r4, .int .u64 r5, .int .u64 r6, .int .u64 r7] := Blk.newS w2 _ [.int .u64 r0, .int .u64 r1, .int .u64 r2, .int .u64 r3, .int .u64 r4, .int .u64 r5, .int .u64 r6, .int .u64 r7] 62
        replace YB := (YB.alloc (.cells #[.int .u64 q0, .int .u64 q1, .int .u64 q2, .int .u64 q3, .int .u64 q4, .int .u64 q5, .int .u64 q6, .int .u64 q7] 62)).alloc (.cells #[.int .u64 r0, .int .u64 r1, .int .u64 r2, .int .u64 r3, .int .u64 r4, .int .u64 r5, .int .u64 r6, .int .u64 r7] 62)
        replace OB := (OB.alloc (.cells #[.int .u64 q0, .int .u64 q1, .int .u64 q2, .int .u64 q3, .int .u64 q4, .int .u64 q5, .int .u64 q6, .int .u64 q7] 62)).alloc (.cells #[.int .u64 r0, .int .u64 r1, .int .u64 r2, .int .u64 r3, .int .u64 r4, .int .u64 r5, .int .u64 r6, .int .u64 r7] 62)
        replace HB := (HB.alloc HB.size (.cells #[.int .u64 q0, .int .u64 q1, .int .u64 q2, .int .u64 q3, .int .u64 q4, .int .u64 q5, .int .u64 q6, .int .u64 q7] 62)).alloc (by have := HB.size; simp; omega) (.cells #[.int .u64 r0, .int .u64 r1, .int .u64 r2, .int .u64 r3, .int .u64 r4, .int .u64 r5, .int .u64 r6, .int .u64 r7] 62)
        clear xc0 yc0 oc0 of0 xc1 yc1 oc1 of1 xc2 yc2 oc2 of2 xc3 yc3 oc3 of3 xc4 yc4 oc4 of4 xc5 yc5 oc5 of5 xc6 yc6 oc6 of6 xc7 yc7 oc7 of7 olt
        generalize (w2.alloc (.cells #[.int .u64 q0, .int .u64 q1, .int .u64 q2, .int .u64 q3, .int .u64 q4, .int .u64 q5, .int .u64 q6, .int .u64 q7] 62)).alloc (.cells #[.int .u64 r0, .int .u64 r1, .int .u64 r2, .int .u64 r3, .int .u64 r4, .int .u64 r5, .int .u64 r6, .int .u64 r7] 62) = W2 at *
        generalize w2.heap.size + 1 = gr at *
        have yc0 := YB.c 0 rfl
        have rd0 := RB.c 0 rfl
        go_wp2_with fail
        refine (GW _).mono ?_
        rintro e w3 ⟨rfl, hB⟩
        rw [HGV.out]
        replace OB := OB.step hB
        replace HB := HB.trans (hB.mono HB.size)
        have oc0 := OB.c 0 rfl; have of0 := OB.f 0 rfl; have oc1 := OB.c 1 rfl; have of1 := OB.f 1 rfl; have oc2 := OB.c 2 rfl; have of2 := OB.f 2 rfl; have oc3 := OB.c 3 rfl; have of3 := OB.f 3 rfl; have oc4 := OB.c 4 rfl; have of4 := OB.f 4 rfl; have oc5 := OB.c 5 rfl; have of5 := OB.f 5 rfl; have oc6 := OB.c 6 rfl; have of6 := OB.f 6 rfl; have oc7 := OB.c 7 rfl; have of7 := OB.f 7 rfl
        have olt := OB.lt
        have HGW : Hid (Word (G : Int)) := by
          rw [← HGV.out]
          have h1 := Int.gcd_le_left r0 (show 0 < v0 by rw [hv0.out]; exact V0)
          refine ⟨by omega, ?_⟩
          have := wv0.2
          omega
        clear hB OB YB RB GW yc0 rd0
        go_wp2
        refine bodyPost_ret (v := L8 G 0 0 0 0 0 0 0) (by simp [results, Try.results63, go_sem, oc0, oc1, oc2, oc3, oc4, oc5, oc6, oc7]) rfl ?_
        refine ⟨[(G : Int), 0, 0, 0, 0, 0, 0, 0], rfl, rfl, words_cons.2 ⟨HGW.out, words_zero 7⟩, by simp [val64], ?_⟩
        exact below_set8 (g := w.heap.size + 1 + 1) (by omega) HB
end Go.Proofs.Ytddniklhpkagmaa
