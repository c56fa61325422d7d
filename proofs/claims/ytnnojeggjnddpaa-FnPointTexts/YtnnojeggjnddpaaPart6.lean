/- Part 6 of the walks that the proof leans on. -/
import Derived.Test.YtnnojeggjnddpaaPart5
import Derived.Test.YtnnojeggjnddpaaPart2
import Derived.Test.YtnnojeggjnddpaaPart1
import Derived.Test.YtnnojeggjnddpaaPart4
import Derived.Deep.RegionHeld3
/- The walks of a number's size in eight words, and of the common divisor of two words. -/
namespace Go.Proofs.Ytnnojeggjnddpaa
open Go.RowKit
def BelowLP (x7 : Int) (w : World) (e : Ending) (w' : World) : Prop := e = .returned (.bool (x7 / 9223372036854775808 == 1)) ∧ Below w.heap.size w w'
set_option maxRecDepth 100000 in
set_option maxHeartbeats 400000 in
theorem isBelowL_any (x0 x1 x2 x3 x4 x5 x6 x7 : Int) (w : World) : Calls Try.prog 125 #[L8 x0 x1 x2 x3 x4 x5 x6 x7] w (BelowLP x7 w) := by
  go_enter Try.func125, Try.ntmps125
  go_wp2
  go_ret
  exact ⟨rfl, (Below.refl _ _).alloc (Nat.le_refl _) _⟩
theorem sl_size {z0 z1 z2 z3 z4 z5 z6 z7 x0 x1 x2 x3 x4 x5 x6 x7 : Int} (wx : Words [x0, x1, x2, x3, x4, x5, x6, x7]) (wz : Words [z0, z1, z2, z3, z4, z5, z6, z7]) (h : ∃ c, 0 ≤ c ∧ c ≤ 1 ∧ val64 [z0, z1, z2, z3, z4, z5, z6, z7] = if (x7 / 9223372036854775808 == 1) = true then 0 - val64 [x0, x1, x2, x3, x4, x5, x6, x7] + c * 13407807929942597099574024998205846127479365820592393377723561443721764030073546976801874298166903427690031858186486050853753882811946569946433649006084096 else val64 [x0, x1, x2, x3, x4, x5, x6, x7]) :
    val64 [z0, z1, z2, z3, z4, z5, z6, z7] = ((sl x0 x1 x2 x3 x4 x5 x6 x7).natAbs : Int) := by
  obtain ⟨t1, t2, t3⟩ := sl_top wx
  obtain ⟨_, s2, s3⟩ := sl_top wz
  obtain ⟨c, c0, c1, hv⟩ := h
  have h7 : Word x7 := words_at wx 7 (by simp)
  unfold Word at h7
  unfold sl
  by_cases hb : x7 < 9223372036854775808
  · rw [if_pos hb]
    have : (x7 / 9223372036854775808 == 1) = false := beq_eq_false_iff_ne.2 (by omega)
    rw [this] at hv
    simp only [Bool.false_eq_true, if_false] at hv
    omega
  · rw [if_neg hb]
    have : (x7 / 9223372036854775808 == 1) = true := beq_iff_eq.2 (by omega)
    rw [this] at hv
    simp only [if_true] at hv
    have := mt t1.2 hb
    obtain rfl | rfl : c = 0 ∨ c = 1 := by omega
    · omega
    · omega
theorem sz_cells {x0 x1 x2 x3 x4 x5 x6 x7 : Int} {w W : World} (h : Blk W w.heap.size [.int .u64 x0, .int .u64 x1, .int .u64 x2, .int .u64 x3, .int .u64 x4, .int .u64 x5, .int .u64 x6, .int .u64 x7]) : (fun w' => w'.cell? ⟨w.heap.size, 0, none⟩ = some (.int .u64 x0) ∧ w'.cell? ⟨w.heap.size, 1, none⟩ = some (.int .u64 x1) ∧ w'.cell? ⟨w.heap.size, 2, none⟩ = some (.int .u64 x2) ∧ w'.cell? ⟨w.heap.size, 3, none⟩ = some (.int .u64 x3) ∧ w'.cell? ⟨w.heap.size, 4, none⟩ = some (.int .u64 x4) ∧ w'.cell? ⟨w.heap.size, 5, none⟩ = some (.int .u64 x5) ∧ w'.cell? ⟨w.heap.size, 6, none⟩ = some (.int .u64 x6) ∧ w'.cell? ⟨w.heap.size, 7, none⟩ = some (.int .u64 x7)) W :=
  ⟨h.c 0 rfl, h.c 1 rfl, h.c 2 rfl, h.c 3 rfl, h.c 4 rfl, h.c 5 rfl, h.c 6 rfl, h.c 7 rfl⟩
set_option maxRecDepth 100000 in
set_option maxHeartbeats 1000000 in
theorem sizeL_any (x0 x1 x2 x3 x4 x5 x6 x7 : Int) (wx : Words [x0, x1, x2, x3, x4, x5, x6, x7]) (w : World) : Calls Try.prog 115 #[L8 x0 x1 x2 x3 x4 x5 x6 x7] w (AggP 8 ((sl x0 x1 x2 x3 x4 x5 x6 x7).natAbs : Int) w) := by
  have X0 := (Blk.new w [.int .u64 x0, .int .u64 x1, .int .u64 x2, .int .u64 x3, .int .u64 x4, .int .u64 x5, .int .u64 x6, .int .u64 x7] 82 rfl).alloc (.cells #[.int .u64 0, .int .u64 0, .int .u64 0, .int .u64 0, .int .u64 0, .int .u64 0, .int .u64 0, .int .u64 0] 82)
  have Y0 := Blk.new (w.alloc (.cells #[.int .u64 x0, .int .u64 x1, .int .u64 x2, .int .u64 x3, .int .u64 x4, .int .u64 x5, .int .u64 x6, .int .u64 x7] 82)) [.int .u64 0, .int .u64 0, .int .u64 0, .int .u64 0, .int .u64 0, .int .u64 0, .int .u64 0, .int .u64 0] 82 (g := w.heap.size + 1) (by simp)
  have HB := ((Below.refl _ w).alloc (Nat.le_refl _) (.cells #[.int .u64 x0, .int .u64 x1, .int .u64 x2, .int .u64 x3, .int .u64 x4, .int .u64 x5, .int .u64 x6, .int .u64 x7] 82)).alloc (by simp) (.cells #[.int .u64 0, .int .u64 0, .int .u64 0, .int .u64 0, .int .u64 0, .int .u64 0, .int .u64 0, .int .u64 0] 82)
  go_enter Try.func115, Try.ntmps115
  go_wp2_with fail
  rw [show ([.int .u64 x0, .int .u64 x1, .int .u64 x2, .int .u64 x3, .int .u64 x4, .int .u64 x5, .int .u64 x6, .int .u64 x7] : List Value).toArray = #[.int .u64 x0, .int .u64 x1, .int .u64 x2, .int .u64 x3, .int .u64 x4, .int .u64 x5, .int .u64 x6, .int .u64 x7] from rfl] at X0
  generalize (w.alloc (.cells #[.int .u64 x0, .int .u64 x1, .int .u64 x2, .int .u64 x3, .int .u64 x4, .int .u64 x5, .int .u64 x6, .int .u64 x7] 82)).alloc (.cells #[.int .u64 0, .int .u64 0, .int .u64 0, .int .u64 0, .int .u64 0, .int .u64 0, .int .u64 0, .int .u64 0] 82) = W at *
  go_region_held3 (fun w' => w'.cell? ⟨w.heap.size, 0, none⟩ = some (.int .u64 x0) ∧ w'.cell? ⟨w.heap.size, 1, none⟩ = some (.int .u64 x1) ∧ w'.cell? ⟨w.heap.size, 2, none⟩ = some (.int .u64 x2) ∧ w'.cell? ⟨w.heap.size, 3, none⟩ = some (.int .u64 x3) ∧ w'.cell? ⟨w.heap.size, 4, none⟩ = some (.int .u64 x4) ∧ w'.cell? ⟨w.heap.size, 5, none⟩ = some (.int .u64 x5) ∧ w'.cell? ⟨w.heap.size, 6, none⟩ = some (.int .u64 x6) ∧ w'.cell? ⟨w.heap.size, 7, none⟩ = some (.int .u64 x7)) ((refine sz_cells ?_; repeat (first | (with_reducible exact X0) | (with_reducible exact X0.drew) | (with_reducible refine Blk.setO ?_ (by show w.heap.size ≠ w.heap.size + 1; omega) _))))
    (first
      | (go_at_call 125; refine (isBelowL_any x0 x1 x2 x3 x4 x5 x6 x7 _).mono ?_; rintro e w1 ⟨rfl, hB⟩; (first | (replace X0 := X0.step hB; replace Y0 := Y0.step hB; replace HB := HB.trans (hB.mono HB.size)) | (replace X0 := X0.drew.step hB; replace Y0 := Y0.drew.step hB; replace HB := HB.drew.trans (hB.mono HB.size))); clear hB)
      | (go_at_call 53; refine (signed_any x0 x1 x2 x3 x4 x5 x6 x7 _ wx _).mono ?_; rintro e w2 ⟨r0, r1, r2, r3, r4, r5, r6, r7, rfl, wr8, hr8, hB⟩; (first | (replace X0 := X0.step hB; replace Y0 := Y0.step hB; replace HB := HB.trans (hB.mono HB.size)) | (replace X0 := X0.drew.step hB; replace Y0 := Y0.drew.step hB; replace HB := HB.drew.trans (hB.mono HB.size))); clear hB; obtain ⟨o0, p0, o1, p1, o2, p2, o3, p3, o4, p4, o5, p5, o6, p6, o7, p7⟩ := Y0.cf8; have olt := Y0.lt))
  all_goals have HV := sl_size wx wr8 hr8
  all_goals clear hr8 X0 Y0
  all_goals go_wp2
  all_goals refine bodyPost_ret (v := L8 r0 r1 r2 r3 r4 r5 r6 r7) (by simp [results, Try.results115, go_sem, o0, o1, o2, o3, o4, o5, o6, o7]) rfl ?_
  all_goals refine ⟨[r0, r1, r2, r3, r4, r5, r6, r7], rfl, rfl, wr8, HV, ?_⟩
  all_goals exact below_set8 (g := w.heap.size + 1) (by omega) HB
def GcdWP (x y : Int) (w : World) (e : Ending) (w' : World) : Prop := e = .returned (.int .u64 (Int.gcd x y : Int)) ∧ Below w.heap.size w w'
theorem gcd_down {x y : Int} (hx : 0 ≤ x) (hy : 0 < y) : Int.gcd y (x % y) = Int.gcd x y := by
  obtain ⟨a, rfl⟩ := Int.eq_ofNat_of_zero_le hx
  obtain ⟨b, rfl⟩ := Int.eq_ofNat_of_zero_le (Int.le_of_lt hy)
  rw [show ((a : Int) % (b : Int)) = ((a % b : Nat) : Int) from (Int.natCast_emod a b).symm, Int.gcd_natCast_natCast, Int.gcd_natCast_natCast, Nat.gcd_comm a b, Nat.gcd_rec b a, Nat.gcd_comm]
set_option maxRecDepth 100000 in
set_option maxHeartbeats 400000 in
theorem gcdW_any (x y : Int) (hx : Word x) (hy : Word y) (w : World) : Calls Try.prog 124 #[.int .u64 x, .int .u64 y] w (GcdWP x y w) := by
  go_enter Try.func124, Try.ntmps124
  go_wp2
  go_loopg [0, 1] y.toNat (fun k p q wr => ∃ a b : Int, p = .int .u64 a ∧ q = .int .u64 b ∧ Word a ∧ Word b ∧ b.toNat = k ∧ Int.gcd a b = Int.gcd x y ∧ Below w.heap.size w wr)
  case atStart => exact ⟨x, y, rfl, rfl, hx, hy, rfl, rfl, Below.refl _ _⟩
  case round =>
    obtain ⟨a, b, rfl, rfl, ha, hb, hk, hg, hB⟩ := hrel
    have HG : Hid (Int.gcd a b = Int.gcd x y) := hg
    clear hg
    by_cases h0 : b = 0
    · subst h0
      go_wp2
      go_ret
      refine ⟨?_, hB⟩
      rw [← HG.out]
      have := ha.1
      simp
      omega
    · have hb0 : 0 < b := by have := hb.1; omega
      have d2 : a.tmod b = a % b := Int.tmod_eq_emod_of_nonneg ha.1
      have e0 := Int.emod_nonneg a (b := b) h0
      have e1 := Int.emod_lt_of_pos a hb0
      have e2 : Word (a % b) := ⟨e0, Int.lt_trans e1 hb.2⟩
      have e3 : Hid (Int.gcd b (a % b) = Int.gcd x y) := (gcd_down ha.1 hb0).trans HG.out
      have d3 := wrap_word e2.1 e2.2
      go_wp2
      go_quiet (fail)
      go_wp2
      go_roundg (a % b).toNat
      case measure => omega
      case rel => exact ⟨b, a % b, rfl, rfl, hb, e2, rfl, e3.out, bdrew hB _⟩
theorem Blk.stored8 {W : World} {g : Nat} {z0 z1 z2 z3 z4 z5 z6 z7 : Value} (G : Blk W g [z0, z1, z2, z3, z4, z5, z6, z7]) (v0 v1 v2 v3 v4 v5 v6 v7 : Value) : Blk ((((((((W.setCell ⟨g, 0, none⟩ v0).setCell ⟨g, 1, none⟩ v1).setCell ⟨g, 2, none⟩ v2).setCell ⟨g, 3, none⟩ v3).setCell ⟨g, 4, none⟩ v4).setCell ⟨g, 5, none⟩ v5).setCell ⟨g, 6, none⟩ v6).setCell ⟨g, 7, none⟩ v7) g [v0, v1, v2, v3, v4, v5, v6, v7] :=
  ((((((((G.setI 0 (by simp) v0).setI 1 (by simp) v1).setI 2 (by simp) v2).setI 3 (by simp) v3).setI 4 (by simp) v4).setI 5 (by simp) v5).setI 6 (by simp) v6).setI 7 (by simp) v7)
theorem Blk.set8 {W : World} {vs : List Value} {v0 v1 v2 v3 v4 v5 v6 v7 : Value} {g g' : Nat} (G : Blk W g' vs) (hg : g' ≠ g) : Blk ((((((((W.setCell ⟨g, 0, none⟩ v0).setCell ⟨g, 1, none⟩ v1).setCell ⟨g, 2, none⟩ v2).setCell ⟨g, 3, none⟩ v3).setCell ⟨g, 4, none⟩ v4).setCell ⟨g, 5, none⟩ v5).setCell ⟨g, 6, none⟩ v6).setCell ⟨g, 7, none⟩ v7) g' vs :=
  ((((((((G.setO (by exact hg) _).setO (by exact hg) _).setO (by exact hg) _).setO (by exact hg) _).setO (by exact hg) _).setO (by exact hg) _).setO (by exact hg) _).setO (by exact hg) _)
set_option maxRecDepth 100000 in
set_option maxHeartbeats 2000000 in
theorem eqLongZ (x0 x1 x2 x3 x4 x5 x6 x7 : Int) (w : World) : (Op.equalIn 10000 82 (L8 x0 x1 x2 x3 x4 x5 x6 x7) (L8 0 0 0 0 0 0 0 0)).run Try.prog w = .ok (x0 == 0 && x1 == 0 && x2 == 0 && x3 == 0 && x4 == 0 && x5 == 0 && x6 == 0 && x7 == 0) w := by
  have u3 := Try.underlying22
  have a3 := Try.isAgg22
  have z3 := Try.sizeOf22
  rw [show (10000 : Nat) = 9999 + 1 from rfl, Op.equalIn]
  simp only [Sem.run_bind, run_underlying Try.underlying82, Result.andThen_ok]
  simp only [Std.Legacy.Range.forIn_eq_forIn_range', Std.Legacy.Range.size, Nat.sub_zero, Nat.add_sub_cancel, Nat.div_one, List.range'_succ, List.range'_zero, List.forIn_cons, List.forIn_nil]
  go_simp
  by_cases h0 : x0 = 0
  · subst h0
    by_cases h1 : x1 = 0
    · subst h1
      by_cases h2 : x2 = 0
      · subst h2
        by_cases h3 : x3 = 0
        · subst h3
          by_cases h4 : x4 = 0
          · subst h4
            by_cases h5 : x5 = 0
            · subst h5
              by_cases h6 : x6 = 0
              · subst h6
                by_cases h7 : x7 = 0
                · subst h7
                  simp
                · simp [h7]
              · simp [h6]
            · simp [h5]
          · simp [h4]
        · simp [h3]
      · simp [h2]
    · simp [h1]
  · simp [h0]
theorem zeroL (x0 x1 x2 x3 x4 x5 x6 x7 : Int) (h : Words [x0, x1, x2, x3, x4, x5, x6, x7]) : (x0 == 0 && x1 == 0 && x2 == 0 && x3 == 0 && x4 == 0 && x5 == 0 && x6 == 0 && x7 == 0) = decide (val64 [x0, x1, x2, x3, x4, x5, x6, x7] = 0) := by
  obtain ⟨h0, h1, h2, h3, h4, h5, h6, h7⟩ := words8_of h
  rw [Bool.eq_iff_iff]
  simp only [Bool.and_eq_true, beq_iff_eq, decide_eq_true_eq]
  unfold Word at *
  simp only [val64]
  omega
structure Gl (w wr : World) (xs ys : List Int) : Prop where
  below : Below w.heap.size w wr
  x : Blk wr w.heap.size (xs.map (Value.int .u64))
  y : Blk wr (w.heap.size + 1) (ys.map (Value.int .u64))
  o : Blk wr (w.heap.size + 1 + 1) [.int .u64 0, .int .u64 0, .int .u64 0, .int .u64 0, .int .u64 0, .int .u64 0, .int .u64 0, .int .u64 0]
theorem Gl.step {w wr wr' : World} {xs ys : List Int} (h : Gl w wr xs ys) (hB : Below wr.heap.size wr wr') : Gl w wr' xs ys := ⟨h.below.trans (hB.mono h.below.size), h.x.step hB, h.y.step hB, h.o.step hB⟩
set_option maxRecDepth 100000 in
set_option maxHeartbeats 2000000 in
theorem gcdL_any (xs ys : List Int) (hl : xs.length = 8) (hm : ys.length = 8) (hx : Words xs) (hy : Words ys) (w : World) : Calls Try.prog 114 #[agg xs, agg ys] w (AggP 8 (Int.gcd (val64 xs) (val64 ys) : Int) w) := by
  obtain ⟨G, hG⟩ : ∃ G, Int.gcd (val64 xs) (val64 ys) = G := ⟨_, rfl⟩
  rw [hG]
  have HI : xs.length = 8 ∧ ys.length = 8 ∧ Words xs ∧ Words ys ∧ Int.gcd (val64 xs) (val64 ys) = G := ⟨hl, hm, hx, hy, hG⟩
  obtain ⟨x0, x1, x2, x3, x4, x5, x6, x7, hxs⟩ := list8' hl
  have HA : agg xs = L8 x0 x1 x2 x3 x4 x5 x6 x7 := by rw [hxs]; rfl
  have AX : xs.map (Value.int .u64) = [.int .u64 x0, .int .u64 x1, .int .u64 x2, .int .u64 x3, .int .u64 x4, .int .u64 x5, .int .u64 x6, .int .u64 x7] := by rw [hxs]; rfl
  rw [HA]
  obtain ⟨y0, y1, y2, y3, y4, y5, y6, y7, hys⟩ := list8' hm
  have HA : agg ys = L8 y0 y1 y2 y3 y4 y5 y6 y7 := by rw [hys]; rfl
  have AY : ys.map (Value.int .u64) = [.int .u64 y0, .int .u64 y1, .int .u64 y2, .int .u64 y3, .int .u64 y4, .int .u64 y5, .int .u64 y6, .int .u64 y7] := by rw [hys]; rfl
  rw [HA]
  have HS : Gl w (((w.alloc (.cells #[.int .u64 x0, .int .u64 x1, .int .u64 x2, .int .u64 x3, .int .u64 x4, .int .u64 x5, .int .u64 x6, .int .u64 x7] 82)).alloc (.cells #[.int .u64 y0, .int .u64 y1, .int .u64 y2, .int .u64 y3, .int .u64 y4, .int .u64 y5, .int .u64 y6, .int .u64 y7] 82)).alloc (.cells #[.int .u64 0, .int .u64 0, .int .u64 0, .int .u64 0, .int .u64 0, .int .u64 0, .int .u64 0, .int .u64 0] 82)) xs ys :=
    ⟨(((Below.refl _ _).alloc (Nat.le_refl _) _).alloc (by simp) _).alloc (by simp; omega) _, by rw [AX]; exact ((Blk.new w _ _ rfl).alloc _).alloc _, by rw [AY]; exact (Blk.new _ [.int .u64 y0, .int .u64 y1, .int .u64 y2, .int .u64 y3, .int .u64 y4, .int .u64 y5, .int .u64 y6, .int .u64 y7] _ (by simp)).alloc _, Blk.new _ [.int .u64 0, .int .u64 0, .int .u64 0, .int .u64 0, .int .u64 0, .int .u64 0, .int .u64 0, .int .u64 0] _ (by simp)⟩
  have HJ : Hid (xs.length = 8 ∧ ys.length = 8 ∧ Words xs ∧ Words ys ∧ Int.gcd (val64 xs) (val64 ys) = G) := HI
  clear HI HA AX AY hxs hys hl hm hx hy hG
  go_enter Try.func114, Try.ntmps114
  go_wp2_with fail
  generalize (((w.alloc (.cells #[.int .u64 x0, .int .u64 x1, .int .u64 x2, .int .u64 x3, .int .u64 x4, .int .u64 x5, .int .u64 x6, .int .u64 x7] 82)).alloc (.cells #[.int .u64 y0, .int .u64 y1, .int .u64 y2, .int .u64 y3, .int .u64 y4, .int .u64 y5, .int .u64 y6, .int .u64 y7] 82)).alloc (.cells #[.int .u64 0, .int .u64 0, .int .u64 0, .int .u64 0, .int .u64 0, .int .u64 0, .int .u64 0, .int .u64 0] 82)) = W at *
  go_loopg [] (val64 ys).toNat (fun k wr => ∃ us vs : List Int, Hid (us.length = 8 ∧ vs.length = 8 ∧ Words us ∧ Words vs ∧ Int.gcd (val64 us) (val64 vs) = G) ∧ (val64 vs).toNat = k ∧ Gl w wr us vs)
  case atStart => exact ⟨xs, ys, HJ, rfl, HS⟩
  case round =>
    clear HJ HS
    obtain ⟨us, vs, HJ, hk, HT⟩ := hrel
    obtain ⟨ul, vl, uw', vw, hG⟩ := HJ.out
    have RY := blk_row_take HT.y (k := 8) (by omega)
    rw [List.take_of_length_le (by omega)] at RY
    go_wp2_with fail
    refine (countWords_any (w.heap.size + 1) 0 8 8 vs _ vl RY (by decide)).mono ?_
    rintro e w1 ⟨n, rfl, c1, c2, c3, rfl⟩
    have hn8 : (n : Int) ≤ 8 := by omega
    clear RY hG
    by_cases hn : 1 < n
    · have V0 : 0 < val64 vs := by
        obtain ⟨m, rfl⟩ : ∃ m, n = m + 1 := ⟨n - 1, by omega⟩
        have h1 := c3 m rfl (by omega)
        have h2 := val64_nonneg vw
        apply Decidable.byContradiction
        intro h3
        exact h1 (val64_zero_at vw (by omega) m (by omega))
      have DV := divideLong_any us vs ul vl uw' vw V0
      obtain ⟨u0, u1, u2, u3, u4, u5, u6, u7, hus⟩ := list8' ul
      obtain ⟨v0, v1, v2, v3, v4, v5, v6, v7, hvs⟩ := list8' vl
      have UA : agg us = L8 u0 u1 u2 u3 u4 u5 u6 u7 := by rw [hus]; rfl
      have VA : agg vs = L8 v0 v1 v2 v3 v4 v5 v6 v7 := by rw [hvs]; rfl
      rw [UA, VA] at DV
      have VM : Hid (vs.map (Value.int .u64) = [.int .u64 v0, .int .u64 v1, .int .u64 v2, .int .u64 v3, .int .u64 v4, .int .u64 v5, .int .u64 v6, .int .u64 v7]) := by show _ = _; rw [hvs]; rfl
      have XB : Blk w1 w.heap.size [.int .u64 u0, .int .u64 u1, .int .u64 u2, .int .u64 u3, .int .u64 u4, .int .u64 u5, .int .u64 u6, .int .u64 u7] := by have := HT.x; rw [hus] at this; exact this
      have YB : Blk w1 (w.heap.size + 1) [.int .u64 v0, .int .u64 v1, .int .u64 v2, .int .u64 v3, .int .u64 v4, .int .u64 v5, .int .u64 v6, .int .u64 v7] := by have := HT.y; rw [hvs] at this; exact this
      have OB := HT.o
      have HB := HT.below
      have xc0 := XB.c 0 rfl; have yc0 := YB.c 0 rfl; have xc1 := XB.c 1 rfl; have yc1 := YB.c 1 rfl; have xc2 := XB.c 2 rfl; have yc2 := YB.c 2 rfl; have xc3 := XB.c 3 rfl; have yc3 := YB.c 3 rfl; have xc4 := XB.c 4 rfl; have yc4 := YB.c 4 rfl; have xc5 := XB.c 5 rfl; have yc5 := YB.c 5 rfl; have xc6 := XB.c 6 rfl; have yc6 := YB.c 6 rfl; have xc7 := XB.c 7 rfl; have yc7 := YB.c 7 rfl
      clear UA VA hus hvs HT c1 c2 c3
      go_wp2_with fail
      refine (DV _).mono ?_
      rintro e w2 ⟨qs, rs, rfl, ql, rl, qw, rw', qv, rv, hB⟩
      replace XB := XB.step hB
      replace YB := YB.step hB
      replace OB := OB.step hB
      replace HB := HB.trans (hB.mono HB.size)
      have HN : Hid (vs.length = 8 ∧ rs.length = 8 ∧ Words vs ∧ Words rs ∧ Int.gcd (val64 vs) (val64 rs) = G) := by
        obtain ⟨_, _, _, _, hG⟩ := HJ.out
        exact ⟨vl, rl, vw, rw', by rw [rv, gcd_down (val64_nonneg uw') V0]; exact hG⟩
      have hlt : (val64 rs).toNat < gk := by
        have h1 := Int.emod_lt_of_pos (val64 us) V0
        have h2 := val64_nonneg rw'
        omega
      obtain ⟨q0, q1, q2, q3, q4, q5, q6, q7, rfl⟩ := list8' ql
      obtain ⟨r0, r1, r2, r3, r4, r5, r6, r7, rfl⟩ := list8' rl
      unfold agg
      simp only [List.map_cons, List.map_nil]
      have xd0 := XB.c 0 rfl; have xf0 := XB.f 0 rfl; have yd0 := YB.c 0 rfl; have yf0 := YB.f 0 rfl; have xd1 := XB.c 1 rfl; have xf1 := XB.f 1 rfl; have yd1 := YB.c 1 rfl; have yf1 := YB.f 1 rfl; have xd2 := XB.c 2 rfl; have xf2 := XB.f 2 rfl; have yd2 := YB.c 2 rfl; have yf2 := YB.f 2 rfl; have xd3 := XB.c 3 rfl; have xf3 := XB.f 3 rfl; have yd3 := YB.c 3 rfl; have yf3 := YB.f 3 rfl; have xd4 := XB.c 4 rfl; have xf4 := XB.f 4 rfl; have yd4 := YB.c 4 rfl; have yf4 := YB.f 4 rfl; have xd5 := XB.c 5 rfl; have xf5 := XB.f 5 rfl; have yd5 := YB.c 5 rfl; have yf5 := YB.f 5 rfl; have xd6 := XB.c 6 rfl; have xf6 := XB.f 6 rfl; have yd6 := YB.c 6 rfl; have yf6 := YB.f 6 rfl; have xd7 := XB.c 7 rfl; have xf7 := XB.f 7 rfl; have yd7 := YB.c 7 rfl; have yf7 := YB.f 7 rfl
      have xlt := XB.lt
      have ylt := YB.lt
      clear qv rv ql rl qw rw' hB DV
      go_wp2_with fail
      have QO : Obj := .cells #[.int .u64 q0, .int .u64 q1, .int .u64 q2, .int .u64 q3, .int .u64 q4, .int .u64 q5, .int .u64 q6, .int .u64 q7] 82
      have RB : Blk ((w2.alloc (.cells #[.int .u64 q0, .int .u64 q1, .int .u64 q2, .int .u64 q3, .int .u64 q4, .int .u64 q5, .int .u64 q6, .int .u64 q7] 82)).alloc (.cells #[.int .u64 r0, .int .u64 r1, .int .u64 r2, .int .u64 r3, .int .u64 r4, .int .u64 r5, .int .u64 r6, .int .u64 r7] 82)) (w2.heap.size + 1) [.int .u64 r0, .int .u64 r1, .int .u64 r2, .int .u64 r3, .int .u64 r4, .int .u64 r5, .int .u64 r6, .int .u64 r7] := Blk.newS w2 _ [.int .u64 r0, .int .u64 r1, .int .u64 r2, .int .u64 r3, .int .u64 r4, .int .u64 r5, .int .u64 r6, .int .u64 r7] 82
      replace XB := (XB.alloc (.cells #[.int .u64 q0, .int .u64 q1, .int .u64 q2, .int .u64 q3, .int .u64 q4, .int .u64 q5, .int .u64 q6, .int .u64 q7] 82)).alloc (.cells #[.int .u64 r0, .int .u64 r1, .int .u64 r2, .int .u64 r3, .int .u64 r4, .int .u64 r5, .int .u64 r6, .int .u64 r7] 82)
      replace YB := (YB.alloc (.cells #[.int .u64 q0, .int .u64 q1, .int .u64 q2, .int .u64 q3, .int .u64 q4, .int .u64 q5, .int .u64 q6, .int .u64 q7] 82)).alloc (.cells #[.int .u64 r0, .int .u64 r1, .int .u64 r2, .int .u64 r3, .int .u64 r4, .int .u64 r5, .int .u64 r6, .int .u64 r7] 82)
      replace OB := (OB.alloc (.cells #[.int .u64 q0, .int .u64 q1, .int .u64 q2, .int .u64 q3, .int .u64 q4, .int .u64 q5, .int .u64 q6, .int .u64 q7] 82)).alloc (.cells #[.int .u64 r0, .int .u64 r1, .int .u64 r2, .int .u64 r3, .int .u64 r4, .int .u64 r5, .int .u64 r6, .int .u64 r7] 82)
      replace HB := (HB.alloc HB.size (.cells #[.int .u64 q0, .int .u64 q1, .int .u64 q2, .int .u64 q3, .int .u64 q4, .int .u64 q5, .int .u64 q6, .int .u64 q7] 82)).alloc (by have := HB.size; simp; omega) (.cells #[.int .u64 r0, .int .u64 r1, .int .u64 r2, .int .u64 r3, .int .u64 r4, .int .u64 r5, .int .u64 r6, .int .u64 r7] 82)
      have hn1 : w.heap.size ≠ w2.heap.size + 1 := by omega
      have hn2 : w.heap.size + 1 ≠ w2.heap.size + 1 := by omega
      clear xd0 xf0 yd0 yf0 xd1 xf1 yd1 yf1 xd2 xf2 yd2 yf2 xd3 xf3 yd3 yf3 xd4 xf4 yd4 yf4 xd5 xf5 yd5 yf5 xd6 xf6 yd6 yf6 xd7 xf7 yd7 yf7 xc0 yc0 xc1 yc1 xc2 yc2 xc3 yc3 xc4 yc4 xc5 yc5 xc6 yc6 xc7 yc7 xlt ylt QO
      generalize (w2.alloc (.cells #[.int .u64 q0, .int .u64 q1, .int .u64 q2, .int .u64 q3, .int .u64 q4, .int .u64 q5, .int .u64 q6, .int .u64 q7] 82)).alloc (.cells #[.int .u64 r0, .int .u64 r1, .int .u64 r2, .int .u64 r3, .int .u64 r4, .int .u64 r5, .int .u64 r6, .int .u64 r7] 82) = W2 at *
      generalize w2.heap.size + 1 = gr at *
      have xd0 := XB.c 0 rfl; have xf0 := XB.f 0 rfl; have yd0 := YB.c 0 rfl; have yf0 := YB.f 0 rfl; have rd0 := RB.c 0 rfl; have xd1 := XB.c 1 rfl; have xf1 := XB.f 1 rfl; have yd1 := YB.c 1 rfl; have yf1 := YB.f 1 rfl; have rd1 := RB.c 1 rfl; have xd2 := XB.c 2 rfl; have xf2 := XB.f 2 rfl; have yd2 := YB.c 2 rfl; have yf2 := YB.f 2 rfl; have rd2 := RB.c 2 rfl; have xd3 := XB.c 3 rfl; have xf3 := XB.f 3 rfl; have yd3 := YB.c 3 rfl; have yf3 := YB.f 3 rfl; have rd3 := RB.c 3 rfl; have xd4 := XB.c 4 rfl; have xf4 := XB.f 4 rfl; have yd4 := YB.c 4 rfl; have yf4 := YB.f 4 rfl; have rd4 := RB.c 4 rfl; have xd5 := XB.c 5 rfl; have xf5 := XB.f 5 rfl; have yd5 := YB.c 5 rfl; have yf5 := YB.f 5 rfl; have rd5 := RB.c 5 rfl; have xd6 := XB.c 6 rfl; have xf6 := XB.f 6 rfl; have yd6 := YB.c 6 rfl; have yf6 := YB.f 6 rfl; have rd6 := RB.c 6 rfl; have xd7 := XB.c 7 rfl; have xf7 := XB.f 7 rfl; have yd7 := YB.c 7 rfl; have yf7 := YB.f 7 rfl; have rd7 := RB.c 7 rfl
      go_region
      go_wp2
      go_roundg (val64 [r0, r1, r2, r3, r4, r5, r6, r7]).toNat
      case measure => exact hlt
      case rel =>
        refine ⟨vs, [r0, r1, r2, r3, r4, r5, r6, r7], HN, rfl, ?_, ?_, ?_, ?_⟩
        · exact (below_set8 (g := w.heap.size + 1) (by omega) (below_set8 (g := w.heap.size) (by omega) HB)).drew
        · rw [VM.out]
          exact ((XB.stored8 _ _ _ _ _ _ _ _).set8 (by omega)).drew
        · exact ((YB.set8 (by omega)).stored8 _ _ _ _ _ _ _ _).drew
        · exact ((OB.set8 (by omega)).set8 (by omega)).drew
    · have V1 : val64 vs < 18446744073709551616 := by
        have h1 := (val64_few vw n c1 c2).2
        have h2 := pw64_mono (a := n) (b := 1) (by omega)
        simp only [pw64] at h2
        omega
      have V2 := val64_nonneg vw
      obtain ⟨u0, u1, u2, u3, u4, u5, u6, u7, hus⟩ := list8' ul
      obtain ⟨v0, v1, v2, v3, v4, v5, v6, v7, hvs⟩ := list8' vl
      have UA : Hid (agg us = L8 u0 u1 u2 u3 u4 u5 u6 u7) := by show _ = _; rw [hus]; rfl
      have VA : Hid (agg vs = L8 v0 v1 v2 v3 v4 v5 v6 v7) := by show _ = _; rw [hvs]; rfl
      have XB : Blk w1 w.heap.size [.int .u64 u0, .int .u64 u1, .int .u64 u2, .int .u64 u3, .int .u64 u4, .int .u64 u5, .int .u64 u6, .int .u64 u7] := by have := HT.x; rw [hus] at this; exact this
      have YB : Blk w1 (w.heap.size + 1) [.int .u64 v0, .int .u64 v1, .int .u64 v2, .int .u64 v3, .int .u64 v4, .int .u64 v5, .int .u64 v6, .int .u64 v7] := by have := HT.y; rw [hvs] at this; exact this
      have OB := HT.o
      have HB := HT.below
      have ZW := zeroL v0 v1 v2 v3 v4 v5 v6 v7 (by rw [← hvs]; exact vw)
      have EZ := eqLongZ v0 v1 v2 v3 v4 v5 v6 v7
      rw [ZW, ← hvs] at EZ
      have xc0 := XB.c 0 rfl; have yc0 := YB.c 0 rfl; have oc0 := OB.c 0 rfl; have of0 := OB.f 0 rfl; have xc1 := XB.c 1 rfl; have yc1 := YB.c 1 rfl; have oc1 := OB.c 1 rfl; have of1 := OB.f 1 rfl; have xc2 := XB.c 2 rfl; have yc2 := YB.c 2 rfl; have oc2 := OB.c 2 rfl; have of2 := OB.f 2 rfl; have xc3 := XB.c 3 rfl; have yc3 := YB.c 3 rfl; have oc3 := OB.c 3 rfl; have of3 := OB.f 3 rfl; have xc4 := XB.c 4 rfl; have yc4 := YB.c 4 rfl; have oc4 := OB.c 4 rfl; have of4 := OB.f 4 rfl; have xc5 := XB.c 5 rfl; have yc5 := YB.c 5 rfl; have oc5 := OB.c 5 rfl; have of5 := OB.f 5 rfl; have xc6 := XB.c 6 rfl; have yc6 := YB.c 6 rfl; have oc6 := OB.c 6 rfl; have of6 := OB.f 6 rfl; have xc7 := XB.c 7 rfl; have yc7 := YB.c 7 rfl; have oc7 := OB.c 7 rfl; have of7 := OB.f 7 rfl
      have olt := OB.lt
      by_cases hz : val64 vs = 0
      · rw [hz] at EZ
        simp only [decide_true] at EZ
        have HV : Hid (val64 us = (G : Int)) := by
          obtain ⟨_, _, _, _, hG⟩ := HJ.out
          show _ = _
          have := val64_nonneg uw'
          rw [← hG, hz]
          simp
          omega
        clear ZW hvs c1 c2 c3 HT V1 V2
        go_wp2
        refine bodyPost_ret (v := L8 u0 u1 u2 u3 u4 u5 u6 u7) (by simp [results, Try.results114, go_sem, oc0, oc1, oc2, oc3, oc4, oc5, oc6, oc7]) rfl ?_
        refine ⟨us, by rw [UA.out], ul, uw', HV.out, ?_⟩
        exact below_set8 (g := w.heap.size + 1 + 1) (by omega) HB
      · have V0 : 0 < val64 vs := by omega
        simp only [hz, decide_false] at EZ
        have DV := divideLong_any us vs ul vl uw' vw V0
        rw [UA.out, VA.out] at DV
        have hv0 : Hid (v0 = val64 vs) := by
          obtain ⟨h0, h1, h2, h3, h4, h5, h6, h7⟩ := words8_of (by rw [← hvs]; exact vw)
          show _ = _
          have := V1
          rw [hvs] at this ⊢
          unfold Word at *
          simp only [val64] at *
          omega
        have wv0 : Word v0 := by rw [hv0.out]; exact ⟨V2, V1⟩
        clear ZW hvs c1 c2 c3 HT
        go_wp2_with fail
        refine (DV _).mono ?_
        rintro e w2 ⟨qs, rs, rfl, ql, rl, qw, rw', qv, rv, hB⟩
        replace YB := YB.step hB
        replace OB := OB.step hB
        replace HB := HB.trans (hB.mono HB.size)
        clear hB
        obtain ⟨q0, q1, q2, q3, q4, q5, q6, q7, rfl⟩ := list8' ql
        obtain ⟨r0, r1, r2, r3, r4, r5, r6, r7, hrs⟩ := list8' rl
        have hr0 : Hid (r0 = val64 us % val64 vs) := by
          obtain ⟨h0, h1, h2, h3, h4, h5, h6, h7⟩ := words8_of (by rw [← hrs]; exact rw')
          show _ = _
          have h8 := Int.emod_lt_of_pos (val64 us) V0
          have h9 := Int.emod_nonneg (val64 us) hz
          rw [hrs] at rv
          rw [← rv] at h8 h9 ⊢
          unfold Word at *
          simp only [val64] at *
          omega
        have wr0 : Word r0 := by
          rw [hr0.out]
          exact ⟨Int.emod_nonneg _ hz, Int.lt_trans (Int.emod_lt_of_pos _ V0) V1⟩
        have GW := gcdW_any v0 r0 wv0 wr0
        have RA : agg rs = .agg #[.int .u64 r0, .int .u64 r1, .int .u64 r2, .int .u64 r3, .int .u64 r4, .int .u64 r5, .int .u64 r6, .int .u64 r7] := by rw [hrs]; rfl
        rw [RA]
        have HGV : Hid ((Int.gcd v0 r0 : Int) = (G : Int)) := by
          obtain ⟨_, _, _, _, hG⟩ := HJ.out
          show _ = _
          rw [hv0.out, hr0.out, gcd_down (val64_nonneg uw') V0, hG]
        clear RA hrs
        unfold agg
        simp only [List.map_cons, List.map_nil]
        have ylt := YB.lt
        go_upto_region 7 with fail
        have RB : Blk ((w2.alloc (.cells #[.int .u64 q0, .int .u64 q1, .int .u64 q2, .int .u64 q3, .int .u64 q4, .int .u64 q5, .int .u64 q6, .int .u64 q7] 82)).alloc (.cells #[.int .u64 r0, .int .u64 r1, .int .u64 r2, .int .u64 r3, .int .u64 r4, .int .u64 r5, .int .u64 r6, .int .u64 r7] 82)) (w2.heap.size + 1) [.int .u64 r0, .int .u64 r1, .int .u64 r2, .int .u64 r3, .int .u64 r4, .int .u64 r5, .int .u64 r6, .int .u64 r7] := Blk.newS w2 _ [.int .u64 r0, .int .u64 r1, .int .u64 r2, .int .u64 r3, .int .u64 r4, .int .u64 r5, .int .u64 r6, .int .u64 r7] 82
        replace YB := (YB.alloc (.cells #[.int .u64 q0, .int .u64 q1, .int .u64 q2, .int .u64 q3, .int .u64 q4, .int .u64 q5, .int .u64 q6, .int .u64 q7] 82)).alloc (.cells #[.int .u64 r0, .int .u64 r1, .int .u64 r2, .int .u64 r3, .int .u64 r4, .int .u64 r5, .int .u64 r6, .int .u64 r7] 82)
        replace OB := (OB.alloc (.cells #[.int .u64 q0, .int .u64 q1, .int .u64 q2, .int .u64 q3, .int .u64 q4, .int .u64 q5, .int .u64 q6, .int .u64 q7] 82)).alloc (.cells #[.int .u64 r0, .int .u64 r1, .int .u64 r2, .int .u64 r3, .int .u64 r4, .int .u64 r5, .int .u64 r6, .int .u64 r7] 82)
        replace HB := (HB.alloc HB.size (.cells #[.int .u64 q0, .int .u64 q1, .int .u64 q2, .int .u64 q3, .int .u64 q4, .int .u64 q5, .int .u64 q6, .int .u64 q7] 82)).alloc (by have := HB.size; simp; omega) (.cells #[.int .u64 r0, .int .u64 r1, .int .u64 r2, .int .u64 r3, .int .u64 r4, .int .u64 r5, .int .u64 r6, .int .u64 r7] 82)
        clear xc0 yc0 oc0 of0 xc1 yc1 oc1 of1 xc2 yc2 oc2 of2 xc3 yc3 oc3 of3 xc4 yc4 oc4 of4 xc5 yc5 oc5 of5 xc6 yc6 oc6 of6 xc7 yc7 oc7 of7 olt
        generalize (w2.alloc (.cells #[.int .u64 q0, .int .u64 q1, .int .u64 q2, .int .u64 q3, .int .u64 q4, .int .u64 q5, .int .u64 q6, .int .u64 q7] 82)).alloc (.cells #[.int .u64 r0, .int .u64 r1, .int .u64 r2, .int .u64 r3, .int .u64 r4, .int .u64 r5, .int .u64 r6, .int .u64 r7] 82) = W2 at *
        generalize w2.heap.size + 1 = gr at *
        have yc0 := YB.c 0 rfl
        have rd0 := RB.c 0 rfl
        go_wp2_with fail
        refine (GW _).mono ?_
        rintro e w3 ⟨rfl, hB⟩
        rw [HGV.out]
        replace OB := OB.step hB
        replace HB := HB.trans (hB.mono HB.size)
        obtain ⟨oc0, of0, oc1, of1, oc2, of2, oc3, of3, oc4, of4, oc5, of5, oc6, of6, oc7, of7⟩ := OB.cf8
        have olt := OB.lt
        have HGW : Hid (Word (G : Int)) := by
          rw [← HGV.out]
          have h1 := Int.gcd_le_left r0 (show 0 < v0 by rw [hv0.out]; exact V0)
          refine ⟨by omega, ?_⟩
          have := wv0.2
          omega
        clear hB OB YB RB GW yc0 rd0
        go_wp2
        refine bodyPost_ret (v := L8 G 0 0 0 0 0 0 0) (by simp [results, Try.results114, go_sem, oc0, oc1, oc2, oc3, oc4, oc5, oc6, oc7]) rfl ?_
        refine ⟨[(G : Int), 0, 0, 0, 0, 0, 0, 0], rfl, rfl, words_cons.2 ⟨HGW.out, words_zero 7⟩, by simp [val64], ?_⟩
        exact below_set8 (g := w.heap.size + 1 + 1) (by omega) HB
end Go.Proofs.Ytnnojeggjnddpaa

/- The walk of the program's common divisor of two numbers of four words. -/
namespace Go.Proofs.Ytnnojeggjnddpaa
open Go.RowKit
theorem sl_fill (a3 a2 a1 a0 : Int) : sl a0 a1 a2 a3 (fillW a3) (fillW a3) (fillW a3) (fillW a3) = sw a3 a2 a1 a0 := by
  unfold sl fillW sw uw
  simp only [val64]
  by_cases p : a3 < 9223372036854775808
  · simp only [if_pos p]
    rw [if_pos (by decide)]
    omega
  · simp only [if_neg p]
    rw [if_neg (by decide)]
    omega
theorem words_fill {a3 a2 a1 a0 : Int} (h3 : Word a3) (h2 : Word a2) (h1 : Word a1) (h0 : Word a0) : Words [a0, a1, a2, a3, fillW a3, fillW a3, fillW a3, fillW a3] := by
  have hf : Word (fillW a3) := by unfold fillW; split <;> exact ⟨by decide, by decide⟩
  exact words_cons.2 ⟨h0, words_cons.2 ⟨h1, words_cons.2 ⟨h2, words_cons.2 ⟨h3, words_cons.2 ⟨hf, words_cons.2 ⟨hf, words_cons.2 ⟨hf, words_cons.2 ⟨hf, words_nil⟩⟩⟩⟩⟩⟩⟩⟩
end Go.Proofs.Ytnnojeggjnddpaa

/- The quotient bit by bit: the reckoning. -/
namespace Go.Proofs.Ytnnojeggjnddpaa
open Go.RowKit
theorem p2_pow (i : Nat) : pw (i / 32) * 2 ^ (i % 32) = (2 : Int) ^ i := by
  have h : ∀ m : Nat, pw m = (2 : Int) ^ (32 * m) := by
    intro m
    induction m with
    | zero => simp [pw]
    | succ m ih => rw [pw, ih, show 32 * (m + 1) = 32 * m + 32 by omega, Int.pow_add]; grind
  rw [h, ← Int.pow_add]
  congr 1
  omega
/-- All bits of the digits below k are 0. -/
def QZ (qs : List Int) (k : Nat) : Prop := (∀ j, j < k / 32 → (h : j < qs.length) → qs[j] = 0) ∧ ∀ h : k / 32 < qs.length, qs[k / 32] % 2 ^ (k % 32) = 0
theorem ipow_pos (r : Nat) : (0 : Int) < 2 ^ r := by rw [ipow2]; exact Int.natCast_pos.2 (Nat.two_pow_pos r)
theorem mod_half {w : Int} {r : Nat} (h : w % 2 ^ (r + 1) = 0) : w % 2 ^ r = 0 := by
  have e : (2 : Int) ^ (r + 1) = 2 ^ r * 2 := by rw [Int.pow_succ]
  rw [e] at h
  exact Int.emod_eq_zero_of_dvd (Int.dvd_trans (Int.dvd_mul_right _ _) (Int.dvd_of_emod_eq_zero h))
theorem qz_digit {qs : List Int} {i : Nat} (h : QZ qs (i + 1)) (hi : i / 32 < qs.length) : qs[i / 32] % 2 ^ (i % 32 + 1) = 0 := by
  by_cases hr : i % 32 = 31
  · have := h.1 (i / 32) (by omega) hi
    rw [this]; simp
  · have h2 := h.2 (by rw [show (i + 1) / 32 = i / 32 by omega]; exact hi)
    have e1 : (i + 1) / 32 = i / 32 := by omega
    have e2 : (i + 1) % 32 = i % 32 + 1 := by omega
    simpa [e1, e2] using h2
theorem qz_down {qs : List Int} {i : Nat} (h : QZ qs (i + 1)) (hi : i / 32 < qs.length) : QZ qs i :=
  ⟨fun j hj hl => h.1 j (by omega) hl, fun _ => mod_half (qz_digit h hi)⟩
theorem qz_set {qs : List Int} {i : Nat} (h : QZ qs (i + 1)) (hi : i / 32 < qs.length) : QZ (qs.set (i / 32) (qs[i / 32] + 2 ^ (i % 32))) i := by
  refine ⟨fun j hj hl => ?_, fun hl => ?_⟩
  · rw [List.getElem_set_ne (by omega)]
    exact h.1 j (by omega) (by simpa using hl)
  · rw [List.getElem_set_self]
    have := mod_half (qz_digit h hi)
    rw [Int.add_emod, this]
    simp
theorem or_u32 (a b : Nat) (ha : a < 4294967296) (hb : b < 4294967296) : bits .or .u32 (a : Int) (b : Int) = ((a ||| b : Nat) : Int) := by
  have hx : a ||| b < 2 ^ 32 := Nat.or_lt_two_pow (by omega) (by omega)
  have h1 : (BitVec.ofInt 32 (a : Int)).toNat = a := by
    rw [BitVec.ofInt_natCast, BitVec.toNat_ofNat]; exact Nat.mod_eq_of_lt (by omega)
  have h2 : (BitVec.ofInt 32 (b : Int)).toNat = b := by
    rw [BitVec.ofInt_natCast, BitVec.toNat_ofNat]; exact Nat.mod_eq_of_lt (by omega)
  show IntKind.u32.wrap ((BitVec.ofInt 32 (a : Int) ||| BitVec.ofInt 32 (b : Int)).toNat : Int) = _
  rw [BitVec.toNat_or, h1, h2, IntKind.wrap_u32]
  omega
theorem or_bit {w : Int} {r : Nat} (hr : r < 32) (h0 : 0 ≤ w) (h1 : w < 4294967296) (hm : w % 2 ^ (r + 1) = 0) : bits .or .u32 w (2 ^ r) = w + 2 ^ r ∧ w + 2 ^ r < 4294967296 := by
  obtain ⟨a, rfl⟩ := Int.eq_ofNat_of_zero_le h0
  have e : ((2 : Int) ^ r) = ((2 ^ r : Nat) : Int) := by simp
  have e' : ((2 : Int) ^ (r + 1)) = ((2 ^ (r + 1) : Nat) : Int) := by simp
  rw [e'] at hm
  have hd : 2 ^ (r + 1) ∣ a := by
    have : ((2 ^ (r + 1) : Nat) : Int) ∣ (a : Int) := Int.dvd_of_emod_eq_zero hm
    exact Int.natCast_dvd_natCast.1 this
  obtain ⟨v, rfl⟩ := hd
  have hp : (2 : Nat) ^ r < 2 ^ (r + 1) := by rw [Nat.pow_succ]; have := Nat.two_pow_pos r; omega
  have ho := Nat.two_pow_add_eq_or_of_lt hp v
  have hlt : 2 ^ (r + 1) * v + 2 ^ r < 4294967296 := by
    have h32 : (2 : Nat) ^ 32 = 2 ^ (r + 1) * 2 ^ (31 - r) := by rw [← Nat.pow_add]; congr 1; omega
    have hv : v < 2 ^ (31 - r) := by
      apply Decidable.byContradiction
      intro hn
      have : 2 ^ (r + 1) * 2 ^ (31 - r) ≤ 2 ^ (r + 1) * v := Nat.mul_le_mul_left _ (by omega)
      omega
    have : 2 ^ (r + 1) * (v + 1) ≤ 2 ^ (r + 1) * 2 ^ (31 - r) := Nat.mul_le_mul_left _ hv
    rw [Nat.mul_add, Nat.mul_one] at this
    omega
  rw [e]
  refine ⟨?_, by omega⟩
  rw [or_u32 _ _ (by omega) (by omega), ← ho]
  omega
/-- Between the rounds: x is q times y and the rest, which is less than 2^k times y. -/
structure DvI (X Y : Int) (qs : List Int) (R : Int) (k N : Nat) : Prop where
  len : qs.length = N
  dig : Dig qs
  eq : X = val qs * Y + R
  r0 : 0 ≤ R
  lt : R < 2 ^ k * Y
  qz : QZ qs k
theorem dv_skip {X Y : Int} {qs : List Int} {R : Int} {i N : Nat} (h : DvI X Y qs R (i + 1) N) (hi : i / 32 < N) (hR : R < 2 ^ i * Y) : DvI X Y qs R i N :=
  ⟨h.len, h.dig, h.eq, h.r0, hR, qz_down h.qz (by rw [h.len]; exact hi)⟩
theorem dv_take {X Y : Int} {qs : List Int} {R : Int} {i N : Nat} (h : DvI X Y qs R (i + 1) N) (hi : i / 32 < qs.length) (hR : 2 ^ i * Y ≤ R) : DvI X Y (qs.set (i / 32) (qs[i / 32] + 2 ^ (i % 32))) (R - 2 ^ i * Y) i N ∧ bits .or .u32 qs[i / 32] (2 ^ (i % 32)) = qs[i / 32] + 2 ^ (i % 32) := by
  obtain ⟨w0, w1⟩ := dig_at h.dig (i / 32) hi
  obtain ⟨o1, o2⟩ := or_bit (r := i % 32) (by omega) w0 w1 (qz_digit h.qz hi)
  have hp := ipow_pos (i % 32)
  refine ⟨⟨by simpa using h.len, dig_set h.dig _ (by omega) o2, ?_, by omega, ?_, qz_set h.qz hi⟩, o1⟩
  · rw [val_set qs _ hi, show qs[i / 32] + 2 ^ (i % 32) - qs[i / 32] = (2 : Int) ^ (i % 32) by omega, p2_pow, Int.add_mul]
    have := h.eq
    omega
  · have := h.lt
    rw [Int.pow_succ] at this
    have e : (2 : Int) ^ i * 2 * Y = 2 ^ i * Y + 2 ^ i * Y := by grind
    omega
theorem dv_end {X Y : Int} {qs : List Int} {R : Int} {N : Nat} (h : DvI X Y qs R 0 N) (hY : 0 < Y) : val qs = X / Y ∧ R = X % Y := by
  have h1 := h.lt
  simp at h1
  have h2 := h.r0
  have h3 := h.eq
  have e1 : X / Y = val qs := by
    rw [h3, Int.add_comm, Int.add_mul_ediv_right _ _ (by omega), Int.ediv_eq_zero_of_lt h2 h1]
    omega
  refine ⟨e1.symm, ?_⟩
  have := Int.emod_add_mul_ediv X Y
  rw [e1] at this
  have e : Y * val qs = val qs * Y := Int.mul_comm _ _
  omega
theorem dv_start {X Y : Int} {bx bz : Nat} (hx : BitsOf X bx) (hy : BitsOf Y bz) (hY : 0 < Y) (h : bz ≤ bx) (N : Nat) : DvI X Y (List.replicate N 0) X (bx - bz + 1) N := by
  refine ⟨by simp, fun d hd => by rw [List.eq_of_mem_replicate hd]; decide, by simp [val_zeros], hx.1, ?_, ⟨fun j _ hl => by simp, fun hl => by simp⟩⟩
  have hb : bz ≠ 0 := by
    rintro rfl
    have := hy.2.1
    simp at this
    omega
  have h2 : (2 : Int) ^ (bz - 1) ≤ Y := by
    rcases hy.2.2 with h2 | h2
    · exact absurd h2 hb
    · exact h2
  have e : (2 : Int) ^ bx = 2 ^ (bx - bz + 1) * 2 ^ (bz - 1) := by rw [← Int.pow_add]; congr 1; omega
  have h3 := hx.2.1
  have h4 : (2 : Int) ^ (bx - bz + 1) * 2 ^ (bz - 1) ≤ 2 ^ (bx - bz + 1) * Y := Int.mul_le_mul_of_nonneg_left h2 (by have := ipow_pos (bx - bz + 1); omega)
  omega
theorem dv_less {X Y : Int} {bx bz : Nat} (hx : BitsOf X bx) (hy : BitsOf Y bz) (h : bx < bz) : X / Y = 0 ∧ X % Y = X ∧ X < Y := by
  have h2 : (2 : Int) ^ (bz - 1) ≤ Y := by
    rcases hy.2.2 with h2 | h2
    · omega
    · exact h2
  have h3 := ipow2_mono (show bx ≤ bz - 1 by omega)
  have h4 := hx.2.1
  have h5 : X < Y := by omega
  exact ⟨Int.ediv_eq_zero_of_lt hx.1 h5, Int.emod_eq_of_lt hx.1 h5, h5⟩
end Go.Proofs.Ytnnojeggjnddpaa

/- The difference of digits and the trimming once more, with where their answers lie. -/
namespace Go.Proofs.Ytnnojeggjnddpaa
open Go.RowKit
def SubAt (n : Nat) (z : Int) (w : World) (e : Ending) (w' : World) : Prop := DigsP n z w e w' ∧ ∃ cap, e = .returned (.slice (some ⟨w.heap.size, 0, none⟩) n cap)
def TrimAt (neg : Bool) (ao : Option Addr) (n : Nat) (ds : List Int) (w : World) (e : Ending) (w' : World) : Prop :=
  TrimP neg n ds w e w' ∧ ∃ s' ao' n' cap', e = .returned (.agg #[.bool s', .slice ao' n' cap']) ∧ (ao' = ao ∨ ao' = none)
set_option maxRecDepth 100000 in
set_option maxHeartbeats 400000 in
theorem subAbs_at (ao bo : Option Addr) (n m ca cb : Nat) (xs ys : List Int) (w : World) (hx : xs.length = n) (hy : ys.length = m) (dx : Dig xs) (dy : Dig ys) (rx : Rd w ao xs) (ry : Rd w bo ys) (hm : n ≤ 1000000) (_hm' : m ≤ 1000000)
    (hle : val ys ≤ val xs) :
    Calls Try.prog 77 #[.slice ao n ca, .slice bo m cb] w (SubAt n (val xs - val ys) w) := by
  obtain ⟨i0, hi, hz0, hz1, hz2⟩ := info_parts Try.info88
  have HX : Hid (xs.length = n) := hx
  have HY : Hid (ys.length = m) := hy
  have HDX : Hid (Dig xs) := dx
  have HDY : Hid (Dig ys) := dy
  have HRX : Hid (Rd w ao xs) := rx
  have HRY : Hid (Rd w bo ys) := ry
  have HLE : Hid (val ys ≤ val xs) := hle
  clear rx ry dx dy hx hy hle
  go_enter Try.func77, Try.ntmps77
  go_wp2_with (at_make; refine wpList_make_own _ rfl _ _ 64 rfl w.heap.size 112 i0 (.int .u32 0) 1 Try.underlying64 hi hz0 hz1 _ _ _ n rfl rfl rfl (by rw [hz2]; omega) (by unfold maxLen; omega) (Nat.le_refl _) ?_)
  intro w1 hown hgrow
  go_wp2
  go_loopw [5, 6, 7] (fun o c i wr => ∃ (k : Nat) (cv : Int) (zs : List Int), k ≤ n ∧ i = .int .i64 k ∧ 0 ≤ cv ∧ cv ≤ 1 ∧ c = .int .u64 cv ∧ o = .slice (some ⟨w.heap.size, 0, none⟩) k n ∧ SubI w wr n xs ys k cv zs) (fun _ _ i _ => n - (intOf i).toNat)
  case atStart => exact ⟨0, 0, [], Nat.zero_le _, rfl, by decide, by decide, rfl, rfl, ⟨rfl, dig_nil, by simp [val], hown, (Below.refl _ _).grown hgrow (Nat.le_refl _) (by simp)⟩⟩
  case round =>
    obtain ⟨k, cv, zs, hk, rfl, hc0, hc1, rfl, rfl, hI⟩ := hrel
    by_cases hkn : k < n
    · have hkx : k < xs.length := by have := HX.out; omega
      obtain ⟨b, off, rfl, hbl, hcx0⟩ := HRX.out k hkx
      have hcx := (hI.below.cell (p := ⟨b, off + k, none⟩) hbl).trans hcx0
      clear hcx0
      have hxd := dig_at HDX.out k hkx
      obtain ⟨hx0, hx1⟩ := hxd
      by_cases hkm : k < m
      · have hky : k < ys.length := by have := HY.out; omega
        obtain ⟨b', off', rfl, hbl', hcy0⟩ := HRY.out k hky
        have hcy := (hI.below.cell (p := ⟨b', off' + k, none⟩) hbl').trans hcy0
        clear hcy0
        obtain ⟨hy0, hy1⟩ := dig_at HDY.out k hky
        by_cases hlt : xs[k] < cv + ys[k]
        · go_wp2_with (at_builtin; refine wpList_append_fits _ rfl _ _ 64 rfl w.heap.size 112 i0 1 Try.underlying64 hi hz1 w.heap.size k n _ rfl (hI.own.alloc _) ⟨wr.heap.size, 0, none⟩ 1 1 [.int .u32 (xs[k] + 4294967296 - (cv + ys[k]))] rfl rfl (cell_one_new _ _ _) (one_cell _ _) (by omega) ?_)
          intro w2 hown2 hgrow2
          go_wp2
          go_roundw
          case rel => exact ⟨k + 1, 1, zs ++ [xs[k] + 4294967296 - (cv + ys[k])], by omega, by go_num, by decide, by decide, rfl, rfl, sub_step hI hc0 hc1 _ 1 (by decide) (by omega) (by omega) (by simp [List.getD, hkx, hky] <;> omega) hown2 hgrow2⟩
          case measure => simp [intOf]; omega
        · go_wp2_with (at_builtin; refine wpList_append_fits _ rfl _ _ 64 rfl w.heap.size 112 i0 1 Try.underlying64 hi hz1 w.heap.size k n _ rfl (hI.own.alloc _) ⟨wr.heap.size, 0, none⟩ 1 1 [.int .u32 (xs[k] - (cv + ys[k]))] rfl rfl (cell_one_new _ _ _) (one_cell _ _) (by omega) ?_)
          intro w2 hown2 hgrow2
          go_wp2
          go_roundw
          case rel => exact ⟨k + 1, 0, zs ++ [xs[k] - (cv + ys[k])], by omega, by go_num, by decide, by decide, rfl, rfl, sub_step hI hc0 hc1 _ 0 (by decide) (by omega) (by omega) (by simp [List.getD, hkx, hky] <;> omega) hown2 hgrow2⟩
          case measure => simp [intOf]; omega
      · by_cases hlt : xs[k] < cv
        · go_wp2_with (at_builtin; refine wpList_append_fits _ rfl _ _ 64 rfl w.heap.size 112 i0 1 Try.underlying64 hi hz1 w.heap.size k n _ rfl (hI.own.alloc _) ⟨wr.heap.size, 0, none⟩ 1 1 [.int .u32 (xs[k] + 4294967296 - cv)] rfl rfl (cell_one_new _ _ _) (one_cell _ _) (by omega) ?_)
          intro w2 hown2 hgrow2
          go_wp2
          go_roundw
          case rel => exact ⟨k + 1, 1, zs ++ [xs[k] + 4294967296 - cv], by omega, by go_num, by decide, by decide, rfl, rfl, sub_step hI hc0 hc1 _ 1 (by decide) (by omega) (by omega) (by have := HY.out; simp [List.getD, hkx, show ¬ k < ys.length by omega] <;> omega) hown2 hgrow2⟩
          case measure => simp [intOf]; omega
        · go_wp2_with (at_builtin; refine wpList_append_fits _ rfl _ _ 64 rfl w.heap.size 112 i0 1 Try.underlying64 hi hz1 w.heap.size k n _ rfl (hI.own.alloc _) ⟨wr.heap.size, 0, none⟩ 1 1 [.int .u32 (xs[k] - cv)] rfl rfl (cell_one_new _ _ _) (one_cell _ _) (by omega) ?_)
          intro w2 hown2 hgrow2
          go_wp2
          go_roundw
          case rel => exact ⟨k + 1, 0, zs ++ [xs[k] - cv], by omega, by go_num, by decide, by decide, rfl, rfl, sub_step hI hc0 hc1 _ 0 (by decide) (by omega) (by omega) (by have := HY.out; simp [List.getD, hkx, show ¬ k < ys.length by omega] <;> omega) hown2 hgrow2⟩
          case measure => simp [intOf]; omega
    · go_wp2
      go_ret
      obtain rfl : k = n := by omega
      exact ⟨sub_done hI hc0 hc1 HX.out HDX.out HDY.out HLE.out, _, rfl⟩
set_option maxHeartbeats 400000 in
theorem trim_at (neg : Bool) (ao : Option Addr) (n cap : Nat) (ds : List Int) (w : World) (hn : ds.length = n) (hc : n ≤ cap) (hd : Dig ds) (hr : Rd w ao ds) (hm : n ≤ 1000000000) :
    Calls Try.prog 76 #[.bool neg, .slice ao n cap] w (TrimAt neg ao n ds w) := by
  go_enter Try.func76, Try.ntmps76
  go_wp2
  go_loop [5] (fun i => ∃ k : Nat, k ≤ n ∧ i = .int .i64 k ∧ ∀ j, k ≤ j → (h : j < ds.length) → ds[j] = 0) (fun i => (intOf i).toNat)
  case atStart => exact ⟨n, Nat.le_refl _, rfl, fun j h1 h2 => by omega⟩
  case round =>
    obtain ⟨k, hk, rfl, hz⟩ := hrel
    have HN : Hid (ds.length = n) := hn
    have HD : Hid (Dig ds) := hd
    have HZ : Hid (∀ j, k ≤ j → (h : j < ds.length) → ds[j] = 0) := hz
    have HR : Hid (Rd w ao ds) := hr
    clear hz hr hd hn
    by_cases hk0 : 0 < k
    · obtain ⟨m, rfl⟩ : ∃ m, k = m + 1 := ⟨k - 1, by omega⟩
      have hml : m < ds.length := by have := HN.out; omega
      obtain ⟨b, off, rfl, hbl, hcell0⟩ := HR.out m hml
      have hcell := cell_alloc (o := Obj.cells #[Value.bool false, Value.slice none 0 0] 66) hbl hcell0
      clear hcell0
      go_wp2
      · go_round
        case rel =>
          have h0 : (ds[m] == 0) = true := by assumption
          exact ⟨m, by omega, by go_num, fun j h1 h2 => by
            by_cases e : j = m
            · subst e; simpa using h0
            · exact HZ.out j (by omega) h2⟩
        case measure => simp [intOf]
      · refine bodyPost_ret (v := .agg #[.bool neg, .slice (some ⟨b, off, none⟩) (m + 1) cap]) (by simp [results, Try.results76, go_sem]) rfl ?_
        have h0 : (ds[m] == 0) = false := by assumption
        exact ⟨trim_some neg n cap ds w _ HN.out hc HD.out HR.out m hml (by simpa using h0) HZ.out ((Below.refl _ _).alloc (Nat.le_refl _) _), _, _, _, _, rfl, Or.inl rfl⟩
    · go_wp2
      refine bodyPost_ret (v := .agg #[.bool false, .slice none 0 0]) (by simp [results, Try.results76, go_sem]) rfl ?_
      exact ⟨trim_none neg n ds w _ (fun j h => HZ.out j (by omega) h) ((Below.refl _ _).alloc (Nat.le_refl _) _), _, _, _, _, rfl, Or.inr rfl⟩
end Go.Proofs.Ytnnojeggjnddpaa

/- The walk of the model's quotient and rest of digits, bit by bit. -/
namespace Go.Proofs.Ytnnojeggjnddpaa
open Go.RowKit
def DivP (n : Nat) (X Y : Int) (w : World) (e : Ending) (w' : World) : Prop :=
  ∃ (qo : Option Addr) (qn qc : Nat) (qs : List Int) (ro : Option Addr) (rn rc : Nat) (rs : List Int), e = .returned (.tuple #[.slice qo qn qc, .slice ro rn rc]) ∧
    (qs.length = qn ∧ qn ≤ qc ∧ qn ≤ n + 1 ∧ Nrm qs ∧ val qs = X / Y ∧ Rd w' qo qs) ∧ (rs.length = rn ∧ rn ≤ rc ∧ rn ≤ n ∧ Nrm rs ∧ val rs = X % Y ∧ Rd w' ro rs) ∧ Below w.heap.size w w'
theorem bits_le32 {v : Int} {b n : Nat} (h : BitsOf v b) (hv : v < pw n) : b ≤ 32 * n := by
  apply Decidable.byContradiction
  intro hn
  have hp := p2_pow (32 * n)
  rw [show 32 * n / 32 = n by omega, show 32 * n % 32 = 0 by omega] at hp
  simp only [Int.pow_zero, Int.mul_one] at hp
  rw [hp] at hv
  rcases h.2.2 with h2 | h2
  · omega
  · have := ipow2_mono (show 32 * n ≤ b - 1 by omega)
    omega
/-- What lies in memory between the rounds. -/
structure DvM (W wr : World) (g : Nat) (qs : List Int) (ro : Option Addr) (rn rc : Nat) (rs : List Int) (n : Nat) : Prop where
  below : Below W.heap.size W wr
  q : Blk wr g (qs.map (Value.int .u32))
  rlen : rs.length = rn
  rcap : rn ≤ rc
  rle : rn ≤ n
  rnrm : Nrm rs
  rrd : Rd wr ro rs
  rne : ∀ b off, ro = some ⟨b, off, none⟩ → rs ≠ [] → b ≠ g
theorem DvM.step {W wr wr' : World} {g : Nat} {qs : List Int} {ro : Option Addr} {rn rc : Nat} {rs : List Int} {n : Nat} (h : DvM W wr g qs ro rn rc rs n) (hB : Below wr.heap.size wr wr') : DvM W wr' g qs ro rn rc rs n :=
  ⟨h.below.trans (hB.mono h.below.size), h.q.step hB, h.rlen, h.rcap, h.rle, h.rnrm, h.rrd.below hB (Nat.le_refl _), h.rne⟩
theorem Rd.setNe {w : World} {ao : Option Addr} {ds : List Int} (h : Rd w ao ds) {p : Addr} (hp : ∀ b off, ao = some ⟨b, off, none⟩ → ds ≠ [] → b ≠ p.block) (u : Value) : Rd (w.setCell p u) ao ds := by
  intro i hi
  obtain ⟨b, off, e, hb, hc⟩ := h i hi
  refine ⟨b, off, e, by simpa [World.setCell] using hb, (World.cell?_setCell_other _ _ _ _ ?_).trans hc⟩
  intro e2
  rw [e2] at hp
  exact hp b off e (by rintro rfl; simp at hi) rfl
set_option maxRecDepth 100000 in
set_option maxHeartbeats 4000000 in
theorem divAbs_any (ao bo : Option Addr) (n m ca cb : Nat) (xs ys : List Int) (w : World) (hx : xs.length = n) (hy : ys.length = m) (nx : Nrm xs) (ny : Nrm ys) (rx : Rd w ao xs) (ry : Rd w bo ys) (hc : n ≤ ca) (hn : n ≤ 10000) (hm : m ≤ 10000) (hY : 0 < val ys) :
    Calls Try.prog 113 #[.slice ao n ca, .slice bo m cb] w (DivP n (val xs) (val ys) w) := by
  obtain ⟨i0, hi, hz0, hz1, hz2⟩ := info_parts Try.info88
  go_enter Try.func113, Try.ntmps113
  go_wp2_with fail
  refine (bits_any ao n ca xs _ hx nx rx (by omega)).mono ?_
  rintro e w1 ⟨bx, rfl, hbx, hB⟩
  replace rx := rx.below hB (Nat.le_refl _)
  replace ry := ry.below hB (Nat.le_refl _)
  have HB1 := hB
  clear hB
  go_wp2_with fail
  refine (bits_any bo m cb ys _ hy ny ry (by omega)).mono ?_
  rintro e w2 ⟨bz, rfl, hbz, hB⟩
  replace rx := rx.below hB (Nat.le_refl _)
  replace ry := ry.below hB (Nat.le_refl _)
  have HB2 : Below w.heap.size w w2 := HB1.trans (hB.mono HB1.size)
  clear hB HB1
  have l1 := bits_le32 (n := n) hbx (by rw [← hx]; exact val_lt nx.1)
  have l2 := bits_le32 (n := m) hbz (by rw [← hy]; exact val_lt ny.1)
  by_cases hlt : bx < bz
  · obtain ⟨v1, v2, v3⟩ := dv_less hbx hbz hlt
    have i1 : (bx : Int) - bz < 0 := by omega
    clear hi hz0 hz1 hz2 hbx hbz
    go_wp2
    go_ret2
    exact ⟨none, 0, 0, [], ao, n, ca, xs, rfl, ⟨rfl, by omega, by omega, nrm_nil, by rw [v1]; rfl, Rd.nil _ _⟩, ⟨hx, hc, Nat.le_refl _, nx, v2.symm, rx⟩, HB2⟩
  · have HI := dv_start hbx hbz hY (by omega) ((bx - bz) / 32 + 1)
    obtain ⟨N, hN⟩ : ∃ N, bx - bz = N := ⟨_, rfl⟩
    have eN : (bx : Int) - bz = (N : Int) := by omega
    have hN1 : N ≤ 32 * n := by omega
    rw [hN] at HI
    clear hbx hbz hN hlt l1 l2
    obtain ⟨K, hK⟩ : ∃ K, N / 32 = K := ⟨_, rfl⟩
    have eK : (N : Int) / 32 = (K : Int) := by omega
    rw [hK] at HI
    go_wp2_with (at_make; refine wpList_make_full _ rfl _ _ 64 rfl w2.heap.size 112 i0 (.int .u32 0) 1 Try.underlying64 hi hz0 hz1 _ _ _ _ (K + 1) rfl rfl (by omega) (by omega) (by rw [hz2]; omega) (by unfold maxLen; omega) (Nat.le_refl _) ?_)
    intro w3 hown hgrow
    have M0 : DvM w2 w3 w2.heap.size (List.replicate (K + 1) 0) ao n ca xs n := by
      rw [made_one] at hown
      refine ⟨(Below.refl _ _).grown hgrow (Nat.le_refl _) (by simp), ⟨(hown.lt _ rfl).2, fun j v hj => ?_⟩, hx, hc, Nat.le_refl _, nx, rx.below ((Below.refl _ _).grown hgrow (Nat.le_refl _) (by simp)) (Nat.le_refl _), ?_⟩
      · have hjl : j < K + 1 := by
          apply Decidable.byContradiction
          intro hn
          rw [List.getElem?_eq_none (by simp; omega)] at hj
          cases hj
        refine ⟨?_, hown.frozenAt j⟩
        rw [hown.cellAt j (by omega)]
        simpa using hj
      · rintro b off rfl hne
        obtain ⟨b', off', e, hb, _⟩ := rx 0 (List.length_pos_iff.2 hne)
        cases e
        omega
    have HBW : Below w.heap.size w w3 := HB2.trans (M0.below.mono HB2.size)
    clear hown hgrow hi hz0 hz1 hz2
    have hKn : K ≤ n := by omega
    go_wp2
    go_loopw [8, 9] (fun r i wr => ∃ (k : Nat) (ro : Option Addr) (rn rc : Nat) (rs qs : List Int), k ≤ N + 1 ∧ i = .int .i64 ((k : Int) - 1) ∧ r = .slice ro rn rc ∧ DvI (val xs) (val ys) qs (val rs) k (K + 1) ∧ DvM w2 wr w2.heap.size qs ro rn rc rs n) (fun _ i _ => (intOf i + 1).toNat)
    case atStart => exact ⟨N + 1, ao, n, ca, xs, _, Nat.le_refl _, by go_num, rfl, HI, M0⟩
    case round =>
      clear HI M0
      obtain ⟨k, ro, rn, rc, rs, qs, hk, rfl, rfl, hI, hM⟩ := hrel
      by_cases hk0 : 0 < k
      · obtain ⟨j, rfl⟩ : ∃ j, k = j + 1 := ⟨k - 1, by omega⟩
        rw [show (((j + 1 : Nat) : Int) - 1) = (j : Int) by omega]
        have ryr := ry.below hM.below (Nat.le_refl _)
        go_wp2_with fail
        refine (left_any bo m cb j ys _ hy ny.1 ryr (by omega) (by omega)).mono ?_
        rintro e w4 ⟨so, sn, sc, ss, rfl, k1, k2, k3, k4, k5, k6, hB⟩
        have hM4 := hM.step hB
        have e2 : val ss = 2 ^ j * val ys := by rw [k5, ← Int.mul_assoc, p2_pow]
        clear hM hB k5 ryr
        go_wp2_with fail
        refine (cmpAbs_any ro so rn sn rc sc rs ss _ hM4.rlen k1 hM4.rnrm k4 hM4.rrd k6 (by have := hM4.rle; omega) (by omega)).mono ?_
        rintro e w5 ⟨rfl, hB⟩
        have hM5 := hM4.step hB
        replace k6 := k6.below hB (Nat.le_refl _)
        clear hM4 hB
        by_cases hle : val rs < 2 ^ j * val ys
        · have hcm : decide (0 ≤ cmpI (val rs) (val ss)) = false := by rw [cmpI_lt (by rw [e2]; exact hle)]; decide
          have R1 := dv_skip hI (by omega) hle
          clear hI e2 k1 k2 k3 k4 k6
          generalize cmpI (val rs) (val ss) = cm at *
          go_wp2
          go_roundw
          case rel => exact ⟨j, ro, rn, rc, rs, qs, by omega, by go_num, rfl, R1, hM5⟩
          case measure => simp [intOf]
        · have hcm : 0 ≤ cmpI (val rs) (val ss) := by
            rcases Int.lt_trichotomy (val rs) (val ss) with h | h | h
            · rw [e2] at h; exact absurd h hle
            · rw [cmpI_eq h]; decide
            · rw [cmpI_gt h]; decide
          generalize cmpI (val rs) (val ss) = cm at *
          go_wp2_with fail
          refine (subAbs_at ro so rn sn rc sc rs ss _ hM5.rlen k1 hM5.rnrm.1 k4.1 hM5.rrd k6 (by have := hM5.rle; omega) (by omega) (by rw [e2]; omega)).mono ?_
          rintro e w6 ⟨⟨o6, c6, z6, rfl, d1, d2, d3, d4, d5, hB⟩, c6', he⟩
          simp only [Ending.returned.injEq, Value.slice.injEq, true_and] at he
          obtain ⟨rfl, rfl⟩ := he
          have hM6 := hM5.step hB
          have hg5 := hM5.q.lt
          clear hM5 hB k1 k2 k3 k4 k6 hcm
          go_wp2_with fail
          refine (trim_at false (some ⟨w5.heap.size, 0, none⟩) rn c6 z6 _ d1 d2 d3 d5 (by have := hM6.rle; omega)).mono ?_
          rintro e w7 ⟨⟨s7, o7, n7, c7, z7, rfl, t1, t2, t3, t4, t5, t6, t7, hB⟩, s8, o8, n8, c8, he, ho⟩
          simp only [Ending.returned.injEq, Value.agg.injEq, Array.mk.injEq, List.cons.injEq, Value.bool.injEq, Value.slice.injEq, and_true] at he
          obtain ⟨rfl, rfl, rfl, rfl⟩ := he
          have hM7 := hM6.step hB
          have hjl : j / 32 < qs.length := by rw [hI.len]; omega
          obtain ⟨R1, oq⟩ := dv_take hI hjl (by omega)
          have ev : val z7 = val rs - 2 ^ j * val ys := by rw [t5, d4, e2]
          rw [← ev] at R1
          have cq := hM7.q.c (j / 32) (v := .int .u32 qs[j / 32]) (by simp [hjl])
          have fq := hM7.q.f (j / 32) (v := .int .u32 qs[j / 32]) (by simp [hjl])
          have hNe : ∀ b off, o7 = some ⟨b, off, none⟩ → z7 ≠ [] → b ≠ w2.heap.size := by
            rintro b off e _
            rcases ho with ho | ho
            · rw [ho] at e; cases e; omega
            · rw [ho] at e; cases e
          have R2 : DvM w2 (w7.setCell ⟨w2.heap.size, j / 32, none⟩ (.int .u32 (qs[j / 32] + 2 ^ (j % 32)))) w2.heap.size (qs.set (j / 32) (qs[j / 32] + 2 ^ (j % 32))) o7 n7 c7 z7 n := by
            refine ⟨hM7.below.setCell (Nat.le_refl _) _, ?_, t1, t2, by have := hM7.rle; omega, t4, t7.setNe hNe _, hNe⟩
            have := hM7.q.setI (j / 32) (by simpa using hjl) (.int .u32 (qs[j / 32] + 2 ^ (j % 32)))
            rwa [← List.map_set] at this
          clear hM6 hM7 t1 t2 t3 t4 t5 t6 t7 d1 d2 d3 d4 d5 hB ho hNe ev hI e2
          have e3 : (j : Int) / 32 = ((j / 32 : Nat) : Int) := by omega
          have e4 : (j : Int) % 32 = ((j % 32 : Nat) : Int) := by omega
          have e5 : ((j / 32 : Nat) : Int) < (K : Int) + 1 := by omega
          have fd := field_d (.bool s7) (.slice o7 n7 c7)
          have e6 : (2 : Int) ^ (j % 32) % 4294967296 = 2 ^ (j % 32) := by
            have h31 := ipow2_mono (show j % 32 ≤ 31 by omega)
            have hp := ipow_pos (j % 32)
            have : (2 : Int) ^ 31 = 2147483648 := by decide
            omega
          generalize hjq : j / 32 = jq at *
          generalize hjr : j % 32 = jr at *
          go_wp2
          go_roundw
          case rel =>
            exact ⟨j, o7, n7, c7, z7, _, by omega, rfl, rfl, R1, R2⟩
          case measure => simp [intOf]
      · obtain rfl : k = 0 := by omega
        obtain ⟨v1, v2⟩ := dv_end hI hY
        have hq := hM.q
        have rq : Rd wr (some ⟨w2.heap.size, 0, none⟩) qs := fun i hi => ⟨w2.heap.size, 0, rfl, hq.lt, by rw [Nat.zero_add]; exact hq.c i (by simp [hi])⟩
        have hlq := hI.len
        have hdq := hI.dig
        clear hI hq
        go_wp2_with fail
        refine (trim_at false (some ⟨w2.heap.size, 0, none⟩) (K + 1) (K + 1) qs _ hlq (Nat.le_refl _) hdq rq (by omega)).mono ?_
        rintro e w7 ⟨⟨s7, o7, n7, c7, z7, rfl, t1, t2, t3, t4, t5, t6, t7, hB⟩, _⟩
        have hM7 := hM.step hB
        have HBE : Below w.heap.size w w7 := HB2.trans (hM7.below.mono HB2.size)
        clear hM hB
        have fd := field_d (.bool s7) (.slice o7 n7 c7)
        clear t6
        go_wp2
        go_ret2
        exact ⟨o7, n7, c7, z7, ro, rn, rc, rs, rfl, ⟨t1, t2, by omega, t4, by rw [t5]; exact v1, t7⟩, ⟨hM7.rlen, hM7.rcap, hM7.rle, hM7.rnrm, v2, hM7.rrd⟩, HBE⟩
end Go.Proofs.Ytnnojeggjnddpaa

/- The walk of the model's greatest common divisor. -/
namespace Go.Proofs.Ytnnojeggjnddpaa
open Go.RowKit
/-- The digits that lie behind a slice. -/
def digsOf (w : World) : Value → List Int
  | .slice (some a) n _ => (List.range n).map fun i => match w.cell? ⟨a.block, a.off + i, none⟩ with | some v => intOf v | none => 0
  | _ => []
theorem digs_of {w : World} {ao : Option Addr} {n cap : Nat} {ds : List Int} (h : Rd w ao ds) (hl : ds.length = n) : digsOf w (.slice ao n cap) = ds := by
  by_cases h0 : n = 0
  · subst h0
    have : ds = [] := List.eq_nil_of_length_eq_zero hl
    subst this
    cases ao <;> simp [digsOf]
  · obtain ⟨b, off, rfl, _, _⟩ := h 0 (by omega)
    simp only [digsOf]
    apply List.ext_getElem
    · simp [hl]
    · intro i h1 h2
      obtain ⟨b', off', e, _, hc⟩ := h i h2
      cases e
      simp [hc, intOf]
structure GdI (W wr : World) (xo : Option Addr) (xn xc : Nat) (xs : List Int) (yo : Option Addr) (yn yc : Nat) (ys : List Int) (k G : Nat) : Prop where
  below : Below W.heap.size W wr
  xlen : xs.length = xn
  xcap : xn ≤ xc
  xle : xn ≤ k
  xnrm : Nrm xs
  xrd : Rd wr xo xs
  ylen : ys.length = yn
  ycap : yn ≤ yc
  yle : yn ≤ k
  ynrm : Nrm ys
  yrd : Rd wr yo ys
  gcd : Int.gcd (val xs) (val ys) = G
theorem gcd_step {x y : Int} (hx : 0 ≤ x) (hy : 0 < y) : Int.gcd y (x % y) = Int.gcd x y := by
  obtain ⟨a, rfl⟩ := Int.eq_ofNat_of_zero_le hx
  obtain ⟨b, rfl⟩ := Int.eq_ofNat_of_zero_le (show 0 ≤ y by omega)
  rw [show ((a : Int) % (b : Int)) = ((a % b : Nat) : Int) from (Int.natCast_emod a b).symm, Int.gcd_natCast_natCast, Int.gcd_natCast_natCast, Nat.gcd_comm a b, Nat.gcd_rec b a, Nat.gcd_comm]
set_option maxRecDepth 100000 in
set_option maxHeartbeats 2000000 in
theorem gcd_any (s t : Bool) (ao bo : Option Addr) (n m ca cb k : Nat) (xs ys : List Int) (x y : Int) (w : World) (hx : IsNum w s ao n ca xs x k) (hy : IsNum w t bo m cb ys y k) (hk : k ≤ 9000) :
    Calls Try.prog 92 #[.agg #[.bool s, .slice ao n ca], .agg #[.bool t, .slice bo m cb]] w (NumP k (Int.gcd x y : Int) w) := by
  have T0 := two_start w (.bool s) (.slice ao n ca) (.bool t) (.slice bo m cb)
  have HX := hx.below T0.below
  have HY := hy.below T0.below
  have G0 : Int.gcd (val xs) (val ys) = Int.gcd x y := by rw [hx.val, hy.val]; simp [Int.gcd]
  clear hx hy
  go_enter Try.func92, Try.ntmps92
  go_upto_region 1 with fail
  generalize ((w.alloc (Obj.cells #[Value.bool s, Value.slice ao n ca] 66)).alloc (Obj.cells #[Value.bool t, Value.slice bo m cb] 66)).alloc (Obj.cells #[Value.bool false, Value.slice none 0 0] 66) = W at *
  have q1 := T0.a1; have q3 := T0.b1
  have I0 : GdI W W ao n ca xs bo m cb ys k (Int.gcd x y) := ⟨Below.refl _ _, HX.len, HX.cap, HX.le, HX.nrm, HX.rd, HY.len, HY.cap, HY.le, HY.nrm, HY.rd, G0⟩
  clear HX HY G0
  have hsz := T0.sz
  go_wp2
  go_loopw [5, 6] (fun u v wr => ∃ (xo : Option Addr) (xn xc : Nat) (xs : List Int) (yo : Option Addr) (yn yc : Nat) (ys : List Int), u = .slice xo xn xc ∧ v = .slice yo yn yc ∧ GdI W wr xo xn xc xs yo yn yc ys k (Int.gcd x y)) (fun _ v wr => (val (digsOf wr v)).toNat)
  case atStart => exact ⟨ao, n, ca, xs, bo, m, cb, ys, rfl, rfl, I0⟩
  case round =>
    clear I0
    obtain ⟨xo, xn, xc, xs, yo, yn, yc, ys, rfl, rfl, I0⟩ := hrel
    by_cases hy0 : 0 < yn
    · have i1 : (0 : Int) < (yn : Int) := by omega
      have hyp := nrm_pos I0.ynrm (by intro e; have := I0.ylen; rw [e] at this; simp at this; omega)
      have hd := digs_of (cap := yc) I0.yrd I0.ylen
      go_wp2_with fail
      refine (divAbs_any xo yo xn yn xc yc xs ys _ I0.xlen I0.ylen I0.xnrm I0.ynrm I0.xrd I0.yrd I0.xcap (by have := I0.xle; omega) (by have := I0.yle; omega) (by omega)).mono ?_
      rintro e w4 ⟨qo, qn, qc, qs, ro, rn, rc, rs, rfl, -, ⟨r1, r2, r3, r4, r5, r6⟩, hB⟩
      have I1 : GdI W w4 yo yn yc ys ro rn rc rs k (Int.gcd x y) := ⟨I0.below.trans (hB.mono I0.below.size), I0.ylen, I0.ycap, I0.yle, I0.ynrm, I0.yrd.below hB (Nat.le_refl _), r1, r2, by have := I0.xle; omega, r4, r6, by rw [r5, gcd_step (val_nonneg I0.xnrm.1) (by omega)]; exact I0.gcd⟩
      have hlt : (val rs).toNat < (val ys).toNat := by
        have h1 := Int.emod_lt_of_pos (val xs) (show 0 < val ys by omega)
        have h2 := Int.emod_nonneg (val xs) (show val ys ≠ 0 by omega)
        rw [r5]
        omega
      have hd2 := digs_of (cap := rc) r6 r1
      clear I0 hB r1 r2 r3 r4 r5 r6
      go_wp2
      go_roundw
      case rel => exact ⟨yo, yn, yc, ys, ro, rn, rc, rs, rfl, rfl, I1⟩
      case measure => rw [hd, hd2]; exact hlt
    · obtain rfl : yn = 0 := by omega
      have hys : ys = [] := List.eq_nil_of_length_eq_zero I0.ylen
      have hG : val xs = ((Int.gcd x y : Int).natAbs : Int) := by
        rw [← I0.gcd, hys]
        have := val_nonneg I0.xnrm.1
        simp [val, Int.gcd]
        omega
      have T1 := T0.step I0.below
      have hxk := I0.xle
      clear q1 q3
      go_wp2_with fail
      refine (trim_any false xo xn xc xs _ I0.xlen I0.xcap I0.xnrm.1 I0.xrd (by omega)).mono ?_
      rintro e w3 ⟨neg', ao', n', cap', ds', rfl, k1, k2, k3, k4, k5, k6, k7, k8⟩
      have T2 := T1.step k8
      have HN := num_of (z := (Int.gcd x y : Int)) (k := k) k1 k2 (by omega) k4 (k5.trans hG) (k6.trans (by rw [hG])) k7 rfl (by intro _; simp)
      have c0 := T2.r0; have c1 := T2.r1; have f0 := T2.f0; have f1 := T2.f1
      have HB := T2.below
      clear k1 k2 k3 k4 k5 k6 k7 k8 T1 T2 I0
      go_wp2
      refine bodyPost_ret (v := .agg #[.bool neg', .slice ao' n' cap']) (by simp [results, Try.results92, go_sem, c0, c1]) rfl ?_
      exact num_ret (by omega) c0 c1 HN HB
end Go.Proofs.Ytnnojeggjnddpaa

/- The walk of the model's common divisor of two numbers of four words. -/
namespace Go.Proofs.Ytnnojeggjnddpaa
open Go.RowKit
end Go.Proofs.Ytnnojeggjnddpaa

/- Fractions: whether one is right. -/
namespace Go.Proofs.Ytnnojeggjnddpaa
open Go.RowKit
/-- Two numbers as they lie in memory, side by side. -/
def TwoNP (x y : Int) (w : World) (e : Ending) (w' : World) : Prop :=
  ∃ (s : Bool) (ao : Option Addr) (n cap : Nat) (ds : List Int) (t : Bool) (bo : Option Addr) (m c : Nat) (es : List Int), e = .returned (.agg #[.bool s, .slice ao n cap, .bool t, .slice bo m c]) ∧ IsNum w' s ao n cap ds x 8 ∧ IsNum w' t bo m c es y 8 ∧ Below w.heap.size w w'
theorem IsNum.set {w : World} {s : Bool} {ao : Option Addr} {n cap : Nat} {ds : List Int} {z : Int} {k : Nat} (h : IsNum w s ao n cap ds z k) {p : Addr} {v : Value} (h0 : w.cell? p = some v) (hv : ∀ i, v ≠ .int .u32 i) (u : Value) : IsNum (w.setCell p u) s ao n cap ds z k :=
  ⟨h.neg, h.len, h.cap, h.rd.set u h0 hv, h.nrm, h.val, h.le⟩
theorem TwoNP.drew {x y : Int} {w w' : World} {e : Ending} (h : TwoNP x y w e w') : TwoNP x y w e w'.drew := by
  obtain ⟨s, ao, n, cap, ds, t, bo, m, c, es, he, N1, N2, hB⟩ := h
  exact ⟨s, ao, n, cap, ds, t, bo, m, c, es, he, ⟨N1.neg, N1.len, N1.cap, N1.rd, N1.nrm, N1.val, N1.le⟩, ⟨N2.neg, N2.len, N2.cap, N2.rd, N2.nrm, N2.val, N2.le⟩, hB.drew⟩
end Go.Proofs.Ytnnojeggjnddpaa

/- Fractions in their order: the program's walks. -/
namespace Go.Proofs.Ytnnojeggjnddpaa
open Go.RowKit
end Go.Proofs.Ytnnojeggjnddpaa

/- The words of a number, as its bits lie. -/
namespace Go.Proofs.Ytnnojeggjnddpaa
open Go.RowKit
/-- The words of a number, as its bits lie. -/
def ww0 (z : Int) : Int := z % 18446744073709551616
def ww1 (z : Int) : Int := z / 18446744073709551616 % 18446744073709551616
def ww2 (z : Int) : Int := z / 340282366920938463463374607431768211456 % 18446744073709551616
def ww3 (z : Int) : Int := z / 6277101735386680763835789423207666416102355444464034512896 % 18446744073709551616
theorem wd_of {a3 a2 a1 a0 z : Int} (h3 : Word a3) (h2 : Word a2) (h1 : Word a1) (h0 : Word a0) (h : sw a3 a2 a1 a0 = z) : a3 = ww3 z ∧ a2 = ww2 z ∧ a1 = ww1 z ∧ a0 = ww0 z := by
  unfold Word sw uw ww3 ww2 ww1 ww0 at *
  split at h <;> omega
abbrev W4 (z : Int) : Value := .agg #[.int .u64 (ww3 z), .int .u64 (ww2 z), .int .u64 (ww1 z), .int .u64 (ww0 z)]
def VP (v : Value) (w : World) (e : Ending) (w' : World) : Prop := e = .returned v ∧ Below w.heap.size w w'
end Go.Proofs.Ytnnojeggjnddpaa

/- The quotient and the rest of numbers with signs: the reckoning. -/
namespace Go.Proofs.Ytnnojeggjnddpaa
open Go.RowKit
theorem div_unique {x y q r : Int} (hy : y ≠ 0) (he : x = q * y + r) (h0 : 0 ≤ r) (h1 : r < (y.natAbs : Int)) : x / y = q ∧ x % y = r := by
  have hm : x % y = r := by
    rw [he, Int.add_comm, Int.add_mul_emod_self_right]
    rcases Int.lt_or_gt_of_ne hy with h | h
    · rw [← Int.emod_neg]
      exact Int.emod_eq_of_lt h0 (by omega)
    · exact Int.emod_eq_of_lt h0 (by omega)
  refine ⟨?_, hm⟩
  have e := Int.emod_add_mul_ediv x y
  rw [hm] at e
  have e2 : y * (x / y) = y * q := by rw [Int.mul_comm y q]; omega
  exact Int.eq_of_mul_eq_mul_left hy e2
/-- By the sizes without signs. -/
theorem div_parts (x y : Int) (hy : y ≠ 0) : ∃ Q R : Int, (x.natAbs : Int) / (y.natAbs : Int) = Q ∧ (x.natAbs : Int) % (y.natAbs : Int) = R ∧ 0 ≤ Q ∧ 0 ≤ R ∧ R < (y.natAbs : Int) ∧ (x.natAbs : Int) = Q * (y.natAbs : Int) + R := by
  have hp : (0 : Int) < (y.natAbs : Int) := by omega
  refine ⟨_, _, rfl, rfl, Int.ediv_nonneg (by omega) (by omega), Int.emod_nonneg _ (by omega), Int.emod_lt_of_pos _ hp, ?_⟩
  have := Int.emod_add_mul_ediv (x.natAbs : Int) (y.natAbs : Int)
  rw [Int.mul_comm] at this
  omega
theorem div_signs {x y Q R : Int} (hy : y ≠ 0) (h0 : 0 ≤ R) (h1 : R < (y.natAbs : Int)) (he : (x.natAbs : Int) = Q * (y.natAbs : Int) + R) :
    (0 ≤ x → 0 < y → x / y = Q ∧ x % y = R) ∧ (0 ≤ x → y < 0 → x / y = -Q ∧ x % y = R) ∧ (x < 0 → R = 0 → 0 < y → x / y = -Q ∧ x % y = 0) ∧ (x < 0 → R = 0 → y < 0 → x / y = Q ∧ x % y = 0) ∧
    (x < 0 → 0 < R → 0 < y → x / y = -Q - 1 ∧ x % y = -R + y) ∧ (x < 0 → 0 < R → y < 0 → x / y = Q + 1 ∧ x % y = -R - y) := by
  refine ⟨?_, ?_, ?_, ?_, ?_, ?_⟩
  · intro hx hp
    rw [show (x.natAbs : Int) = x by omega, show (y.natAbs : Int) = y by omega] at he
    exact div_unique hy he h0 h1
  · intro hx hp
    rw [show (x.natAbs : Int) = x by omega, show (y.natAbs : Int) = -y by omega] at he
    exact div_unique hy (by rw [he, Int.neg_mul, Int.mul_neg]) h0 h1
  · intro hx hR hp
    rw [show (x.natAbs : Int) = -x by omega, show (y.natAbs : Int) = y by omega] at he
    exact div_unique hy (by rw [Int.neg_mul]; omega) (by omega) (by omega)
  · intro hx hR hp
    rw [show (x.natAbs : Int) = -x by omega, show (y.natAbs : Int) = -y by omega, Int.mul_neg] at he
    exact div_unique hy (by omega) (by omega) (by omega)
  · intro hx hR hp
    rw [show (x.natAbs : Int) = -x by omega, show (y.natAbs : Int) = y by omega] at he
    exact div_unique hy (by rw [Int.sub_mul, Int.neg_mul]; omega) (by omega) (by omega)
  · intro hx hR hp
    rw [show (x.natAbs : Int) = -x by omega, show (y.natAbs : Int) = -y by omega, Int.mul_neg] at he
    exact div_unique hy (by rw [Int.add_mul]; omega) (by omega) (by omega)
end Go.Proofs.Ytnnojeggjnddpaa

/- Quotients with their signs: the reckoning, and the walks of the pieces. -/
namespace Go.Proofs.Ytnnojeggjnddpaa
open Go.RowKit
theorem sl_of_val {z0 z1 z2 z3 z4 z5 z6 z7 : Int} (hz : Words [z0, z1, z2, z3, z4, z5, z6, z7]) (h : val64 [z0, z1, z2, z3, z4, z5, z6, z7] < 6703903964971298549787012499102923063739682910296196688861780721860882015036773488400937149083451713845015929093243025426876941405973284973216824503042048) : sl z0 z1 z2 z3 z4 z5 z6 z7 = val64 [z0, z1, z2, z3, z4, z5, z6, z7] := by
  obtain ⟨t1, t2, t3⟩ := sl_top hz
  unfold sl
  rw [if_pos (t1.2 h)]
  omega
/-- The number with its sign turned where b holds. -/
theorem signedL_any (x0 x1 x2 x3 x4 x5 x6 x7 : Int) (b : Bool) (wx : Words [x0, x1, x2, x3, x4, x5, x6, x7]) (hv : val64 [x0, x1, x2, x3, x4, x5, x6, x7] < 6703903964971298549787012499102923063739682910296196688861780721860882015036773488400937149083451713845015929093243025426876941405973284973216824503042048) (w : World) : Calls Try.prog 53 #[L8 x0 x1 x2 x3 x4 x5 x6 x7, .bool b] w (TimesP (if b then -val64 [x0, x1, x2, x3, x4, x5, x6, x7] else val64 [x0, x1, x2, x3, x4, x5, x6, x7]) w) := by
  refine (signed_any x0 x1 x2 x3 x4 x5 x6 x7 b wx w).mono ?_
  rintro e w1 ⟨z0, z1, z2, z3, z4, z5, z6, z7, rfl, wz, ⟨c, c0, c1, hz⟩, hB⟩
  refine ⟨z0, z1, z2, z3, z4, z5, z6, z7, rfl, wz, ?_, hB⟩
  obtain ⟨t1, t2, t3⟩ := sl_top wz
  have v0 := val64_nonneg wx
  unfold sl
  generalize val64 [z0, z1, z2, z3, z4, z5, z6, z7] = Z at *
  generalize val64 [x0, x1, x2, x3, x4, x5, x6, x7] = X at *
  simp only [t1]
  clear t1
  cases b
  · simp only [Bool.false_eq_true, if_false] at hz ⊢
    rw [if_pos (by omega)]
    omega
  · simp only [if_true] at hz ⊢
    obtain rfl | rfl : c = 0 ∨ c = 1 := by omega
    · rw [if_pos (by omega)]; omega
    · rw [if_neg (by omega)]; omega
/-- What is told, its words known ahead. -/
def tellV (z : Int) : Value := if told z then .tuple #[W4 z, .bool true] else .tuple #[W4 0, .bool false]
theorem tellWide_det (x0 x1 x2 x3 x4 x5 x6 x7 : Int) (wx : Words [x0, x1, x2, x3, x4, x5, x6, x7]) (z : Int) (hz : sl x0 x1 x2 x3 x4 x5 x6 x7 = z) (w : World) : Calls Try.prog 52 #[L8 x0 x1 x2 x3 x4 x5 x6 x7] w (VP (tellV z) w) := by
  refine (tellWide_any x0 x1 x2 x3 x4 x5 x6 x7 wx w).mono ?_
  rw [hz]
  rintro e w' ⟨hB, ⟨ht, a3, a2, a1, a0, rfl, g3, g2, g1, g0, hs⟩ | ⟨ht, rfl⟩⟩
  · obtain ⟨rfl, rfl, rfl, rfl⟩ := wd_of g3 g2 g1 g0 hs
    exact ⟨by unfold tellV; rw [ht]; rfl, hB⟩
  · exact ⟨by unfold tellV; rw [ht]; rfl, hB⟩
set_option maxRecDepth 100000 in
set_option maxHeartbeats 2000000 in
theorem eqZ4 (b3 b2 b1 b0 : Int) (w : World) : (Op.equalIn 10000 26 (.agg #[.int .u64 b3, .int .u64 b2, .int .u64 b1, .int .u64 b0]) (.agg #[.int .u64 0, .int .u64 0, .int .u64 0, .int .u64 0])).run Try.prog w = .ok (b3 == 0 && b2 == 0 && b1 == 0 && b0 == 0) w := by
  have u3 := Try.underlying22
  have a3 := Try.isAgg22
  have z3 := Try.sizeOf22
  rw [show (10000 : Nat) = 9999 + 1 from rfl, Op.equalIn]
  simp only [Sem.run_bind, run_underlying Try.underlying26, Result.andThen_ok]
  go_simp
  by_cases hb3 : b3 = 0
  · subst hb3
    by_cases hb2 : b2 = 0
    · subst hb2
      by_cases hb1 : b1 = 0
      · subst hb1
        by_cases hb0 : b0 = 0
        · subst hb0
          simp
        · simp [hb0]
      · simp [hb1]
    · simp [hb2]
  · simp [hb3]
theorem zero4 {b3 b2 b1 b0 : Int} (h3 : Word b3) (h2 : Word b2) (h1 : Word b1) (h0 : Word b0) : (b3 == 0 && b2 == 0 && b1 == 0 && b0 == 0) = decide (sw b3 b2 b1 b0 = 0) := by
  rw [Bool.eq_iff_iff]
  simp only [Bool.and_eq_true, beq_iff_eq, decide_eq_true_eq]
  unfold sw uw Word at *
  split <;> omega
end Go.Proofs.Ytnnojeggjnddpaa

/- The program's quotient of two numbers of four words: what lies in memory around the division. -/
namespace Go.Proofs.Ytnnojeggjnddpaa
open Go.RowKit
theorem ArgsB.set8 {w W : World} {a b c d : List Value} (h : ArgsB w W [a, b, c, d]) {g : Nat} (hg : w.heap.size + 3 < g) (v0 v1 v2 v3 v4 v5 v6 v7 : Value) : ArgsB w ((((((((W.setCell ⟨g, 0, none⟩ v0).setCell ⟨g, 1, none⟩ v1).setCell ⟨g, 2, none⟩ v2).setCell ⟨g, 3, none⟩ v3).setCell ⟨g, 4, none⟩ v4).setCell ⟨g, 5, none⟩ v5).setCell ⟨g, 6, none⟩ v6).setCell ⟨g, 7, none⟩ v7) [a, b, c, d] :=
  ((((((((h.set (by exact hg) _).set (by exact hg) _).set (by exact hg) _).set (by exact hg) _).set (by exact hg) _).set (by exact hg) _).set (by exact hg) _).set (by exact hg) _)
end Go.Proofs.Ytnnojeggjnddpaa

/- The walk of the program's quotient and rest of two numbers of four words. -/
namespace Go.Proofs.Ytnnojeggjnddpaa
open Go.RowKit
end Go.Proofs.Ytnnojeggjnddpaa

/- Two rows of four values, and a flag, laid behind the arguments. -/
namespace Go.Proofs.Ytnnojeggjnddpaa
open Go.RowKit
theorem Blk.stored4g {W : World} {g : Nat} {z0 z1 z2 z3 : Value} (G : Blk W g [z0, z1, z2, z3]) (v0 v1 v2 v3 : Value) : Blk ((((W.setCell ⟨g, 0, none⟩ v0).setCell ⟨g, 1, none⟩ v1).setCell ⟨g, 2, none⟩ v2).setCell ⟨g, 3, none⟩ v3) g [v0, v1, v2, v3] :=
  (((G.setI 0 (by simp) v0).setI 1 (by simp) v1).setI 2 (by simp) v2).setI 3 (by simp) v3
def CutY (w wx : World) (vss : List (List Value)) (xs ys : List Value) (b : Bool) (p q r : Value) : Prop :=
  ∃ g g', p = (.pointer (some ⟨g, 0, none⟩)) ∧ q = (.pointer (some ⟨g', 0, none⟩)) ∧ r = .bool b ∧ g ≠ g' ∧ w.heap.size + vss.length ≤ g ∧ w.heap.size + vss.length ≤ g' ∧ ArgsB w wx vss ∧ Blk wx g xs ∧ Blk wx g' ys
theorem CutY.drew {w wx : World} {vss : List (List Value)} {xs ys : List Value} {b : Bool} {p q r : Value} (h : CutY w wx vss xs ys b p q r) : CutY w wx.drew vss xs ys b p q r := by
  obtain ⟨g, g', e, f, i, n, l, l', A, B, C⟩ := h
  exact ⟨g, g', e, f, i, n, l, l', A.drew, B.drew, C.drew⟩
end Go.Proofs.Ytnnojeggjnddpaa

/- Rows of eight values laid behind the arguments. -/
namespace Go.Proofs.Ytnnojeggjnddpaa
open Go.RowKit
theorem ArgsB.set8g {w W : World} {vss : List (List Value)} (h : ArgsB w W vss) {g : Nat} (hg : w.heap.size + vss.length ≤ g) (v0 v1 v2 v3 v4 v5 v6 v7 : Value) : ArgsB w ((((((((W.setCell ⟨g, 0, none⟩ v0).setCell ⟨g, 1, none⟩ v1).setCell ⟨g, 2, none⟩ v2).setCell ⟨g, 3, none⟩ v3).setCell ⟨g, 4, none⟩ v4).setCell ⟨g, 5, none⟩ v5).setCell ⟨g, 6, none⟩ v6).setCell ⟨g, 7, none⟩ v7) vss := ((((((((h.set (by exact hg) _).set (by exact hg) _).set (by exact hg) _).set (by exact hg) _).set (by exact hg) _).set (by exact hg) _).set (by exact hg) _).set (by exact hg) _)
theorem cutB_set8 {w wx : World} {vss : List (List Value)} {z0 z1 z2 z3 z4 z5 z6 z7 v0 v1 v2 v3 v4 v5 v6 v7 : Value} {g : Nat} (h : ArgsB w wx vss) (G : Blk wx g [z0, z1, z2, z3, z4, z5, z6, z7]) (hg : w.heap.size + vss.length ≤ g) :
    CutB w ((((((((wx.setCell ⟨g, 0, none⟩ v0).setCell ⟨g, 1, none⟩ v1).setCell ⟨g, 2, none⟩ v2).setCell ⟨g, 3, none⟩ v3).setCell ⟨g, 4, none⟩ v4).setCell ⟨g, 5, none⟩ v5).setCell ⟨g, 6, none⟩ v6).setCell ⟨g, 7, none⟩ v7) vss [v0, v1, v2, v3, v4, v5, v6, v7] (.pointer (some ⟨g, 0, none⟩)) := ⟨g, rfl, hg, h.set8g hg _ _ _ _ _ _ _ _, G.stored8 _ _ _ _ _ _ _ _⟩
end Go.Proofs.Ytnnojeggjnddpaa

/- The walk of what a long is when it is divided by a divisor of it, told as four words. -/
namespace Go.Proofs.Ytnnojeggjnddpaa
open Go.RowKit
/-- What is told of a quotient with its sign. -/
def shareZ (x d : Int) (b : Bool) : Int := if decide (x < 0) != b then -((x.natAbs : Int) / d) else (x.natAbs : Int) / d
end Go.Proofs.Ytnnojeggjnddpaa
