/- Part 11 of the walks that the proof leans on. -/
import Derived.Test.YtjhmacpejfldoaaPart10
import Derived.Test.YtjhmacpejfldoaaPart8
import Derived.Test.YtjhmacpejfldoaaPart9
import Derived.Test.YtjhmacpejfldoaaPart3
import Derived.Test.YtjhmacpejfldoaaPart6
import Derived.Test.YtjhmacpejfldoaaPart7
import Derived.Test.YtjhmacpejfldoaaPart1
import Derived.Deep.RegionHeld3
import Derived.Deep.DeepCutAuto
/- Differences of spots, their products: the program's walks. -/
namespace Go.Proofs.Ytjhmacpejfldoaa
open Go.RowKit
abbrev In2 (x : Int) : Prop := -2000000 ≤ x ∧ x ≤ 2000000
abbrev In1 (x : Int) : Prop := -1000000 ≤ x ∧ x ≤ 1000000
theorem mul_in {p q M N : Int} (h1 : -M ≤ p) (h2 : p ≤ M) (h3 : -N ≤ q) (h4 : q ≤ N) : -(M * N) ≤ p * q ∧ p * q ≤ M * N := by
  have hM : 0 ≤ M := by omega
  have hN : 0 ≤ N := by omega
  have a1 : 0 ≤ (M - p) * (N - q) := Int.mul_nonneg (by omega) (by omega)
  have a2 : 0 ≤ (M + p) * (N + q) := Int.mul_nonneg (by omega) (by omega)
  have a3 : 0 ≤ (M - p) * (N + q) := Int.mul_nonneg (by omega) (by omega)
  have a4 : 0 ≤ (M + p) * (N - q) := Int.mul_nonneg (by omega) (by omega)
  constructor <;> grind
theorem prod2 {p q : Int} (hp : In2 p) (hq : In2 q) : -4000000000000 ≤ p * q ∧ p * q ≤ 4000000000000 := mul_in (M := 2000000) (N := 2000000) hp.1 hp.2 hq.1 hq.2
theorem minusS_det (x y u v : Int) (hx : In1 x) (hy : In1 y) (hu : In1 u) (hv : In1 v) (w : World) : Calls Try.prog 31 #[Sp x y, Sp u v] w (VP (Sp (x - u) (y - v)) w) := by
  obtain ⟨x1, x2⟩ := hx; obtain ⟨y1, y2⟩ := hy; obtain ⟨u1, u2⟩ := hu; obtain ⟨v1, v2⟩ := hv
  go_enter Try.func31, Try.ntmps31
  go_wp2
  refine bodyPost_ret (v := Sp (x - u) (y - v)) (by simp [results, Try.results31, go_sem]) rfl ?_
  exact ⟨rfl, (((Below.refl _ _).alloc (Nat.le_refl _) _).alloc (by simp) _).alloc (by simp; omega) _⟩
theorem cross_det (x y u v : Int) (hx : In2 x) (hy : In2 y) (hu : In2 u) (hv : In2 v) (w : World) : Calls Try.prog 35 #[Sp x y, Sp u v] w (VP (.int .i64 (x * v - y * u)) w) := by
  obtain ⟨p1, p2⟩ := prod2 hx hv; obtain ⟨q1, q2⟩ := prod2 hy hu
  clear hx hy hu hv
  go_enter Try.func35, Try.ntmps35
  go_wp2
  go_ret
  exact ⟨rfl, ((Below.refl _ _).alloc (Nat.le_refl _) _).alloc (by simp) _⟩
theorem dot_det (x y u v : Int) (hx : In2 x) (hy : In2 y) (hu : In2 u) (hv : In2 v) (w : World) : Calls Try.prog 32 #[Sp x y, Sp u v] w (VP (.int .i64 (x * u + y * v)) w) := by
  obtain ⟨p1, p2⟩ := prod2 hx hu; obtain ⟨q1, q2⟩ := prod2 hy hv
  clear hx hy hu hv
  go_enter Try.func32, Try.ntmps32
  go_wp2
  go_ret
  exact ⟨rfl, ((Below.refl _ _).alloc (Nat.le_refl _) _).alloc (by simp) _⟩
theorem implRatioOf_det (x y : Int) (hx : told x = true) (hy : told y = true) (w : World) : Calls Try.prog 33 #[W4 x, W4 y] w (VP (ratV x y) w) := by
  obtain ⟨a3, a2, a1, a0⟩ := ww_words x
  obtain ⟨b3, b2, b1, b0⟩ := ww_words y
  have h := implRatioOf_any (ww3 x) (ww2 x) (ww1 x) (ww0 x) (ww3 y) (ww2 y) (ww1 y) (ww0 y) a3 a2 a1 a0 b3 b2 b1 b0 w
  rw [ww_sw hx, ww_sw hy] at h
  exact h
/-- Two rows of two values, each in a block of its own. -/
def CutG (w wx : World) (vss : List (List Value)) (us vs : List Value) (p q : Value) : Prop :=
  ∃ g g', p = .pointer (some ⟨g, 0, none⟩) ∧ q = .pointer (some ⟨g', 0, none⟩) ∧ g ≠ g' ∧ w.heap.size + vss.length ≤ g ∧ w.heap.size + vss.length ≤ g' ∧ ArgsB w wx vss ∧ Blk wx g us ∧ Blk wx g' vs
theorem cutG_nn {w X : World} {vss : List (List Value)} {us vs : List Value} {T T' : TypeId} (h : ArgsB w X vss) (hl : w.heap.size + vss.length ≤ X.heap.size) : CutG w ((X.alloc (.cells us.toArray T)).alloc (.cells vs.toArray T')) vss us vs (.pointer (some ⟨X.heap.size, 0, none⟩)) (.pointer (some ⟨X.heap.size + 1, 0, none⟩)) :=
  ⟨_, _, rfl, rfl, by omega, hl, by omega, (h.alloc _).alloc _, (Blk.new X us T rfl).alloc _, Blk.new _ vs T' (by simp)⟩
theorem cutG_nn' {w X : World} {vss : List (List Value)} {us vs : List Value} {T T' : TypeId} (h : ArgsB w X vss) (hl : w.heap.size + vss.length ≤ X.heap.size) : CutG w ((X.alloc (.cells vs.toArray T)).alloc (.cells us.toArray T')) vss us vs (.pointer (some ⟨X.heap.size + 1, 0, none⟩)) (.pointer (some ⟨X.heap.size, 0, none⟩)) :=
  ⟨_, _, rfl, rfl, by omega, by omega, hl, (h.alloc _).alloc _, Blk.new _ us T' (by simp), (Blk.new X vs T rfl).alloc _⟩
theorem cutG_sn {w X : World} {vss : List (List Value)} {v0 v1 z0 z1 : Value} {vs : List Value} {T : TypeId} {g : Nat} (h : ArgsB w X vss) (G : Blk X g [z0, z1]) (hg : w.heap.size + vss.length ≤ g) (hl : w.heap.size + vss.length ≤ X.heap.size) : CutG w (((X.setCell ⟨g, 0, none⟩ v0).setCell ⟨g, 1, none⟩ v1).alloc (.cells vs.toArray T)) vss [v0, v1] vs (.pointer (some ⟨g, 0, none⟩)) (.pointer (some ⟨X.heap.size, 0, none⟩)) :=
  ⟨_, _, rfl, rfl, by have := G.lt; omega, hg, hl, (h.set2 hg _ _).alloc _, (G.stored2 _ _).alloc _, Blk.new _ vs T (by simp)⟩
theorem cutG_sn' {w X : World} {vss : List (List Value)} {v0 v1 z0 z1 : Value} {us : List Value} {T : TypeId} {g : Nat} (h : ArgsB w X vss) (G : Blk X g [z0, z1]) (hg : w.heap.size + vss.length ≤ g) (hl : w.heap.size + vss.length ≤ X.heap.size) : CutG w (((X.setCell ⟨g, 0, none⟩ v0).setCell ⟨g, 1, none⟩ v1).alloc (.cells us.toArray T)) vss us [v0, v1] (.pointer (some ⟨X.heap.size, 0, none⟩)) (.pointer (some ⟨g, 0, none⟩)) :=
  ⟨_, _, rfl, rfl, by have := G.lt; omega, hl, hg, (h.set2 hg _ _).alloc _, Blk.new _ us T (by simp), (G.stored2 _ _).alloc _⟩
theorem cutG_ss {w X : World} {vss : List (List Value)} {v0 v1 u0 u1 z0 z1 y0 y1 : Value} {g g' : Nat} (h : ArgsB w X vss) (G : Blk X g [z0, z1]) (G' : Blk X g' [y0, y1]) (hg : w.heap.size + vss.length ≤ g) (hg' : w.heap.size + vss.length ≤ g') (hne : g ≠ g') :
    CutG w ((((X.setCell ⟨g, 0, none⟩ v0).setCell ⟨g, 1, none⟩ v1).setCell ⟨g', 0, none⟩ u0).setCell ⟨g', 1, none⟩ u1) vss [v0, v1] [u0, u1] (.pointer (some ⟨g, 0, none⟩)) (.pointer (some ⟨g', 0, none⟩)) :=
  ⟨_, _, rfl, rfl, hne, hg, hg', (h.set2 hg _ _).set2 hg' _ _, (G.stored2 _ _).set2 hne, (G'.set2 (fun e => hne e.symm)).stored2 _ _⟩
/-- The square of the distance of a spot and a segment, both right. -/
def nearW (a b c d x y : Int) : Value :=
  if (x - a) * (c - a) + (y - b) * (d - b) ≤ 0 then ratV ((x - a) * (x - a) + (y - b) * (y - b)) 1
  else if (x - c) * (c - a) + (y - d) * (d - b) ≥ 0 then ratV ((x - c) * (x - c) + (y - d) * (y - d)) 1
  else ratV (((c - a) * (y - b) - (d - b) * (x - a)) * ((c - a) * (y - b) - (d - b) * (x - a))) ((c - a) * (c - a) + (d - b) * (d - b))
/-- The square of the distance of a spot and a segment, and true; where one is not right: zeros, and false. -/
def nearV (a b c d x y : Int) : Value := if segOk a b c d && spotOk x y then nearW a b c d x y else .tuple #[.agg #[.int .u64 0, .int .u64 0, .int .u64 0, .int .u64 0, .int .u64 0, .int .u64 0, .int .u64 0, .int .u64 0], .bool false]
theorem nearW_ex (a b c d x y : Int) : ∃ z0 z1 z2 z3 z4 z5 z6 z7 f, nearW a b c d x y = .tuple #[.agg #[.int .u64 z0, .int .u64 z1, .int .u64 z2, .int .u64 z3, .int .u64 z4, .int .u64 z5, .int .u64 z6, .int .u64 z7], .bool f] := by
  unfold nearW
  split
  · exact ratV_ex _ _
  · split <;> exact ratV_ex _ _
theorem in1_spot {x y : Int} (h : spotOk x y = true) : In1 x ∧ In1 y := by
  unfold spotOk at h
  simp at h
  omega
theorem told_big {x : Int} (h : -1000000000000000000000000000000 ≤ x ∧ x ≤ 1000000000000000000000000000000) : told x = true := told_of (by omega)
theorem nr_cells {a b c d x y : Int} {w W : World} (T0 : ArgsB w W [[.int .i64 a, .int .i64 b, .int .i64 c, .int .i64 d], [.int .i64 x, .int .i64 y], [.int .u64 0, .int .u64 0, .int .u64 0, .int .u64 0, .int .u64 0, .int .u64 0, .int .u64 0, .int .u64 0]]) : (fun w' => w'.cell? ⟨w.heap.size, 0, none⟩ = some (.int .i64 a) ∧ w'.cell? ⟨w.heap.size, 1, none⟩ = some (.int .i64 b) ∧ w'.cell? ⟨w.heap.size, 2, none⟩ = some (.int .i64 c) ∧ w'.cell? ⟨w.heap.size, 3, none⟩ = some (.int .i64 d) ∧ w'.cell? ⟨w.heap.size + 1, 0, none⟩ = some (.int .i64 x) ∧ w'.cell? ⟨w.heap.size + 1, 1, none⟩ = some (.int .i64 y)) W := ⟨(T0.b 0 rfl).c 0 rfl, (T0.b 0 rfl).c 1 rfl, (T0.b 0 rfl).c 2 rfl, (T0.b 0 rfl).c 3 rfl, (T0.b 1 rfl).c 0 rfl, (T0.b 1 rfl).c 1 rfl⟩
end Go.Proofs.Ytjhmacpejfldoaa

/- The square of the distance of a spot and a segment: the model's walk. -/
namespace Go.Proofs.Ytjhmacpejfldoaa
open Go.RowKit
theorem ratV_one (n : Int) : ratV n 1 = rtV n 1 := by
  rw [ratV_rt (by decide)]
  have h1 : lowN n 1 = n := by
    unfold lowN shareZ
    rw [Int.gcd_one]
    by_cases h : n < 0
    · simp [h]; omega
    · simp [h]; omega
  have h2 : lowD n 1 = 1 := by
    unfold lowD shareZ
    rw [Int.gcd_one]
    decide
  rw [h1, h2]
theorem sum_sq {m n : Int} (h : m * m + n * n = 0) : m = 0 ∧ n = 0 := by
  have h1 : 0 ≤ m * m := by
    rcases Int.le_total 0 m with h | h
    · exact Int.mul_nonneg h h
    · exact Int.mul_nonneg_of_nonpos_of_nonpos h h
  have h2 : 0 ≤ n * n := by
    rcases Int.le_total 0 n with h | h
    · exact Int.mul_nonneg h h
    · exact Int.mul_nonneg_of_nonpos_of_nonpos h h
  exact ⟨(Int.mul_eq_zero.1 (by omega : m * m = 0)).elim id id, (Int.mul_eq_zero.1 (by omega : n * n = 0)).elim id id⟩
def NearP (a b c d x y : Int) (w : World) (e : Ending) (w' : World) : Prop := ∃ (U V : Int) (k : Nat), k ≤ 8000 ∧ rtV U V = nearW a b c d x y ∧ NumsP k U V w e w'
theorem near_same (a b c d x y : Int) : (x - c) * (c - a) + (y - d) * (d - b) = (x - a) * (c - a) + (y - b) * (d - b) - ((c - a) * (c - a) + (d - b) * (d - b)) := by grind
set_option maxRecDepth 100000 in
set_option maxHeartbeats 8000000 in
theorem l4Near2_any (a b c d x y : Int) (i1 : In1 a) (i2 : In1 b) (i3 : In1 c) (i4 : In1 d) (i5 : In1 x) (i6 : In1 y) (w : World) : Calls Try.prog 27 #[Sg a b c d, Sp x y] w (NearP a b c d x y w) := by
  have T0 : ArgsB w (((w.alloc (.cells #[.int .i64 a, .int .i64 b, .int .i64 c, .int .i64 d] 39)).alloc (.cells #[.int .i64 x, .int .i64 y] 26)).alloc (.cells #[.bool false, .slice none 0 0, .bool false, .slice none 0 0] 66)) [[.int .i64 a, .int .i64 b, .int .i64 c, .int .i64 d], [.int .i64 x, .int .i64 y], [.bool false, .slice none 0 0, .bool false, .slice none 0 0]] := ar3 _ _ _ _ _ _ w
  obtain ⟨a1, a2⟩ := i1; obtain ⟨b1, b2⟩ := i2; obtain ⟨c1, c2⟩ := i3; obtain ⟨d1, d2⟩ := i4; obtain ⟨x1, x2⟩ := i5; obtain ⟨y1, y2⟩ := i6
  have hm2 : In2 (c - a) := ⟨by omega, by omega⟩
  have hn2 : In2 (d - b) := ⟨by omega, by omega⟩
  have hi2 : In2 (x - a) := ⟨by omega, by omega⟩
  have hj2 : In2 (y - b) := ⟨by omega, by omega⟩
  have hk2 : In2 (x - c) := ⟨by omega, by omega⟩
  have hl2 : In2 (y - d) := ⟨by omega, by omega⟩
  obtain ⟨p1, p2⟩ := prod2 hi2 hi2; obtain ⟨p3, p4⟩ := prod2 hj2 hj2; obtain ⟨p5, p6⟩ := prod2 hk2 hk2; obtain ⟨p7, p8⟩ := prod2 hl2 hl2
  obtain ⟨u1, u2⟩ := prod2 hm2 hj2; obtain ⟨u3, u4⟩ := prod2 hn2 hi2; obtain ⟨u5, u6⟩ := prod2 hm2 hm2; obtain ⟨u7, u8⟩ := prod2 hn2 hn2
  obtain ⟨t1, t2⟩ := prod2 hi2 hm2; obtain ⟨t3, t4⟩ := prod2 hj2 hn2
  clear hm2 hn2 hi2 hj2 hk2 hl2
  have E : Hid ((x - c) * (c - a) + (y - d) * (d - b) = (x - a) * (c - a) + (y - b) * (d - b) - ((c - a) * (c - a) + (d - b) * (d - b))) := near_same a b c d x y
  go_enter Try.func27, Try.ntmps27
  go_upto_region 1 with fail
  generalize (((w.alloc (.cells #[.int .i64 a, .int .i64 b, .int .i64 c, .int .i64 d] 39)).alloc (.cells #[.int .i64 x, .int .i64 y] 26)).alloc (.cells #[.bool false, .slice none 0 0, .bool false, .slice none 0 0] 66)) = WW at *
  have Y1 : Blk _ w.heap.size _ := T0.b 0 rfl; have g0 := Y1.c 0 rfl; have g1 := Y1.c 1 rfl; have g2 := Y1.c 2 rfl; have g3 := Y1.c 3 rfl; clear Y1
  have Y0 : Blk _ (w.heap.size + 1) _ := T0.b 1 rfl; have q0 := Y0.c 0 rfl; have q1 := Y0.c 1 rfl; clear Y0
  by_cases h1 : (x - a) * (c - a) + (y - b) * (d - b) ≤ 0
  · have HQ : Hid (rtV ((x - a) * (x - a) + (y - b) * (y - b)) 1 = nearW a b c d x y) := by show _ = _; unfold nearW; rw [if_pos h1]; exact (ratV_one _).symm
    clear E p5 p6 p7 p8 u1 u2 u3 u4
    go_wp2_with fail
    refine (int_any ((x - a) * (x - a) + (y - b) * (y - b)) _ (by omega) (by omega)).mono ?_
    rintro e v1 ⟨s1, o1, n1, c1, d1, rfl, N1, hB⟩
    replace T0 := T0.step hB
    clear hB g0 g1 g2 g3 q0 q1
    go_wp2_with fail
    refine (int_any 1 _ (by decide) (by decide)).mono ?_
    rintro e v2 ⟨s2, o2, n2, c2, d2, rfl, N2, hB⟩
    replace T0 := T0.step hB
    replace N1 := N1.below hB
    clear hB
    have K1 : Hid (IsNum v2 s1 o1 n1 c1 d1 ((x - a) * (x - a) + (y - b) * (y - b)) 2) := N1
    have K2 : Hid (IsNum v2 s2 o2 n2 c2 d2 1 2) := N2
    have KB : Hid (Below w.heap.size w v2) := T0.below
    have KR : Hid (Blk v2 (w.heap.size + 1 + 1) [.bool false, .slice none 0 0, .bool false, .slice none 0 0]) := T0.b 2 rfl
    have p0 := (T0.b 2 rfl).c 0 rfl; have r0 := (T0.b 2 rfl).f 0 rfl; have p1 := (T0.b 2 rfl).c 1 rfl; have r1 := (T0.b 2 rfl).f 1 rfl; have p2 := (T0.b 2 rfl).c 2 rfl; have r2 := (T0.b 2 rfl).f 2 rfl; have p3 := (T0.b 2 rfl).c 3 rfl; have r3 := (T0.b 2 rfl).f 3 rfl; have plt := (T0.b 2 rfl).lt
    clear N1 N2 T0
    go_wp2
    refine bodyPost_ret (v := .agg #[.bool s1, .slice o1 n1 c1, .bool s2, .slice o2 n2 c2]) (by simp [results, Try.results27, go_sem, p0, p1, p2, p3]) rfl ?_
    exact ⟨_, _, 2, by omega, HQ.out, nums_ret (by omega) KR.out K1.out K2.out KB.out⟩
  · by_cases h2 : (x - a) * (c - a) + (y - b) * (d - b) ≥ (c - a) * (c - a) + (d - b) * (d - b)
    · have HQ : Hid (rtV ((x - c) * (x - c) + (y - d) * (y - d)) 1 = nearW a b c d x y) := by show _ = _; unfold nearW; rw [if_neg h1, if_pos (by rw [E.out]; omega)]; exact (ratV_one _).symm
      clear E p1 p2 p3 p4 u1 u2 u3 u4
      go_wp2_with fail
      refine (int_any ((x - c) * (x - c) + (y - d) * (y - d)) _ (by omega) (by omega)).mono ?_
      rintro e v1 ⟨s1, o1, n1, c1, d1, rfl, N1, hB⟩
      replace T0 := T0.step hB
      clear hB g0 g1 g2 g3 q0 q1
      go_wp2_with fail
      refine (int_any 1 _ (by decide) (by decide)).mono ?_
      rintro e v2 ⟨s2, o2, n2, c2, d2, rfl, N2, hB⟩
      replace T0 := T0.step hB
      replace N1 := N1.below hB
      clear hB
      have K1 : Hid (IsNum v2 s1 o1 n1 c1 d1 ((x - c) * (x - c) + (y - d) * (y - d)) 2) := N1
      have K2 : Hid (IsNum v2 s2 o2 n2 c2 d2 1 2) := N2
      have KB : Hid (Below w.heap.size w v2) := T0.below
      have KR : Hid (Blk v2 (w.heap.size + 1 + 1) [.bool false, .slice none 0 0, .bool false, .slice none 0 0]) := T0.b 2 rfl
      have p0 := (T0.b 2 rfl).c 0 rfl; have r0 := (T0.b 2 rfl).f 0 rfl; have p1 := (T0.b 2 rfl).c 1 rfl; have r1 := (T0.b 2 rfl).f 1 rfl; have p2 := (T0.b 2 rfl).c 2 rfl; have r2 := (T0.b 2 rfl).f 2 rfl; have p3 := (T0.b 2 rfl).c 3 rfl; have r3 := (T0.b 2 rfl).f 3 rfl; have plt := (T0.b 2 rfl).lt
      clear N1 N2 T0
      go_wp2
      refine bodyPost_ret (v := .agg #[.bool s1, .slice o1 n1 c1, .bool s2, .slice o2 n2 c2]) (by simp [results, Try.results27, go_sem, p0, p1, p2, p3]) rfl ?_
      exact ⟨_, _, 2, by omega, HQ.out, nums_ret (by omega) KR.out K1.out K2.out KB.out⟩
    · have hne : (c - a) * (c - a) + (d - b) * (d - b) ≠ 0 := by
        intro h0
        obtain ⟨e1, e2⟩ := sum_sq h0
        rw [e1, e2] at h1
        simp at h1
      have HQ : Hid (ratV (((c - a) * (y - b) - (d - b) * (x - a)) * ((c - a) * (y - b) - (d - b) * (x - a))) ((c - a) * (c - a) + (d - b) * (d - b)) = nearW a b c d x y) := by show _ = _; unfold nearW; rw [if_neg h1, if_neg (by rw [E.out]; omega)]
      have HN : Hid ((c - a) * (c - a) + (d - b) * (d - b) ≠ 0) := hne
      clear E p1 p2 p3 p4 p5 p6 p7 p8 hne
      go_wp2_with fail
      refine (int_any ((c - a) * (y - b) - (d - b) * (x - a)) _ (by omega) (by omega)).mono ?_
      rintro e v1 ⟨s1, o1, n1, c1, d1, rfl, N1, hB⟩
      replace T0 := (T0.step hB).alloc (.cells #[.bool s1, .slice o1 n1 c1] 64)
      have X1 := Blk.new v1 [.bool s1, .slice o1 n1 c1] 64 rfl
      replace N1 := N1.alloc (.cells #[.bool s1, .slice o1 n1 c1] 64)
      clear hB g0 g1 g2 g3 q0 q1
      have f0 := X1.c 0 rfl; have f1 := X1.c 1 rfl
      go_wp2_with fail
      refine (mul_any s1 s1 o1 o1 n1 n1 c1 c1 2 d1 d1 _ _ _ N1 N1 (by omega)).mono ?_
      rintro e v2 ⟨s2, o2, n2, c2, d2, rfl, N2, hB⟩
      replace T0 := T0.step hB
      clear hB N1 X1 f0 f1
      go_wp2_with fail
      refine (int_any ((c - a) * (c - a) + (d - b) * (d - b)) _ (by omega) (by omega)).mono ?_
      rintro e v3 ⟨s3, o3, n3, c3, d3, rfl, N3, hB⟩
      replace T0 := T0.step hB
      replace N2 := N2.below hB
      clear hB
      go_wp2_with fail
      refine (l2Make_any s2 o2 n2 c2 d2 s3 o3 n3 c3 d3 _ _ 4 (by omega) (by omega) _ N2 (num_more N3 (by omega)) HN.out).mono ?_
      rintro e v4 ⟨s4, o4, n4, c4, d4, s5, o5, n5, c5, d5, rfl, N4, N5, hB⟩
      replace T0 := T0.step hB
      have K1 : Hid (IsNum v4 s4 o4 n4 c4 d4 _ (4 + 3)) := N4
      have K2 : Hid (IsNum v4 s5 o5 n5 c5 d5 _ (4 + 3)) := N5
      have KB : Hid (Below w.heap.size w v4) := T0.below
      have KR : Hid (Blk v4 (w.heap.size + 1 + 1) [.bool false, .slice none 0 0, .bool false, .slice none 0 0]) := T0.b 2 rfl
      have p0 := (T0.b 2 rfl).c 0 rfl; have r0 := (T0.b 2 rfl).f 0 rfl; have p1 := (T0.b 2 rfl).c 1 rfl; have r1 := (T0.b 2 rfl).f 1 rfl; have p2 := (T0.b 2 rfl).c 2 rfl; have r2 := (T0.b 2 rfl).f 2 rfl; have p3 := (T0.b 2 rfl).c 3 rfl; have r3 := (T0.b 2 rfl).f 3 rfl; have plt := (T0.b 2 rfl).lt
      clear N2 N3 N4 N5 T0 hB
      go_wp2
      refine bodyPost_ret (v := .agg #[.bool s4, .slice o4 n4 c4, .bool s5, .slice o5 n5 c5]) (by simp [results, Try.results27, go_sem, p0, p1, p2, p3]) rfl ?_
      exact ⟨_, _, 4 + 3, by omega, (ratV_rt HN.out).symm.trans HQ.out, nums_ret (by omega) KR.out K1.out K2.out KB.out⟩
end Go.Proofs.Ytjhmacpejfldoaa

/- Fractions in their order: the model's walks. -/
namespace Go.Proofs.Ytjhmacpejfldoaa
open Go.RowKit
theorem lc_cells {s1 s2 s3 s4 : Bool} {o1 o2 o3 o4 : Option Addr} {n1 n2 n3 n4 c1 c2 c3 c4 : Nat} {w W : World} (h : ArgsB w W [[.bool s1, .slice o1 n1 c1, .bool s2, .slice o2 n2 c2], [.bool s3, .slice o3 n3 c3, .bool s4, .slice o4 n4 c4]]) : (fun w' => w'.cell? ⟨w.heap.size, 0, none⟩ = some (.bool s1) ∧ w'.cell? ⟨w.heap.size, 1, none⟩ = some (.slice o1 n1 c1) ∧ w'.cell? ⟨w.heap.size, 2, none⟩ = some (.bool s2) ∧ w'.cell? ⟨w.heap.size, 3, none⟩ = some (.slice o2 n2 c2) ∧ w'.cell? ⟨w.heap.size + 1, 0, none⟩ = some (.bool s3) ∧ w'.cell? ⟨w.heap.size + 1, 1, none⟩ = some (.slice o3 n3 c3) ∧ w'.cell? ⟨w.heap.size + 1, 2, none⟩ = some (.bool s4) ∧ w'.cell? ⟨w.heap.size + 1, 3, none⟩ = some (.slice o4 n4 c4)) W :=
  ⟨(h.b 0 rfl).c 0 rfl, (h.b 0 rfl).c 1 rfl, (h.b 0 rfl).c 2 rfl, (h.b 0 rfl).c 3 rfl, (h.b 1 rfl).c 0 rfl, (h.b 1 rfl).c 1 rfl, (h.b 1 rfl).c 2 rfl, (h.b 1 rfl).c 3 rfl⟩
set_option maxRecDepth 100000 in
set_option maxHeartbeats 2000000 in
theorem l2Cmp_any (s1 : Bool) (o1 : Option Addr) (n1 c1 : Nat) (ds1 : List Int) (s2 : Bool) (o2 : Option Addr) (n2 c2 : Nat) (ds2 : List Int) (s3 : Bool) (o3 : Option Addr) (n3 c3 : Nat) (ds3 : List Int) (s4 : Bool) (o4 : Option Addr) (n4 c4 : Nat) (ds4 : List Int) (x y u v : Int) (w : World) (N1 : IsNum w s1 o1 n1 c1 ds1 x 8) (N2 : IsNum w s2 o2 n2 c2 ds2 y 8) (N3 : IsNum w s3 o3 n3 c3 ds3 u 8) (N4 : IsNum w s4 o4 n4 c4 ds4 v 8) :
    Calls Try.prog 28 #[.agg #[.bool s1, .slice o1 n1 c1, .bool s2, .slice o2 n2 c2], .agg #[.bool s3, .slice o3 n3 c3, .bool s4, .slice o4 n4 c4]] w (IntP (cmpI (x * v) (u * y)) w) := by
  have T0 : ArgsB w ((w.alloc (.cells #[.bool s1, .slice o1 n1 c1, .bool s2, .slice o2 n2 c2] 66)).alloc (.cells #[.bool s3, .slice o3 n3 c3, .bool s4, .slice o4 n4 c4] 66)) [[.bool s1, .slice o1 n1 c1, .bool s2, .slice o2 n2 c2], [.bool s3, .slice o3 n3 c3, .bool s4, .slice o4 n4 c4]] := by
    refine ⟨((Below.refl _ _).alloc (Nat.le_refl _) _).alloc (by simp) _, fun j vs hj => ?_⟩
    match j, hj with
    | 0, hj => cases hj; exact (Blk.new w [.bool s1, .slice o1 n1 c1, .bool s2, .slice o2 n2 c2] 66 rfl).alloc _
    | 1, hj => cases hj; exact Blk.new (w.alloc (.cells #[.bool s1, .slice o1 n1 c1, .bool s2, .slice o2 n2 c2] 66)) [.bool s3, .slice o3 n3 c3, .bool s4, .slice o4 n4 c4] 66 (by simp)
    | j + 2, hj => simp at hj
  replace N1 := N1.below T0.below
  replace N2 := N2.below T0.below
  replace N3 := N3.below T0.below
  replace N4 := N4.below T0.below
  replace N1 := N1.drew
  replace N2 := N2.drew
  replace N3 := N3.drew
  replace N4 := N4.drew
  replace T0 := T0.drew
  have tok1 : True := trivial
  go_enter Try.func28, Try.ntmps28
  go_wp2_with fail
  generalize ((w.alloc (.cells #[.bool s1, .slice o1 n1 c1, .bool s2, .slice o2 n2 c2] 66)).alloc (.cells #[.bool s3, .slice o3 n3 c3, .bool s4, .slice o4 n4 c4] 66)) = W at *
  go_region_held3 (fun w' => w'.cell? ⟨w.heap.size, 0, none⟩ = some (.bool s1) ∧ w'.cell? ⟨w.heap.size, 1, none⟩ = some (.slice o1 n1 c1) ∧ w'.cell? ⟨w.heap.size, 2, none⟩ = some (.bool s2) ∧ w'.cell? ⟨w.heap.size, 3, none⟩ = some (.slice o2 n2 c2) ∧ w'.cell? ⟨w.heap.size + 1, 0, none⟩ = some (.bool s3) ∧ w'.cell? ⟨w.heap.size + 1, 1, none⟩ = some (.slice o3 n3 c3) ∧ w'.cell? ⟨w.heap.size + 1, 2, none⟩ = some (.bool s4) ∧ w'.cell? ⟨w.heap.size + 1, 3, none⟩ = some (.slice o4 n4 c4)) (first | (with_reducible exact lc_cells T0) | (with_reducible exact lc_cells T0.drew))
    (first
      | (go_at_call 54; have _t := tok1; refine (mul_any s1 s4 o1 o4 n1 n4 c1 c4 8 ds1 ds4 _ _ _ N1 N4 (by omega)).mono ?_; rintro e w1 ⟨s5, o5, n5, c5, ds5, rfl, N5, hB⟩; (first | (have T1 : ArgsB w w1 [[.bool s1, .slice o1 n1 c1, .bool s2, .slice o2 n2 c2], [.bool s3, .slice o3 n3 c3, .bool s4, .slice o4 n4 c4]] := (by with_reducible exact T0.step hB); replace N2 := N2.below hB; replace N3 := N3.below hB) | (have T1 : ArgsB w w1 [[.bool s1, .slice o1 n1 c1, .bool s2, .slice o2 n2 c2], [.bool s3, .slice o3 n3 c3, .bool s4, .slice o4 n4 c4]] := (by with_reducible exact T0.drew.step hB); replace N2 := N2.drew.below hB; replace N3 := N3.drew.below hB)); clear T0; have T0 := T1; clear T1; clear hB tok1 _t N1 N4)
      | (go_at_call 54; refine (mul_any s3 s2 o3 o2 n3 n2 c3 c2 8 ds3 ds2 _ _ _ N3 N2 (by omega)).mono ?_; rintro e w2 ⟨s6, o6, n6, c6, ds6, rfl, N6, hB⟩; (first | (have T1 : ArgsB w w2 [[.bool s1, .slice o1 n1 c1, .bool s2, .slice o2 n2 c2], [.bool s3, .slice o3 n3 c3, .bool s4, .slice o4 n4 c4]] := (by with_reducible exact T0.step hB); replace N5 := N5.below hB) | (have T1 : ArgsB w w2 [[.bool s1, .slice o1 n1 c1, .bool s2, .slice o2 n2 c2], [.bool s3, .slice o3 n3 c3, .bool s4, .slice o4 n4 c4]] := (by with_reducible exact T0.drew.step hB); replace N5 := N5.drew.below hB)); clear T0; have T0 := T1; clear T1; clear hB N2 N3)
      | (go_at_call 55; refine (cmp_any s5 s6 o5 o6 n5 n6 c5 c6 (8 + 8) ds5 ds6 _ _ _ N5 N6 (by omega)).mono ?_; rintro e w3 ⟨rfl, hB⟩; (first | (have T1 : ArgsB w w3 [[.bool s1, .slice o1 n1 c1, .bool s2, .slice o2 n2 c2], [.bool s3, .slice o3 n3 c3, .bool s4, .slice o4 n4 c4]] := (by with_reducible exact T0.step hB)) | (have T1 : ArgsB w w3 [[.bool s1, .slice o1 n1 c1, .bool s2, .slice o2 n2 c2], [.bool s3, .slice o3 n3 c3, .bool s4, .slice o4 n4 c4]] := (by with_reducible exact T0.drew.step hB))); clear T0; have T0 := T1; clear T1; clear hB N5 N6))
  all_goals have HB := T0.below
  all_goals clear T0
  all_goals go_wp2
  all_goals go_ret
  all_goals exact ⟨by simp, by first | exact HB | exact HB.drew⟩
end Go.Proofs.Ytjhmacpejfldoaa

/- Right points: in order, one only where their numbers are, the same with all parts multiplied: the reckoning. -/
namespace Go.Proofs.Ytjhmacpejfldoaa
open Go.RowKit
end Go.Proofs.Ytjhmacpejfldoaa

/- What lies between two points: the reckoning, and the program's walks. -/
namespace Go.Proofs.Ytjhmacpejfldoaa
open Go.RowKit
end Go.Proofs.Ytjhmacpejfldoaa

/- The middle of two right points: the reckoning. -/
namespace Go.Proofs.Ytjhmacpejfldoaa
open Go.RowKit
end Go.Proofs.Ytjhmacpejfldoaa

/- The square of the distance of two points: the program's walk. -/
namespace Go.Proofs.Ytjhmacpejfldoaa
open Go.RowKit
end Go.Proofs.Ytjhmacpejfldoaa

/- Fractions with both parts multiplied; distances to the middle: the reckoning. -/
namespace Go.Proofs.Ytjhmacpejfldoaa
open Go.RowKit
end Go.Proofs.Ytjhmacpejfldoaa

/- What lies between two points: the program's walks. -/
namespace Go.Proofs.Ytjhmacpejfldoaa
open Go.RowKit
end Go.Proofs.Ytjhmacpejfldoaa

/- What lies between two points: the model's walk, and both sides. -/
namespace Go.Proofs.Ytjhmacpejfldoaa
open Go.RowKit
end Go.Proofs.Ytjhmacpejfldoaa

/- What lies between two points: both sides. -/
namespace Go.Proofs.Ytjhmacpejfldoaa
open Go.RowKit
end Go.Proofs.Ytjhmacpejfldoaa

/- What lies between, of the middle: the reckoning. -/
namespace Go.Proofs.Ytjhmacpejfldoaa
open Go.RowKit
end Go.Proofs.Ytjhmacpejfldoaa

/- The program's sums, products and quotients of fractions. -/
namespace Go.Proofs.Ytjhmacpejfldoaa
open Go.RowKit
end Go.Proofs.Ytjhmacpejfldoaa

/- The program's laws of two fractions, as far as they are told. -/
namespace Go.Proofs.Ytjhmacpejfldoaa
open Go.RowKit
end Go.Proofs.Ytjhmacpejfldoaa

/- Four times a fraction; fractions by their own words. -/
namespace Go.Proofs.Ytjhmacpejfldoaa
open Go.RowKit
abbrev RV (n d : Int) : Value := .agg #[.int .u64 (ww3 n), .int .u64 (ww2 n), .int .u64 (ww1 n), .int .u64 (ww0 n), .int .u64 (ww3 d), .int .u64 (ww2 d), .int .u64 (ww1 d), .int .u64 (ww0 d)]
theorem low_parts {n d : Int} (hd : 0 < d) : ∃ g, 0 < g ∧ n = lowN n d * g ∧ d = lowD n d * g ∧ rightB (lowN n d) (lowD n d) = true := by
  have g0 : 0 < Int.gcd n d := Int.gcd_pos_of_ne_zero_right _ (by omega)
  obtain ⟨e1, e2, -, -⟩ := low_make (x := n) (y := d) (X := n) (Y := d) (g := (Int.gcd n d : Int)) (by rw [if_neg (by omega)]) (by rw [if_neg (by omega)]) rfl (by omega)
  have hg : (0 : Int) < Int.gcd n d := by omega
  have m1 : n = lowN n d * (Int.gcd n d : Int) := by rw [← e1]; exact (Int.ediv_mul_cancel (Int.gcd_dvd_left _ _)).symm
  have m2 : d = lowD n d * (Int.gcd n d : Int) := by rw [← e2]; exact (Int.ediv_mul_cancel (Int.gcd_dvd_right _ _)).symm
  refine ⟨Int.gcd n d, hg, m1, m2, ?_⟩
  have p : 0 < lowD n d := by
    apply Decidable.byContradiction
    intro h
    have := Int.mul_nonneg (a := -lowD n d) (b := (Int.gcd n d : Int)) (by omega) (by omega)
    have e : -lowD n d * (Int.gcd n d : Int) = -(lowD n d * (Int.gcd n d : Int)) := by grind
    omega
  have q : Int.gcd (lowN n d) (lowD n d) = 1 := by
    have en : (((Int.gcd n d : Int).natAbs : Nat) : Int) = (Int.gcd n d : Int) := by omega
    have h : (Int.gcd (lowN n d * (Int.gcd n d : Int)) (lowD n d * (Int.gcd n d : Int)) : Int) = Int.gcd (lowN n d) (lowD n d) * (Int.gcd n d : Int) := by rw [Int.gcd_mul_right, Int.natCast_mul, en]
    rw [← m1, ← m2] at h
    have h2 : (Int.gcd (lowN n d) (lowD n d) : Int) * (Int.gcd n d : Int) = 1 * (Int.gcd n d : Int) := by omega
    have := Int.eq_of_mul_eq_mul_right (by omega) h2
    omega
  unfold rightB
  exact decide_eq_true ⟨p, q⟩
theorem eqRV (n d : Int) (hn : told n = true) (hd : told d = true) (w : World) : (Op.equalIn 10000 33 (RV n d) (RV n d)).run Try.prog w = .ok true w := by
  have E1 := eqWW n n hn hn
  have E2 := eqWW d d hd hd
  have u3 := Try.underlying31
  have a3 := Try.isAgg31
  have z3 := Try.sizeOf31
  rw [show (10000 : Nat) = 9999 + 1 from rfl, Op.equalIn]
  simp only [Sem.run_bind, run_underlying Try.underlying33, Result.andThen_ok]
  go_simp
end Go.Proofs.Ytjhmacpejfldoaa

/- The square of a distance by its own two numbers: the reckoning. -/
namespace Go.Proofs.Ytjhmacpejfldoaa
open Go.RowKit
/-- What the square of the distance is a share of, and of what. -/
def nrX (a b c d x y : Int) : Int :=
  if (x - a) * (c - a) + (y - b) * (d - b) ≤ 0 then (x - a) * (x - a) + (y - b) * (y - b)
  else if (x - c) * (c - a) + (y - d) * (d - b) ≥ 0 then (x - c) * (x - c) + (y - d) * (y - d)
  else ((c - a) * (y - b) - (d - b) * (x - a)) * ((c - a) * (y - b) - (d - b) * (x - a))
def nrY (a b c d x y : Int) : Int :=
  if (x - a) * (c - a) + (y - b) * (d - b) ≤ 0 then 1 else if (x - c) * (c - a) + (y - d) * (d - b) ≥ 0 then 1 else (c - a) * (c - a) + (d - b) * (d - b)
def nU (a b c d x y : Int) : Int := lowN (nrX a b c d x y) (nrY a b c d x y)
def nV (a b c d x y : Int) : Int := lowD (nrX a b c d x y) (nrY a b c d x y)
theorem nearW_nr (a b c d x y : Int) : nearW a b c d x y = ratV (nrX a b c d x y) (nrY a b c d x y) := by
  unfold nearW nrX nrY
  split
  · rfl
  · split <;> rfl
theorem sq_in {p M : Int} (h1 : -M ≤ p) (h2 : p ≤ M) : 0 ≤ p * p ∧ p * p ≤ M * M := by
  refine ⟨?_, (mul_in h1 h2 h1 h2).2⟩
  rcases Int.le_total 0 p with h | h
  · exact Int.mul_nonneg h h
  · exact Int.mul_nonneg_of_nonpos_of_nonpos h h
theorem nr_bounds {a b c d x y : Int} (h1 : segOk a b c d = true) (h2 : spotOk x y = true) : 0 ≤ nrX a b c d x y ∧ nrX a b c d x y ≤ 64000000000000000000000000 ∧ 0 < nrY a b c d x y ∧ nrY a b c d x y ≤ 64000000000000000000000000 := by
  unfold segOk spotOk lessI at h1
  unfold spotOk at h2
  simp at h1 h2
  obtain ⟨⟨⟨p1, p2, p3, p4⟩, q1, q2, q3, q4⟩, hl⟩ := h1
  obtain ⟨r1, r2, r3, r4⟩ := h2
  have s1 := sq_in (p := x - a) (M := 2000000) (by omega) (by omega)
  have s2 := sq_in (p := y - b) (M := 2000000) (by omega) (by omega)
  have s3 := sq_in (p := x - c) (M := 2000000) (by omega) (by omega)
  have s4 := sq_in (p := y - d) (M := 2000000) (by omega) (by omega)
  have s5 := sq_in (p := c - a) (M := 2000000) (by omega) (by omega)
  have s6 := sq_in (p := d - b) (M := 2000000) (by omega) (by omega)
  have m1 := mul_in (p := c - a) (q := y - b) (M := 2000000) (N := 2000000) (by omega) (by omega) (by omega) (by omega)
  have m2 := mul_in (p := d - b) (q := x - a) (M := 2000000) (N := 2000000) (by omega) (by omega) (by omega) (by omega)
  have s7 := sq_in (p := (c - a) * (y - b) - (d - b) * (x - a)) (M := 8000000000000) (by omega) (by omega)
  have s8 : 0 < (c - a) * (c - a) + (d - b) * (d - b) := by
    rcases hl with h | ⟨h, h'⟩
    · have : 0 < (c - a) * (c - a) := Int.mul_pos (by omega) (by omega)
      omega
    · have : 0 < (d - b) * (d - b) := Int.mul_pos (by omega) (by omega)
      omega
  unfold nrX nrY
  split
  · omega
  · split <;> omega
theorem low_bounds {n d : Int} (h0 : 0 ≤ n) (hd : 0 < d) : 0 ≤ lowN n d ∧ lowN n d ≤ n ∧ 0 < lowD n d ∧ lowD n d ≤ d := by
  obtain ⟨g, hg, e1, e2, hr⟩ := low_parts (n := n) hd
  have hp : 0 < lowD n d := rightB_pos hr
  generalize lowN n d = u at *
  generalize lowD n d = v at *
  have hu : 0 ≤ u := by
    rcases Int.lt_or_le u 0 with h | h
    · have : u * g < 0 := Int.mul_neg_of_neg_of_pos h hg
      omega
    · exact h
  refine ⟨hu, ?_, hp, ?_⟩
  · have : u * 1 ≤ u * g := Int.mul_le_mul_of_nonneg_left (by omega) hu
    omega
  · have : v * 1 ≤ v * g := Int.mul_le_mul_of_nonneg_left (by omega) (by omega)
    omega
theorem near_nums {a b c d x y : Int} (h1 : segOk a b c d = true) (h2 : spotOk x y = true) : told (nU a b c d x y) = true ∧ told (nV a b c d x y) = true ∧ 0 < nV a b c d x y ∧ nearW a b c d x y = .tuple #[Rt (ww3 (nU a b c d x y)) (ww2 (nU a b c d x y)) (ww1 (nU a b c d x y)) (ww0 (nU a b c d x y)) (ww3 (nV a b c d x y)) (ww2 (nV a b c d x y)) (ww1 (nV a b c d x y)) (ww0 (nV a b c d x y)), .bool true] := by
  obtain ⟨b1, b2, b3, b4⟩ := nr_bounds h1 h2
  obtain ⟨l1, l2, l3, l4⟩ := low_bounds b1 b3
  have t1 : told (lowN (nrX a b c d x y) (nrY a b c d x y)) = true := told_big ⟨by omega, by omega⟩
  have t2 : told (lowD (nrX a b c d x y) (nrY a b c d x y)) = true := told_big ⟨by omega, by omega⟩
  refine ⟨t1, t2, l3, ?_⟩
  rw [nearW_nr]
  unfold ratV
  rw [if_pos ⟨by omega, t1, t2⟩]
  rfl
/-- What is told so has just these numbers. -/
theorem near_det {a b c d x y U V : Int} (h1 : segOk a b c d = true) (h2 : spotOk x y = true) (h : rtV U V = nearW a b c d x y) : U = nU a b c d x y ∧ V = nV a b c d x y := by
  obtain ⟨t1, t2, _, e⟩ := near_nums h1 h2
  rw [e] at h
  unfold rtV at h
  split at h
  · rename_i ht
    have h' := h
    simp only [Value.tuple.injEq] at h'
    have w1 := ww_sw ht.1
    have w2 := ww_sw ht.2
    have w3 := ww_sw t1
    have w4 := ww_sw t2
    generalize nU a b c d x y = u at *
    generalize nV a b c d x y = v at *
    simp [Rt] at h'
    obtain ⟨e1, e2, e3, e4, e5, e6, e7, e8⟩ := h'
    rw [e1, e2, e3, e4, w3] at w1
    rw [e5, e6, e7, e8, w4] at w2
    exact ⟨w1.symm, w2.symm⟩
  · simp at h
/-- A number that is told has at most eight digits. -/
theorem num_eight {w : World} {s : Bool} {ao : Option Addr} {n cap : Nat} {ds : List Int} {z : Int} {k : Nat} (h : IsNum w s ao n cap ds z k) (ht : told z = true) : IsNum w s ao n cap ds z 8 := by
  refine ⟨h.neg, h.len, h.cap, h.rd, h.nrm, h.val, ?_⟩
  have hv : val ds < pw 8 := by
    rw [h.val]
    unfold told at ht
    have ht := of_decide_eq_true ht
    have e : pw 8 = 115792089237316195423570985008687907853269984665640564039457584007913129639936 := by decide +kernel
    rw [e]
    omega
  have := nrm_length h.nrm 8 hv
  rw [h.len] at this
  exact this
end Go.Proofs.Ytjhmacpejfldoaa

/- Rows of segments: copied and held against one another; the law of what is at fault in them. -/
namespace Go.Proofs.Ytjhmacpejfldoaa
open Go.RowKit
theorem row_step {w w' : World} {g n : Nat} {T : TypeId} {f : Nat → Value} (h : w.rowIs g T n f) (hB : Below w.heap.size w w') : w'.rowIs g T n f := h.of_block (hB.block g h.lt)
end Go.Proofs.Ytjhmacpejfldoaa

/- Rows of segments: the law of what is at fault in them. -/
namespace Go.Proofs.Ytjhmacpejfldoaa
open Go.RowKit
end Go.Proofs.Ytjhmacpejfldoaa

/- Rows of numbers: how they lie; copied, held against one another. -/
namespace Go.Proofs.Ytjhmacpejfldoaa
open Go.RowKit
/-- n numbers lie behind a slice's address. -/
def NoIn (w : World) (ao : Option Addr) (n : Nat) (x : Nat → Int) : Prop :=
  ∀ i, i < n → ∃ A off, ao = some ⟨A, off, none⟩ ∧ A < w.heap.size ∧ w.cell? ⟨A, off + i, none⟩ = some (.int .i64 (x i))
theorem NoIn.step {w w' : World} {ao : Option Addr} {n : Nat} {x : Nat → Int} (h : NoIn w ao n x) (hB : Below w.heap.size w w') : NoIn w' ao n x := fun i hi => by
  obtain ⟨A, off, e, hA, hc⟩ := h i hi
  exact ⟨A, off, e, Nat.lt_of_lt_of_le hA hB.size, (hB.cell (p := ⟨A, off + i, none⟩) hA).trans hc⟩
end Go.Proofs.Ytjhmacpejfldoaa

/- Answers that own their rows of numbers: held against one another, marked, held again; a row of segments marked. -/
namespace Go.Proofs.Ytjhmacpejfldoaa
open Go.RowKit
/-- A slice of the call's own, with these numbers. -/
def NoOwn (w : World) (base : Nat) (v : Value) (L : List Int) : Prop :=
  (v = .slice none 0 0 ∧ L = []) ∨ ∃ g cap f, v = .slice (some ⟨g, 0, none⟩) L.length cap ∧ base ≤ g ∧ L.length ≤ cap ∧ w.rowIs g 2 cap f ∧ ∀ i, i < L.length → f i = .int .i64 (L.getD i 0)
theorem NoOwn.step {w w' : World} {base : Nat} {v : Value} {L : List Int} (h : NoOwn w base v L) (hB : Below w.heap.size w w') : NoOwn w' base v L := by
  rcases h with h | ⟨g, cap, f, h1, h2, h3, h4, h5⟩
  · exact .inl h
  · exact .inr ⟨g, cap, f, h1, h2, h3, row_step h4 hB, h5⟩
theorem NoOwn.of {w : World} {base : Nat} {v : Value} {L : List Int} (h : w.ownsRow base 2 1 v L.length (L.map (Value.int .i64))) : NoOwn w base v L := by
  rcases h.2 with ⟨h1, h2⟩ | ⟨g, cap, cur, h1, h2, h3, h4, h5, h6, h7⟩
  · exact .inl ⟨h1, List.length_eq_zero_iff.1 h2⟩
  · refine .inr ⟨g, cap, fun i => cur.getD i undef, h1, h2, h4, ⟨cur, h3, by omega, fun i hi => ?_⟩, fun i hi => ?_⟩
    · simp [Array.getD_eq_getD_getElem?, show i < cur.size by omega]
    · have e : (cur.toList.take (L.length * 1))[i]? = (L.map (Value.int .i64))[i]? := by rw [h7]
      rw [List.getElem?_take_of_lt (by omega), List.getElem?_map, List.getElem?_eq_getElem hi] at e
      simp only [Array.getElem?_toList, Option.map_some] at e
      show cur.getD i undef = _
      rw [Array.getD_eq_getD_getElem?, e]
      simp [List.getD_eq_getElem?_getD, hi]
/-- The slice's own parts, and that its numbers lie there. -/
theorem NoOwn.in {w : World} {base : Nat} {v : Value} {L : List Int} (h : NoOwn w base v L) : ∃ ao cap, v = .slice ao L.length cap ∧ NoIn w ao L.length (fun i => L.getD i 0) := by
  rcases h with ⟨h1, h2⟩ | ⟨g, cap, f, h1, h2, h3, h4, h5⟩
  · subst h2
    exact ⟨none, 0, h1, fun i hi => by simp at hi⟩
  · exact ⟨some ⟨g, 0, none⟩, cap, h1, fun i hi => ⟨g, 0, rfl, h4.lt, by rw [Nat.zero_add, h4.cell (by omega), h5 i hi]⟩⟩
/-- No block has turned but one of those that a base leaves free. -/
def OtherB (h : Option Nat) (w w' : World) : Prop :=
  (∀ g, some g ≠ h → g < w.heap.size → w'.heap[g]? = w.heap[g]?) ∧ w.heap.size ≤ w'.heap.size ∧ ∀ w0 : World, (∀ g, h = some g → w0.heap.size ≤ g) → Below w0.heap.size w0 w → Below w0.heap.size w0 w'
theorem OtherB.row {h : Option Nat} {w w' : World} (k : OtherB h w w') {g n : Nat} {T : TypeId} {f : Nat → Value} (hne : some g ≠ h) (r : w.rowIs g T n f) : w'.rowIs g T n f := r.of_block (k.1 g hne r.lt)
theorem OtherB.own {h : Option Nat} {w w' : World} (k : OtherB h w w') {base : Nat} {v : Value} {L : List Int} (r : NoOwn w base v L) (hne : ∀ g, v.ownBlock = some g → some g ≠ h) : NoOwn w' base v L := by
  rcases r with r | ⟨g, cap, f, h1, h2, h3, h4, h5⟩
  · exact .inl r
  · exact .inr ⟨g, cap, f, h1, h2, h3, k.row (hne g (by subst h1; rfl)) h4, h5⟩
theorem OtherB.blk {h : Option Nat} {w w' : World} (k : OtherB h w w') {g : Nat} {vs : List Value} (hne : some g ≠ h) (r : Blk w g vs) : Blk w' g vs := by
  refine ⟨Nat.lt_of_lt_of_le r.lt k.2.1, fun i v hi => ⟨?_, ?_⟩⟩
  · have := r.c i hi
    unfold World.cell? at this ⊢
    simp only [k.1 g hne r.lt]
    exact this
  · have := r.f i hi
    unfold World.frozen? at this ⊢
    simp only [k.1 g hne r.lt]
    exact this
theorem OtherB.refl (h : Option Nat) (w : World) : OtherB h w w := ⟨fun _ _ _ => rfl, Nat.le_refl _, fun _ _ H => H⟩
theorem OtherB.set {h : Nat} {w w' : World} (k : OtherB (some h) w w') (i : Nat) (v : Value) : OtherB (some h) w (w'.setCell ⟨h, i, none⟩ v) := by
  refine ⟨fun g hne hg => ?_, by simpa [World.setCell] using k.2.1, fun w0 hb H => (k.2.2 w0 hb H).setCell (by exact hb h rfl) _⟩
  rw [Below.heap_setCell _ _ _ _ (fun e => hne (congrArg some e))]
  exact k.1 g hne hg
theorem OtherB.step {h : Option Nat} {w w' w'' : World} (k : OtherB h w w') (hB : Below w'.heap.size w' w'') : OtherB h w w'' :=
  ⟨fun g hne hg => (hB.block g (Nat.lt_of_lt_of_le hg k.2.1)).trans (k.1 g hne hg), Nat.le_trans k.2.1 hB.size, fun w0 hb H => (k.2.2 w0 hb H).trans (hB.mono (k.2.2 w0 hb H).size)⟩
end Go.Proofs.Ytjhmacpejfldoaa

/- The turn of three spots: the walks. -/
namespace Go.Proofs.Ytjhmacpejfldoaa
open Go.RowKit
def In6 (x : Int) : Prop := -1000000 ≤ x ∧ x ≤ 1000000
end Go.Proofs.Ytjhmacpejfldoaa

/- The sides of a segment on which spots are: the walk of the program's loop. -/
namespace Go.Proofs.Ytjhmacpejfldoaa
open Go.RowKit
structure PartI (w wr : World) (g : Nat) (sg sl : List Value) : Prop where
  below : Below w.heap.size w wr
  seg : Blk wr w.heap.size sg
  row : Blk wr g sl
theorem PartI.step {w wr wr' : World} {g : Nat} {sg sl : List Value} (h : PartI w wr g sg sl) (hB : Below wr.heap.size wr wr') : PartI w wr' g sg sl := ⟨h.below.trans (hB.mono h.below.size), h.seg.step hB, h.row.step hB⟩
theorem PartI.alloc {w wr : World} {g : Nat} {sg sl : List Value} (h : PartI w wr g sg sl) (o : Obj) : PartI w (wr.alloc o) g sg sl := h.step ((Below.refl _ _).alloc (Nat.le_refl _) o)
end Go.Proofs.Ytjhmacpejfldoaa

/- Whether a segment meets a box: the walk of the model's part that is asked of right ones. -/
namespace Go.Proofs.Ytjhmacpejfldoaa
open Go.RowKit
end Go.Proofs.Ytjhmacpejfldoaa

/- Whether a segment meets a box: the walks of the program and of the model, and of the law. -/
namespace Go.Proofs.Ytjhmacpejfldoaa
open Go.RowKit
theorem in6_of_spot {x y : Int} (h : spotOk x y = true) : In6 x ∧ In6 y := by
  unfold spotOk at h
  simp at h
  exact ⟨⟨by omega, by omega⟩, ⟨by omega, by omega⟩⟩
theorem spots_of_seg {a b c d : Int} (h : segOk a b c d = true) : spotOk a b = true ∧ spotOk c d = true := by
  unfold segOk at h
  simp at h
  exact ⟨h.1.1, h.1.2⟩
end Go.Proofs.Ytjhmacpejfldoaa

/- Whether a segment meets a box: the walk of the program. -/
namespace Go.Proofs.Ytjhmacpejfldoaa
open Go.RowKit
end Go.Proofs.Ytjhmacpejfldoaa

/- Segments that meet a box, by their numbers: both sides. -/
namespace Go.Proofs.Ytjhmacpejfldoaa
open Go.RowKit
theorem sgI_zero {n : Nat} {x : Nat → Int} (h : sgI n x = 0) : n ≤ 40 ∧ ∀ i, i < n → segOk (x (i * 4)) (x (i * 4 + 1)) (x (i * 4 + 2)) (x (i * 4 + 3)) = true := by
  unfold sgI at h
  split at h
  · cases h
  · split at h
    · exact ⟨by omega, by assumption⟩
    · cases h
theorem NoOwn.mono {w : World} {b b' : Nat} {v : Value} {L : List Int} (h : NoOwn w b' v L) (hb : b ≤ b') : NoOwn w b v L := by
  rcases h with h | ⟨g, cap, f, h1, h2, h3⟩
  · exact .inl h
  · exact .inr ⟨g, cap, f, h1, by omega, h3⟩
set_option maxRecDepth 100000 in
theorem l7Ok_any (ao : Option Addr) (n cap : Nat) (x : Nat → Int) (w : World) (hS : SegIn w ao n x) : Calls Try.prog 25 #[.slice ao n cap] w (BoolP (decide (sgI n x = 0)) w) := by
  have C := specSegsFault_any ao n cap x w hS
  revert C
  generalize sgI n x = o
  intro C
  clear hS
  go_enter Try.func25, Try.ntmps25
  go_wp2_with fail
  refine C.mono ?_
  rintro e w1 ⟨rfl, hB⟩
  by_cases h : o = 0
  · subst h
    go_wp2
    go_ret
    exact ⟨rfl, hB⟩
  · have hf : (o == 0) = false := by simp; omega
    have HD : Hid (decide (o = 0) = false) := decide_eq_false h
    go_wp2
    go_ret
    exact ⟨by rw [HD.out]; rfl, hB⟩
end Go.Proofs.Ytjhmacpejfldoaa

/- The nearest of a row of segments: the model's side. -/
namespace Go.Proofs.Ytjhmacpejfldoaa
open Go.RowKit
/-- The square of the distance, of a right segment and a right spot, by its own two numbers of at most eight digits. -/
theorem l4Near2_nums {a b c d x y : Int} (h1 : segOk a b c d = true) (h2 : spotOk x y = true) (w : World) : Calls Try.prog 27 #[Sg a b c d, Sp x y] w (NumsP 8 (nU a b c d x y) (nV a b c d x y) w) := by
  obtain ⟨s1, s2⟩ := spots_of_seg h1
  refine (l4Near2_any a b c d x y (in6_of_spot s1).1 (in6_of_spot s1).2 (in6_of_spot s2).1 (in6_of_spot s2).2 (in6_of_spot h2).1 (in6_of_spot h2).2 w).mono ?_
  rintro e w' ⟨U, V, k, hk, hr, s1, o1, n1, c1, d1, s2, o2, n2, c2, d2, rfl, N1, N2, hB⟩
  obtain ⟨t1, t2, _, _⟩ := near_nums h1 h2
  obtain ⟨rfl, rfl⟩ := near_det h1 h2 hr
  exact ⟨s1, o1, n1, c1, d1, s2, o2, n2, c2, d2, rfl, num_eight N1 t1, num_eight N2 t2, hB⟩
/-- The two numbers of the segment of number i. -/
def uAt (x : Nat → Int) (p q : Int) (i : Nat) : Int := nU (x (i * 4)) (x (i * 4 + 1)) (x (i * 4 + 2)) (x (i * 4 + 3)) p q
def vAt (x : Nat → Int) (p q : Int) (i : Nat) : Int := nV (x (i * 4)) (x (i * 4 + 1)) (x (i * 4 + 2)) (x (i * 4 + 3)) p q
/-- Whether the segment of number i is nearer than that of number j. -/
def nearer (x : Nat → Int) (p q : Int) (i j : Nat) : Bool := decide (cmpI (uAt x p q i * vAt x p q j) (uAt x p q j * vAt x p q i) < 0)
/-- The nearest of those up to number c, of several the first. -/
def nsI (x : Nat → Int) (p q : Int) : Nat → Nat
  | 0 => 0
  | c + 1 => if nearer x p q (c + 1) (nsI x p q c) then c + 1 else nsI x p q c
theorem nsI_le (x : Nat → Int) (p q : Int) (c : Nat) : nsI x p q c ≤ c := by
  induction c with
  | zero => exact Nat.le_refl _
  | succ c ih => unfold nsI; split <;> omega
theorem nsI_on {x : Nat → Int} {p q : Int} {c : Nat} (h : nearer x p q (c + 1) (nsI x p q c) = true) : nsI x p q (c + 1) = c + 1 := by
  conv => lhs; unfold nsI
  rw [if_pos h]
theorem nsI_off {x : Nat → Int} {p q : Int} {c : Nat} (h : nearer x p q (c + 1) (nsI x p q c) = false) : nsI x p q (c + 1) = nsI x p q c := by
  conv => lhs; unfold nsI
  rw [if_neg (by simp [h])]
def nsOk (n : Nat) (x : Nat → Int) (p q : Int) : Bool := decide (sgI n x = 0) && spotOk p q && decide (0 < n)
/-- What is told. -/
def nsV (n : Nat) (x : Nat → Int) (p q : Int) : Value :=
  if nsOk n x p q then .tuple #[.int .i64 (nsI x p q (n - 1) : Nat), Rt (ww3 (uAt x p q (nsI x p q (n - 1)))) (ww2 (uAt x p q (nsI x p q (n - 1)))) (ww1 (uAt x p q (nsI x p q (n - 1)))) (ww0 (uAt x p q (nsI x p q (n - 1)))) (ww3 (vAt x p q (nsI x p q (n - 1)))) (ww2 (vAt x p q (nsI x p q (n - 1)))) (ww1 (vAt x p q (nsI x p q (n - 1)))) (ww0 (vAt x p q (nsI x p q (n - 1)))), .bool true]
  else .tuple #[.int .i64 0, Rt 0 0 0 0 0 0 0 0, .bool false]
theorem ns_start (x y : Int) (w : World) (T T' : TypeId) (L : List Value) : ArgsB w ((w.alloc (.cells #[.int .i64 x, .int .i64 y] T)).alloc (.cells L.toArray T')) [[.int .i64 x, .int .i64 y], L] := by
  refine ⟨((Below.refl _ _).alloc (Nat.le_refl _) _).alloc (by simp) _, fun j vs hj => ?_⟩
  match j, hj with
  | 0, hj => cases hj; exact (Blk.new w [.int .i64 x, .int .i64 y] T rfl).alloc _
  | 1, hj => cases hj; exact Blk.new (w.alloc (.cells #[.int .i64 x, .int .i64 y] T)) L T' (by simp)
  | j + 2, hj => simp at hj
/-- A fraction of two numbers that lies in a block of its own. -/
def FarIs (wr : World) (F : Nat) (X Y : Int) : Prop := ∃ (s1 : Bool) (o1 : Option Addr) (n1 c1 : Nat) (d1 : List Int) (s2 : Bool) (o2 : Option Addr) (n2 c2 : Nat) (d2 : List Int), Blk wr F [.bool s1, .slice o1 n1 c1, .bool s2, .slice o2 n2 c2] ∧ IsNum wr s1 o1 n1 c1 d1 X 8 ∧ IsNum wr s2 o2 n2 c2 d2 Y 8
theorem FarIs.step {wr w' : World} {F : Nat} {X Y : Int} (h : FarIs wr F X Y) (hB : Below wr.heap.size wr w') : FarIs w' F X Y := by
  obtain ⟨s1, o1, n1, c1, d1, s2, o2, n2, c2, d2, G, N1, N2⟩ := h
  exact ⟨s1, o1, n1, c1, d1, s2, o2, n2, c2, d2, G.step hB, N1.below hB, N2.below hB⟩
theorem far_put {w3 : World} {R : Nat} {t0 t1 : Bool} {a0 a1 : Option Addr} {m0 m1 k0 k1 : Nat} {s1 s2 : Bool} {o1 o2 : Option Addr} {n1 c1 n2 c2 : Nat} {d1 d2 : List Int} {X Y : Int} (G : Blk w3 R [.bool t0, .slice a0 m0 k0, .bool t1, .slice a1 m1 k1]) (h : IsNum w3 s1 o1 n1 c1 d1 X 8) (h' : IsNum w3 s2 o2 n2 c2 d2 Y 8) : FarIs ((((w3.setCell ⟨R, 0, none⟩ (.bool s1)).setCell ⟨R, 1, none⟩ (.slice o1 n1 c1)).setCell ⟨R, 2, none⟩ (.bool s2)).setCell ⟨R, 3, none⟩ (.slice o2 n2 c2)) R X Y := by
  have G1 := G.setI 0 (by simp) (.bool s1)
  have G2 := G1.setI 1 (by simp) (.slice o1 n1 c1)
  have G3 := G2.setI 2 (by simp) (.bool s2)
  refine ⟨s1, o1, n1, c1, d1, s2, o2, n2, c2, d2, G3.setI 3 (by simp) _, ?_, ?_⟩
  · exact (((h.set (G.c 0 rfl) (by simp) _).set (G1.c 1 rfl) (by simp) _).set (G2.c 2 rfl) (by simp) _).set (G3.c 3 rfl) (by simp) _
  · exact (((h'.set (G.c 0 rfl) (by simp) _).set (G1.c 1 rfl) (by simp) _).set (G2.c 2 rfl) (by simp) _).set (G3.c 3 rfl) (by simp) _
/-- Another fraction stays as it was where one is laid down. -/
theorem FarIs.put {w3 : World} {F R : Nat} {t0 t1 : Bool} {a0 a1 : Option Addr} {m0 m1 k0 k1 : Nat} {v0 v1 v2 v3 : Value} {X Y : Int} (h : FarIs w3 F X Y) (hne : F ≠ R) (G : Blk w3 R [.bool t0, .slice a0 m0 k0, .bool t1, .slice a1 m1 k1]) : FarIs ((((w3.setCell ⟨R, 0, none⟩ v0).setCell ⟨R, 1, none⟩ v1).setCell ⟨R, 2, none⟩ v2).setCell ⟨R, 3, none⟩ v3) F X Y := by
  obtain ⟨s1, o1, n1, c1, d1, s2, o2, n2, c2, d2, B, N1, N2⟩ := h
  have G1 := G.setI 0 (by simp) v0
  have G2 := G1.setI 1 (by simp) v1
  have G3 := G2.setI 2 (by simp) v2
  refine ⟨s1, o1, n1, c1, d1, s2, o2, n2, c2, d2, (((B.setO hne _).setO hne _).setO hne _).setO hne _, ?_, ?_⟩
  · exact (((N1.set (G.c 0 rfl) (by simp) _).set (G1.c 1 rfl) (by simp) _).set (G2.c 2 rfl) (by simp) _).set (G3.c 3 rfl) (by simp) _
  · exact (((N2.set (G.c 0 rfl) (by simp) _).set (G1.c 1 rfl) (by simp) _).set (G2.c 2 rfl) (by simp) _).set (G3.c 3 rfl) (by simp) _
theorem far_new {w3 : World} {s1 s2 : Bool} {o1 o2 : Option Addr} {n1 c1 n2 c2 : Nat} {d1 d2 : List Int} {X Y : Int} {T : TypeId} (h : IsNum w3 s1 o1 n1 c1 d1 X 8) (h' : IsNum w3 s2 o2 n2 c2 d2 Y 8) : FarIs (w3.alloc (.cells #[.bool s1, .slice o1 n1 c1, .bool s2, .slice o2 n2 c2] T)) w3.heap.size X Y :=
  ⟨s1, o1, n1, c1, d1, s2, o2, n2, c2, d2, Blk.new w3 [.bool s1, .slice o1 n1 c1, .bool s2, .slice o2 n2 c2] T rfl, h.alloc _, h'.alloc _⟩
/-- The arguments stay as they were where a fraction is laid down behind them. -/
theorem args_far {w W W' : World} {vss : List (List Value)} (h : ArgsB w W vss) (hB : Below (w.heap.size + vss.length) W W') : ArgsB w W' vss :=
  ⟨h.1.trans (hB.mono (by omega)), fun j vs hj => (h.2 j vs hj).below hB (by have := (List.getElem?_eq_some_iff.1 hj).1; omega)⟩
theorem nsI_on' {x : Nat → Int} {p q : Int} {k : Nat} (hk : 1 ≤ k) (h : nearer x p q k (nsI x p q (k - 1)) = true) : nsI x p q k = k := by
  obtain ⟨c, rfl⟩ : ∃ c, k = c + 1 := ⟨k - 1, by omega⟩
  exact nsI_on h
theorem nsI_off' {x : Nat → Int} {p q : Int} {k : Nat} (hk : 1 ≤ k) (h : nearer x p q k (nsI x p q (k - 1)) = false) : nsI x p q k = nsI x p q (k - 1) := by
  obtain ⟨c, rfl⟩ : ∃ c, k = c + 1 := ⟨k - 1, by omega⟩
  exact nsI_off h
end Go.Proofs.Ytjhmacpejfldoaa

/- The nearest of a row of segments: none is nearer, none ahead of it as near: the reckoning. -/
namespace Go.Proofs.Ytjhmacpejfldoaa
theorem cmp_neg {x y : Int} : cmpI x y < 0 ↔ x < y := by unfold cmpI; repeat' split <;> omega
theorem cmp_le0 {x y : Int} : cmpI x y ≤ 0 ↔ x ≤ y := by unfold cmpI; repeat' split <;> omega
theorem cmp_eq0 {x y : Int} : cmpI x y = 0 ↔ x = y := by unfold cmpI; repeat' split <;> omega
/-- Fractions by cross products: less, then at most, is less. -/
theorem fracL_trans {a b c d e f : Int} (hb : 0 < b) (hd : 0 < d) (hf : 0 < f) (h1 : a * d < c * b) (h2 : c * f ≤ e * d) : a * f < e * b := by
  have k1 : a * d * f < c * b * f := Int.mul_lt_mul_of_pos_right h1 hf
  have k2 : c * f * b ≤ e * d * b := Int.mul_le_mul_of_nonneg_right h2 (Int.le_of_lt hb)
  have e1 : a * d * f = (a * f) * d := by grind
  have e2 : c * b * f = c * f * b := by grind
  have e3 : e * d * b = (e * b) * d := by grind
  have k3 : (a * f) * d < (e * b) * d := by omega
  exact Int.lt_of_mul_lt_mul_right k3 (Int.le_of_lt hd)
theorem ns_least (x : Nat → Int) (p q : Int) (c : Nat) (hv : ∀ i, i ≤ c → 0 < vAt x p q i) : ∀ i, i ≤ c → uAt x p q (nsI x p q c) * vAt x p q i ≤ uAt x p q i * vAt x p q (nsI x p q c) ∧ (uAt x p q (nsI x p q c) * vAt x p q i = uAt x p q i * vAt x p q (nsI x p q c) → nsI x p q c ≤ i) := by
  induction c with
  | zero =>
    intro i hi
    obtain rfl : i = 0 := by omega
    exact ⟨Int.le_refl _, fun _ => Nat.le_refl _⟩
  | succ c ih =>
    have ih := ih (fun i hi => hv i (by omega))
    have hj := nsI_le x p q c
    intro i hi
    cases hn : nearer x p q (c + 1) (nsI x p q c)
    · rw [nsI_off hn]
      rcases Nat.lt_or_ge c i with h | h
      · obtain rfl : i = c + 1 := by omega
        unfold nearer at hn
        have h1 : ¬ uAt x p q (c + 1) * vAt x p q (nsI x p q c) < uAt x p q (nsI x p q c) * vAt x p q (c + 1) := by
          intro h2
          rw [decide_eq_true (cmp_neg.2 h2)] at hn
          cases hn
        exact ⟨by omega, fun _ => by omega⟩
      · exact ih i h
    · rw [nsI_on hn]
      unfold nearer at hn
      have h1 := cmp_neg.1 (of_decide_eq_true hn)
      rcases Nat.lt_or_ge c i with h | h
      · obtain rfl : i = c + 1 := by omega
        exact ⟨Int.le_refl _, fun _ => Nat.le_refl _⟩
      · have h2 := (ih i h).1
        have h3 := fracL_trans (hv (c + 1) (Nat.le_refl _)) (hv (nsI x p q c) (by omega)) (hv i hi) h1 h2
        exact ⟨Int.le_of_lt h3, fun h4 => by omega⟩
end Go.Proofs.Ytjhmacpejfldoaa

/- The square of the distance of a spot and a segment: the program's walk. -/
namespace Go.Proofs.Ytjhmacpejfldoaa
open Go.RowKit
theorem nt_cells {C m n : Int} {W : World} {gT gM : Nat} (BT : Blk W gT [.int .u64 (ww3 C), .int .u64 (ww2 C), .int .u64 (ww1 C), .int .u64 (ww0 C)]) (BM : Blk W gM [.int .i64 m, .int .i64 n]) : (fun w' => w'.cell? ⟨gT, 0, none⟩ = some (.int .u64 (ww3 C)) ∧ w'.cell? ⟨gT, 1, none⟩ = some (.int .u64 (ww2 C)) ∧ w'.cell? ⟨gT, 2, none⟩ = some (.int .u64 (ww1 C)) ∧ w'.cell? ⟨gT, 3, none⟩ = some (.int .u64 (ww0 C)) ∧ w'.cell? ⟨gM, 0, none⟩ = some (.int .i64 m) ∧ w'.cell? ⟨gM, 1, none⟩ = some (.int .i64 n)) W := ⟨BT.c 0 rfl, BT.c 1 rfl, BT.c 2 rfl, BT.c 3 rfl, BM.c 0 rfl, BM.c 1 rfl⟩
theorem nt_cells8 {C m n : Int} {W : World} {gT gM g : Nat} {v0 v1 v2 v3 v4 v5 v6 v7 : Value} (BT : Blk W gT [.int .u64 (ww3 C), .int .u64 (ww2 C), .int .u64 (ww1 C), .int .u64 (ww0 C)]) (BM : Blk W gM [.int .i64 m, .int .i64 n]) (hT : gT ≠ g) (hM : gM ≠ g) : (fun w' => w'.cell? ⟨gT, 0, none⟩ = some (.int .u64 (ww3 C)) ∧ w'.cell? ⟨gT, 1, none⟩ = some (.int .u64 (ww2 C)) ∧ w'.cell? ⟨gT, 2, none⟩ = some (.int .u64 (ww1 C)) ∧ w'.cell? ⟨gT, 3, none⟩ = some (.int .u64 (ww0 C)) ∧ w'.cell? ⟨gM, 0, none⟩ = some (.int .i64 m) ∧ w'.cell? ⟨gM, 1, none⟩ = some (.int .i64 n)) ((((((((W.setCell ⟨g, 0, none⟩ v0).setCell ⟨g, 1, none⟩ v1).setCell ⟨g, 2, none⟩ v2).setCell ⟨g, 3, none⟩ v3).setCell ⟨g, 4, none⟩ v4).setCell ⟨g, 5, none⟩ v5).setCell ⟨g, 6, none⟩ v6).setCell ⟨g, 7, none⟩ v7) := ⟨(BT.set8 hT).c 0 rfl, (BT.set8 hT).c 1 rfl, (BT.set8 hT).c 2 rfl, (BT.set8 hT).c 3 rfl, (BM.set8 hM).c 0 rfl, (BM.set8 hM).c 1 rfl⟩
set_option maxRecDepth 100000 in
set_option maxHeartbeats 8000000 in
theorem implNear2_det (a b c d x y : Int) (w : World) : Calls Try.prog 9 #[Sg a b c d, Sp x y] w (VP (nearV a b c d x y) w) := by
  have T0 : ArgsB w (((w.alloc (.cells #[.int .i64 a, .int .i64 b, .int .i64 c, .int .i64 d] 39)).alloc (.cells #[.int .i64 x, .int .i64 y] 26)).alloc (.cells #[.int .u64 0, .int .u64 0, .int .u64 0, .int .u64 0, .int .u64 0, .int .u64 0, .int .u64 0, .int .u64 0] 33)) [[.int .i64 a, .int .i64 b, .int .i64 c, .int .i64 d], [.int .i64 x, .int .i64 y], [.int .u64 0, .int .u64 0, .int .u64 0, .int .u64 0, .int .u64 0, .int .u64 0, .int .u64 0, .int .u64 0]] := ar3 _ _ _ _ _ _ w
  have SO := fun w => implSegOk_any a b c d _ rfl w
  have PO := fun w => implSpotOk_any x y _ rfl w
  go_enter Try.func9, Try.ntmps9
  go_wp2_with fail
  generalize (((w.alloc (.cells #[.int .i64 a, .int .i64 b, .int .i64 c, .int .i64 d] 39)).alloc (.cells #[.int .i64 x, .int .i64 y] 26)).alloc (.cells #[.int .u64 0, .int .u64 0, .int .u64 0, .int .u64 0, .int .u64 0, .int .u64 0, .int .u64 0, .int .u64 0] 33)) = WW at *
  refine (SO _).mono ?_
  rintro e w1 ⟨rfl, hB⟩
  replace T0 := T0.step hB
  clear hB
  by_cases hs : segOk a b c d = true
  · rw [hs]
    have Y0 : Blk _ (w.heap.size + 1) _ := T0.b 1 rfl; have q0 := Y0.c 0 rfl; have q1 := Y0.c 1 rfl; clear Y0
    go_wp2_with fail
    refine (PO _).mono ?_
    rintro e w2 ⟨rfl, hB⟩
    replace T0 := T0.step hB
    clear hB q0 q1
    by_cases hp : spotOk x y = true
    · rw [hp]
      have HW : Hid (nearV a b c d x y = nearW a b c d x y) := by show _ = _; unfold nearV; rw [hs, hp]; rfl
      obtain ⟨i1, i2, i3, i4⟩ := in6_seg hs
      obtain ⟨i5, i6⟩ := in1_spot hp
      have M1 := minusS_det c d a b i3 i4 i1 i2
      have M2 := minusS_det x y a b i5 i6 i1 i2
      have M3 := minusS_det x y c d i5 i6 i3 i4
      have hm2 : In2 (c - a) := ⟨by omega, by omega⟩
      have hn2 : In2 (d - b) := ⟨by omega, by omega⟩
      have hi2 : In2 (x - a) := ⟨by omega, by omega⟩
      have hj2 : In2 (y - b) := ⟨by omega, by omega⟩
      have hk2 : In2 (x - c) := ⟨by omega, by omega⟩
      have hl2 : In2 (y - d) := ⟨by omega, by omega⟩
      have HJ : Hid (nearW a b c d x y = if (x - a) * (c - a) + (y - b) * (d - b) ≤ 0 then ratV ((x - a) * (x - a) + (y - b) * (y - b)) 1 else if (x - c) * (c - a) + (y - d) * (d - b) ≥ 0 then ratV ((x - c) * (x - c) + (y - d) * (y - d)) 1 else ratV (((c - a) * (y - b) - (d - b) * (x - a)) * ((c - a) * (y - b) - (d - b) * (x - a))) ((c - a) * (c - a) + (d - b) * (d - b))) := rfl
      generalize hm : c - a = m at *
      generalize hn : d - b = n at *
      generalize hi : x - a = i at *
      generalize hj : y - b = j at *
      generalize hk : x - c = k at *
      generalize hl : y - d = l at *
      clear hm hn hi hj hk hl i1 i2 i3 i4 i5 i6 hs hp SO PO
      have D1 := dot_det i j m n hi2 hj2 hm2 hn2
      have D2 := dot_det i j i j hi2 hj2 hi2 hj2
      have D3 := dot_det k l m n hk2 hl2 hm2 hn2
      have D4 := dot_det k l k l hk2 hl2 hk2 hl2
      have D5 := cross_det m n i j hm2 hn2 hi2 hj2
      have D6 := dot_det m n m n hm2 hn2 hm2 hn2
      have b1 := prod2 hi2 hi2; have b2 := prod2 hj2 hj2; have b3 := prod2 hk2 hk2; have b4 := prod2 hl2 hl2; have b5 := prod2 hm2 hj2; have b6 := prod2 hn2 hi2; have b7 := prod2 hm2 hm2; have b8 := prod2 hn2 hn2
      clear hm2 hn2 hi2 hj2 hk2 hl2
      obtain ⟨z0, z1, z2, z3, z4, z5, z6, z7, f, hf⟩ := nearW_ex a b c d x y
      have HO : Hid (nearV a b c d x y = .tuple #[.agg #[.int .u64 z0, .int .u64 z1, .int .u64 z2, .int .u64 z3, .int .u64 z4, .int .u64 z5, .int .u64 z6, .int .u64 z7], .bool f]) := HW.out.trans hf
      rw [HJ.out] at hf
      clear HW HJ
      have Y1 : Blk _ w.heap.size _ := T0.b 0 rfl; have g0 := Y1.c 0 rfl; have g1 := Y1.c 1 rfl; have g2 := Y1.c 2 rfl; have g3 := Y1.c 3 rfl; clear Y1
      go_wp2_with fail
      refine (M1 _).mono ?_
      rintro e w3 ⟨rfl, hB⟩
      have hgM : w.heap.size + 2 < w3.heap.size := ((T0.step hB).b 2 rfl).lt
      replace T0 := (T0.step hB).alloc (.cells #[.int .i64 m, .int .i64 n] 26)
      have BM := Blk.new w3 [.int .i64 m, .int .i64 n] 26 rfl
      clear hB M1 g0 g1 g2 g3
      have tok1 : True := trivial
      go_upto_region 4 with fail
      generalize w3.alloc (.cells #[.int .i64 m, .int .i64 n] 26) = W3 at *
      generalize w3.heap.size = gM at *
      have hl0 := (T0.b 2 rfl).lt
      have hlM := BM.lt
      go_cut [7, 8] (fun p q wx => CutG w wx [[.int .i64 a, .int .i64 b, .int .i64 c, .int .i64 d], [.int .i64 x, .int .i64 y], [.int .u64 0, .int .u64 0, .int .u64 0, .int .u64 0, .int .u64 0, .int .u64 0, .int .u64 0, .int .u64 0]] [.int .i64 i, .int .i64 j] [.int .i64 k, .int .i64 l] p q ∧ Blk wx gM [.int .i64 m, .int .i64 n])
      case first =>
        go_region_held3 (fun w' => w'.cell? ⟨w.heap.size, 0, none⟩ = some (.int .i64 a) ∧ w'.cell? ⟨w.heap.size, 1, none⟩ = some (.int .i64 b) ∧ w'.cell? ⟨w.heap.size, 2, none⟩ = some (.int .i64 c) ∧ w'.cell? ⟨w.heap.size, 3, none⟩ = some (.int .i64 d) ∧ w'.cell? ⟨w.heap.size + 1, 0, none⟩ = some (.int .i64 x) ∧ w'.cell? ⟨w.heap.size + 1, 1, none⟩ = some (.int .i64 y)) ((refine nr_cells ?_ <;> repeat (first | (with_reducible exact T0) | (with_reducible refine ArgsB.drew ?_) | (with_reducible refine ArgsB.alloc ?_ _) | (with_reducible refine ArgsB.set2 ?_ (by simp; omega) _ _))))
          (first
            | (go_at_call 31; have _t := tok1; refine (M2 _).mono ?_; rintro e w4 ⟨rfl, hB⟩; (first | (have T1 : ArgsB w w4 [[.int .i64 a, .int .i64 b, .int .i64 c, .int .i64 d], [.int .i64 x, .int .i64 y], [.int .u64 0, .int .u64 0, .int .u64 0, .int .u64 0, .int .u64 0, .int .u64 0, .int .u64 0, .int .u64 0]] := (by with_reducible exact T0.step hB); have tltw4 := (T0.b 2 rfl).lt; have lBMw4 := BM.lt; replace BM := BM.step hB; (try (replace G0 := G0.step hB; have j0c := G0.c 0 rfl; have j0f := G0.f 0 rfl; have j1c := G0.c 1 rfl; have j1f := G0.f 1 rfl; have jlt := G0.lt)); (try (replace G1 := G1.step hB; have k0c := G1.c 0 rfl; have k0f := G1.f 0 rfl; have k1c := G1.c 1 rfl; have k1f := G1.f 1 rfl; have klt := G1.lt))) | (have T1 : ArgsB w w4 [[.int .i64 a, .int .i64 b, .int .i64 c, .int .i64 d], [.int .i64 x, .int .i64 y], [.int .u64 0, .int .u64 0, .int .u64 0, .int .u64 0, .int .u64 0, .int .u64 0, .int .u64 0, .int .u64 0]] := (by with_reducible exact T0.drew.step hB); have tltw4 := (T0.b 2 rfl).lt; have lBMw4 := BM.lt; replace BM := BM.drew.step hB; (try (replace G0 := G0.drew.step hB; have j0c := G0.c 0 rfl; have j0f := G0.f 0 rfl; have j1c := G0.c 1 rfl; have j1f := G0.f 1 rfl; have jlt := G0.lt)); (try (replace G1 := G1.drew.step hB; have k0c := G1.c 0 rfl; have k0f := G1.f 0 rfl; have k1c := G1.c 1 rfl; have k1f := G1.f 1 rfl; have klt := G1.lt))) | (have T1 : ArgsB w w4 [[.int .i64 a, .int .i64 b, .int .i64 c, .int .i64 d], [.int .i64 x, .int .i64 y], [.int .u64 0, .int .u64 0, .int .u64 0, .int .u64 0, .int .u64 0, .int .u64 0, .int .u64 0, .int .u64 0]] := (by with_reducible exact (T0.alloc _).step hB); have tltw4 := (T0.b 2 rfl).lt; have lBMw4 := BM.lt; replace BM := (BM.alloc _).step hB; (first | (have G1 := (Blk.new _ [.int .i64 0, .int .i64 0] _ rfl).step hB; have hgg := G0.lt; replace G0 := (G0.alloc _).step hB; have j0c := G0.c 0 rfl; have j0f := G0.f 0 rfl; have j1c := G0.c 1 rfl; have j1f := G0.f 1 rfl; have jlt := G0.lt; have k0c := G1.c 0 rfl; have k0f := G1.f 0 rfl; have k1c := G1.c 1 rfl; have k1f := G1.f 1 rfl; have klt := G1.lt) | (have G0 := (Blk.new _ [.int .i64 0, .int .i64 0] _ rfl).step hB; have j0c := G0.c 0 rfl; have j0f := G0.f 0 rfl; have j1c := G0.c 1 rfl; have j1f := G0.f 1 rfl; have jlt := G0.lt))) | (have T1 : ArgsB w w4 [[.int .i64 a, .int .i64 b, .int .i64 c, .int .i64 d], [.int .i64 x, .int .i64 y], [.int .u64 0, .int .u64 0, .int .u64 0, .int .u64 0, .int .u64 0, .int .u64 0, .int .u64 0, .int .u64 0]] := (by with_reducible exact (T0.alloc _).drew.step hB); have tltw4 := (T0.b 2 rfl).lt; have lBMw4 := BM.lt; replace BM := (BM.alloc _).drew.step hB; (first | (have G1 := (Blk.new _ [.int .i64 0, .int .i64 0] _ rfl).drew.step hB; have hgg := G0.lt; replace G0 := (G0.alloc _).drew.step hB; have j0c := G0.c 0 rfl; have j0f := G0.f 0 rfl; have j1c := G0.c 1 rfl; have j1f := G0.f 1 rfl; have jlt := G0.lt; have k0c := G1.c 0 rfl; have k0f := G1.f 0 rfl; have k1c := G1.c 1 rfl; have k1f := G1.f 1 rfl; have klt := G1.lt) | (have G0 := (Blk.new _ [.int .i64 0, .int .i64 0] _ rfl).drew.step hB; have j0c := G0.c 0 rfl; have j0f := G0.f 0 rfl; have j1c := G0.c 1 rfl; have j1f := G0.f 1 rfl; have jlt := G0.lt))) | (have T1 : ArgsB w w4 [[.int .i64 a, .int .i64 b, .int .i64 c, .int .i64 d], [.int .i64 x, .int .i64 y], [.int .u64 0, .int .u64 0, .int .u64 0, .int .u64 0, .int .u64 0, .int .u64 0, .int .u64 0, .int .u64 0]] := (by with_reducible exact ((T0.alloc _).alloc _).step hB); have tltw4 := (T0.b 2 rfl).lt; have lBMw4 := BM.lt; replace BM := ((BM.alloc _).alloc _).step hB; have G0 := ((Blk.new _ [.int .i64 0, .int .i64 0] _ rfl).alloc _).step hB; have G1 := (Blk.newS _ _ [.int .i64 0, .int .i64 0] _).step hB; have j0c := G0.c 0 rfl; have j0f := G0.f 0 rfl; have j1c := G0.c 1 rfl; have j1f := G0.f 1 rfl; have jlt := G0.lt; have k0c := G1.c 0 rfl; have k0f := G1.f 0 rfl; have k1c := G1.c 1 rfl; have k1f := G1.f 1 rfl; have klt := G1.lt) | (have T1 : ArgsB w w4 [[.int .i64 a, .int .i64 b, .int .i64 c, .int .i64 d], [.int .i64 x, .int .i64 y], [.int .u64 0, .int .u64 0, .int .u64 0, .int .u64 0, .int .u64 0, .int .u64 0, .int .u64 0, .int .u64 0]] := (by with_reducible exact ((T0.alloc _).alloc _).drew.step hB); have tltw4 := (T0.b 2 rfl).lt; have lBMw4 := BM.lt; replace BM := ((BM.alloc _).alloc _).drew.step hB; have G0 := ((Blk.new _ [.int .i64 0, .int .i64 0] _ rfl).alloc _).drew.step hB; have G1 := (Blk.newS _ _ [.int .i64 0, .int .i64 0] _).drew.step hB; have j0c := G0.c 0 rfl; have j0f := G0.f 0 rfl; have j1c := G0.c 1 rfl; have j1f := G0.f 1 rfl; have jlt := G0.lt; have k0c := G1.c 0 rfl; have k0f := G1.f 0 rfl; have k1c := G1.c 1 rfl; have k1f := G1.f 1 rfl; have klt := G1.lt)); clear T0; have T0 := T1; clear T1; clear hB tok1 _t)
            | (go_at_call 31; refine (M3 _).mono ?_; rintro e w5 ⟨rfl, hB⟩; (first | (have T1 : ArgsB w w5 [[.int .i64 a, .int .i64 b, .int .i64 c, .int .i64 d], [.int .i64 x, .int .i64 y], [.int .u64 0, .int .u64 0, .int .u64 0, .int .u64 0, .int .u64 0, .int .u64 0, .int .u64 0, .int .u64 0]] := (by with_reducible exact T0.step hB); have tltw5 := (T0.b 2 rfl).lt; have lBMw5 := BM.lt; replace BM := BM.step hB; (try (replace G0 := G0.step hB; have j0c := G0.c 0 rfl; have j0f := G0.f 0 rfl; have j1c := G0.c 1 rfl; have j1f := G0.f 1 rfl; have jlt := G0.lt)); (try (replace G1 := G1.step hB; have k0c := G1.c 0 rfl; have k0f := G1.f 0 rfl; have k1c := G1.c 1 rfl; have k1f := G1.f 1 rfl; have klt := G1.lt))) | (have T1 : ArgsB w w5 [[.int .i64 a, .int .i64 b, .int .i64 c, .int .i64 d], [.int .i64 x, .int .i64 y], [.int .u64 0, .int .u64 0, .int .u64 0, .int .u64 0, .int .u64 0, .int .u64 0, .int .u64 0, .int .u64 0]] := (by with_reducible exact T0.drew.step hB); have tltw5 := (T0.b 2 rfl).lt; have lBMw5 := BM.lt; replace BM := BM.drew.step hB; (try (replace G0 := G0.drew.step hB; have j0c := G0.c 0 rfl; have j0f := G0.f 0 rfl; have j1c := G0.c 1 rfl; have j1f := G0.f 1 rfl; have jlt := G0.lt)); (try (replace G1 := G1.drew.step hB; have k0c := G1.c 0 rfl; have k0f := G1.f 0 rfl; have k1c := G1.c 1 rfl; have k1f := G1.f 1 rfl; have klt := G1.lt))) | (have T1 : ArgsB w w5 [[.int .i64 a, .int .i64 b, .int .i64 c, .int .i64 d], [.int .i64 x, .int .i64 y], [.int .u64 0, .int .u64 0, .int .u64 0, .int .u64 0, .int .u64 0, .int .u64 0, .int .u64 0, .int .u64 0]] := (by with_reducible exact (T0.alloc _).step hB); have tltw5 := (T0.b 2 rfl).lt; have lBMw5 := BM.lt; replace BM := (BM.alloc _).step hB; (first | (have G1 := (Blk.new _ [.int .i64 0, .int .i64 0] _ rfl).step hB; have hgg := G0.lt; replace G0 := (G0.alloc _).step hB; have j0c := G0.c 0 rfl; have j0f := G0.f 0 rfl; have j1c := G0.c 1 rfl; have j1f := G0.f 1 rfl; have jlt := G0.lt; have k0c := G1.c 0 rfl; have k0f := G1.f 0 rfl; have k1c := G1.c 1 rfl; have k1f := G1.f 1 rfl; have klt := G1.lt) | (have G0 := (Blk.new _ [.int .i64 0, .int .i64 0] _ rfl).step hB; have j0c := G0.c 0 rfl; have j0f := G0.f 0 rfl; have j1c := G0.c 1 rfl; have j1f := G0.f 1 rfl; have jlt := G0.lt))) | (have T1 : ArgsB w w5 [[.int .i64 a, .int .i64 b, .int .i64 c, .int .i64 d], [.int .i64 x, .int .i64 y], [.int .u64 0, .int .u64 0, .int .u64 0, .int .u64 0, .int .u64 0, .int .u64 0, .int .u64 0, .int .u64 0]] := (by with_reducible exact (T0.alloc _).drew.step hB); have tltw5 := (T0.b 2 rfl).lt; have lBMw5 := BM.lt; replace BM := (BM.alloc _).drew.step hB; (first | (have G1 := (Blk.new _ [.int .i64 0, .int .i64 0] _ rfl).drew.step hB; have hgg := G0.lt; replace G0 := (G0.alloc _).drew.step hB; have j0c := G0.c 0 rfl; have j0f := G0.f 0 rfl; have j1c := G0.c 1 rfl; have j1f := G0.f 1 rfl; have jlt := G0.lt; have k0c := G1.c 0 rfl; have k0f := G1.f 0 rfl; have k1c := G1.c 1 rfl; have k1f := G1.f 1 rfl; have klt := G1.lt) | (have G0 := (Blk.new _ [.int .i64 0, .int .i64 0] _ rfl).drew.step hB; have j0c := G0.c 0 rfl; have j0f := G0.f 0 rfl; have j1c := G0.c 1 rfl; have j1f := G0.f 1 rfl; have jlt := G0.lt))) | (have T1 : ArgsB w w5 [[.int .i64 a, .int .i64 b, .int .i64 c, .int .i64 d], [.int .i64 x, .int .i64 y], [.int .u64 0, .int .u64 0, .int .u64 0, .int .u64 0, .int .u64 0, .int .u64 0, .int .u64 0, .int .u64 0]] := (by with_reducible exact ((T0.alloc _).alloc _).step hB); have tltw5 := (T0.b 2 rfl).lt; have lBMw5 := BM.lt; replace BM := ((BM.alloc _).alloc _).step hB; have G0 := ((Blk.new _ [.int .i64 0, .int .i64 0] _ rfl).alloc _).step hB; have G1 := (Blk.newS _ _ [.int .i64 0, .int .i64 0] _).step hB; have j0c := G0.c 0 rfl; have j0f := G0.f 0 rfl; have j1c := G0.c 1 rfl; have j1f := G0.f 1 rfl; have jlt := G0.lt; have k0c := G1.c 0 rfl; have k0f := G1.f 0 rfl; have k1c := G1.c 1 rfl; have k1f := G1.f 1 rfl; have klt := G1.lt) | (have T1 : ArgsB w w5 [[.int .i64 a, .int .i64 b, .int .i64 c, .int .i64 d], [.int .i64 x, .int .i64 y], [.int .u64 0, .int .u64 0, .int .u64 0, .int .u64 0, .int .u64 0, .int .u64 0, .int .u64 0, .int .u64 0]] := (by with_reducible exact ((T0.alloc _).alloc _).drew.step hB); have tltw5 := (T0.b 2 rfl).lt; have lBMw5 := BM.lt; replace BM := ((BM.alloc _).alloc _).drew.step hB; have G0 := ((Blk.new _ [.int .i64 0, .int .i64 0] _ rfl).alloc _).drew.step hB; have G1 := (Blk.newS _ _ [.int .i64 0, .int .i64 0] _).drew.step hB; have j0c := G0.c 0 rfl; have j0f := G0.f 0 rfl; have j1c := G0.c 1 rfl; have j1f := G0.f 1 rfl; have jlt := G0.lt; have k0c := G1.c 0 rfl; have k0f := G1.f 0 rfl; have k1c := G1.c 1 rfl; have k1f := G1.f 1 rfl; have klt := G1.lt)); clear T0; have T0 := T1; clear T1; clear hB))
        all_goals go_wp2_with fail
        all_goals go_meet
        all_goals have hl3 : w.heap.size + ([[.int .i64 a, .int .i64 b, .int .i64 c, .int .i64 d], [.int .i64 x, .int .i64 y], [.int .u64 0, .int .u64 0, .int .u64 0, .int .u64 0, .int .u64 0, .int .u64 0, .int .u64 0, .int .u64 0]] : List (List Value)).length ≤ w5.heap.size := (T0.b 2 rfl).lt
        all_goals have hlb := BM.lt
        all_goals first | (with_reducible exact ⟨cutG_nn T0 hl3, (BM.alloc _).alloc _⟩) | (with_reducible exact ⟨cutG_nn' T0 hl3, (BM.alloc _).alloc _⟩) | (with_reducible exact ⟨cutG_sn T0 G0 (by simp; omega) hl3, (BM.set2 (by omega)).alloc _⟩) | (with_reducible exact ⟨cutG_sn' T0 G0 (by simp; omega) hl3, (BM.set2 (by omega)).alloc _⟩) | (with_reducible exact ⟨cutG_ss T0 G0 G1 (by simp; omega) (by simp; omega) (by omega), (BM.set2 (by omega)).set2 (by omega)⟩) | (with_reducible exact ⟨cutG_ss T0 G1 G0 (by simp; omega) (by simp; omega) (by omega), (BM.set2 (by omega)).set2 (by omega)⟩)
      case rest =>
        clear T0 BM tok1 M2 M3 hl0 hlM
        obtain ⟨⟨gA, gB, hp, hq, hne, hgA, hgB, T0, BA, BB⟩, BM⟩ := hcut
        subst hp; subst hq
        have bm0 := BM.c 0 rfl; have bm1 := BM.c 1 rfl; have ba0 := BA.c 0 rfl; have ba1 := BA.c 1 rfl; have bb0 := BB.c 0 rfl; have bb1 := BB.c 1 rfl
        go_wp2_with fail
        refine (D1 _).mono ?_
        rintro e w6 ⟨rfl, hB⟩
        replace T0 := T0.step hB; replace BM := BM.step hB; replace BA := BA.step hB; replace BB := BB.step hB
        clear hB bm0 bm1 ba0 ba1 bb0 bb1
        have bm0 := BM.c 0 rfl; have bm1 := BM.c 1 rfl; have ba0 := BA.c 0 rfl; have ba1 := BA.c 1 rfl; have bb0 := BB.c 0 rfl; have bb1 := BB.c 1 rfl
        by_cases h1 : i * m + j * n ≤ 0
        · rw [if_pos h1] at hf
          have E1 := implOf_det (i * i + j * j)
          have E2 := implOf_det 1
          have E3 := implRatioOf_det (i * i + j * j) 1 (told_big (by omega)) (by decide)
          rw [hf] at E3
          generalize i * m + j * n = o1 at *
          obtain ⟨b1l, b1u⟩ : -8000000000000 ≤ i * i + j * j ∧ i * i + j * j ≤ 8000000000000 := by omega
          replace E1 := fun w => E1 w (by omega) (by omega)
          replace E2 := fun w => E2 w (by decide) (by decide)
          clear b1 b2 b3 b4 b5 b6 b7 b8 D1 D3 D4 D5 D6 hf
          generalize i * i + j * j = o2 at *
          go_wp2_with fail
          refine (D2 _).mono ?_
          rintro e w7 ⟨rfl, hB⟩
          replace T0 := T0.step hB; replace BM := BM.step hB; replace BA := BA.step hB; replace BB := BB.step hB
          clear hB bm0 bm1 ba0 ba1 bb0 bb1
          have bm0 := BM.c 0 rfl; have bm1 := BM.c 1 rfl; have ba0 := BA.c 0 rfl; have ba1 := BA.c 1 rfl; have bb0 := BB.c 0 rfl; have bb1 := BB.c 1 rfl
          go_wp2_with fail
          refine (E1 _).mono ?_
          rintro e w8 ⟨rfl, hB⟩
          replace T0 := T0.step hB; replace BM := BM.step hB; replace BA := BA.step hB; replace BB := BB.step hB
          clear hB bm0 bm1 ba0 ba1 bb0 bb1
          have bm0 := BM.c 0 rfl; have bm1 := BM.c 1 rfl; have ba0 := BA.c 0 rfl; have ba1 := BA.c 1 rfl; have bb0 := BB.c 0 rfl; have bb1 := BB.c 1 rfl
          go_wp2_with fail
          refine (E2 _).mono ?_
          rintro e w9 ⟨rfl, hB⟩
          replace T0 := T0.step hB; replace BM := BM.step hB; replace BA := BA.step hB; replace BB := BB.step hB
          clear hB bm0 bm1 ba0 ba1 bb0 bb1
          have bm0 := BM.c 0 rfl; have bm1 := BM.c 1 rfl; have ba0 := BA.c 0 rfl; have ba1 := BA.c 1 rfl; have bb0 := BB.c 0 rfl; have bb1 := BB.c 1 rfl
          go_wp2_with fail
          refine (E3 _).mono ?_
          rintro e w10 ⟨rfl, hB⟩
          replace T0 := T0.step hB
          have o0 := (T0.b 2 rfl).c 0 rfl; have r0 := (T0.b 2 rfl).f 0 rfl; have o1 := (T0.b 2 rfl).c 1 rfl; have r1 := (T0.b 2 rfl).f 1 rfl; have o2 := (T0.b 2 rfl).c 2 rfl; have r2 := (T0.b 2 rfl).f 2 rfl; have o3 := (T0.b 2 rfl).c 3 rfl; have r3 := (T0.b 2 rfl).f 3 rfl; have o4 := (T0.b 2 rfl).c 4 rfl; have r4 := (T0.b 2 rfl).f 4 rfl; have o5 := (T0.b 2 rfl).c 5 rfl; have r5 := (T0.b 2 rfl).f 5 rfl; have o6 := (T0.b 2 rfl).c 6 rfl; have r6 := (T0.b 2 rfl).f 6 rfl; have o7 := (T0.b 2 rfl).c 7 rfl; have r7 := (T0.b 2 rfl).f 7 rfl; have olt := (T0.b 2 rfl).lt
          have HB := T0.below
          clear hB T0 BM BA BB bm0 bm1 ba0 ba1 bb0 bb1
          go_wp2
          refine bodyPost_ret (v := .tuple #[.agg #[.int .u64 z0, .int .u64 z1, .int .u64 z2, .int .u64 z3, .int .u64 z4, .int .u64 z5, .int .u64 z6, .int .u64 z7], .bool f]) (by simp [results, Try.results9, go_sem, o0, o1, o2, o3, o4, o5, o6, o7]) rfl ?_
          refine ⟨by rw [HO.out], ?_⟩
          repeat' (refine Below.setCell ?_ (by simp; try omega) _)
          exact HB
        · rw [if_neg h1] at hf
          generalize i * m + j * n = o1 at *
          go_wp2_with fail
          refine (D3 _).mono ?_
          rintro e w7 ⟨rfl, hB⟩
          replace T0 := T0.step hB; replace BM := BM.step hB; replace BA := BA.step hB; replace BB := BB.step hB
          clear hB bm0 bm1 ba0 ba1 bb0 bb1
          have bm0 := BM.c 0 rfl; have bm1 := BM.c 1 rfl; have ba0 := BA.c 0 rfl; have ba1 := BA.c 1 rfl; have bb0 := BB.c 0 rfl; have bb1 := BB.c 1 rfl
          by_cases h2 : k * m + l * n ≥ 0
          · rw [if_pos h2] at hf
            have E1 := implOf_det (k * k + l * l)
            have E2 := implOf_det 1
            have E3 := implRatioOf_det (k * k + l * l) 1 (told_big (by omega)) (by decide)
            rw [hf] at E3
            generalize k * m + l * n = o3 at *
            obtain ⟨b1l, b1u⟩ : -8000000000000 ≤ k * k + l * l ∧ k * k + l * l ≤ 8000000000000 := by omega
            replace E1 := fun w => E1 w (by omega) (by omega)
            replace E2 := fun w => E2 w (by decide) (by decide)
            clear b1 b2 b3 b4 b5 b6 b7 b8 D1 D3 D2 D5 D6 hf
            generalize k * k + l * l = o2 at *
            go_wp2_with fail
            refine (D4 _).mono ?_
            rintro e w8 ⟨rfl, hB⟩
            replace T0 := T0.step hB; replace BM := BM.step hB; replace BA := BA.step hB; replace BB := BB.step hB
            clear hB bm0 bm1 ba0 ba1 bb0 bb1
            have bm0 := BM.c 0 rfl; have bm1 := BM.c 1 rfl; have ba0 := BA.c 0 rfl; have ba1 := BA.c 1 rfl; have bb0 := BB.c 0 rfl; have bb1 := BB.c 1 rfl
            go_wp2_with fail
            refine (E1 _).mono ?_
            rintro e w9 ⟨rfl, hB⟩
            replace T0 := T0.step hB; replace BM := BM.step hB; replace BA := BA.step hB; replace BB := BB.step hB
            clear hB bm0 bm1 ba0 ba1 bb0 bb1
            have bm0 := BM.c 0 rfl; have bm1 := BM.c 1 rfl; have ba0 := BA.c 0 rfl; have ba1 := BA.c 1 rfl; have bb0 := BB.c 0 rfl; have bb1 := BB.c 1 rfl
            go_wp2_with fail
            refine (E2 _).mono ?_
            rintro e w10 ⟨rfl, hB⟩
            replace T0 := T0.step hB; replace BM := BM.step hB; replace BA := BA.step hB; replace BB := BB.step hB
            clear hB bm0 bm1 ba0 ba1 bb0 bb1
            have bm0 := BM.c 0 rfl; have bm1 := BM.c 1 rfl; have ba0 := BA.c 0 rfl; have ba1 := BA.c 1 rfl; have bb0 := BB.c 0 rfl; have bb1 := BB.c 1 rfl
            go_wp2_with fail
            refine (E3 _).mono ?_
            rintro e w11 ⟨rfl, hB⟩
            replace T0 := T0.step hB
            have o0 := (T0.b 2 rfl).c 0 rfl; have r0 := (T0.b 2 rfl).f 0 rfl; have o1 := (T0.b 2 rfl).c 1 rfl; have r1 := (T0.b 2 rfl).f 1 rfl; have o2 := (T0.b 2 rfl).c 2 rfl; have r2 := (T0.b 2 rfl).f 2 rfl; have o3 := (T0.b 2 rfl).c 3 rfl; have r3 := (T0.b 2 rfl).f 3 rfl; have o4 := (T0.b 2 rfl).c 4 rfl; have r4 := (T0.b 2 rfl).f 4 rfl; have o5 := (T0.b 2 rfl).c 5 rfl; have r5 := (T0.b 2 rfl).f 5 rfl; have o6 := (T0.b 2 rfl).c 6 rfl; have r6 := (T0.b 2 rfl).f 6 rfl; have o7 := (T0.b 2 rfl).c 7 rfl; have r7 := (T0.b 2 rfl).f 7 rfl; have olt := (T0.b 2 rfl).lt
            have HB := T0.below
            clear hB T0 BM BA BB bm0 bm1 ba0 ba1 bb0 bb1
            go_wp2
            refine bodyPost_ret (v := .tuple #[.agg #[.int .u64 z0, .int .u64 z1, .int .u64 z2, .int .u64 z3, .int .u64 z4, .int .u64 z5, .int .u64 z6, .int .u64 z7], .bool f]) (by simp [results, Try.results9, go_sem, o0, o1, o2, o3, o4, o5, o6, o7]) rfl ?_
            refine ⟨by rw [HO.out], ?_⟩
            repeat' (refine Below.setCell ?_ (by simp; try omega) _)
            exact HB
          · rw [if_neg h2] at hf
            generalize k * m + l * n = o3 at *
            obtain ⟨c1l, c1u⟩ : -8000000000000 ≤ m * j - n * i ∧ m * j - n * i ≤ 8000000000000 := by omega
            obtain ⟨c2l, c2u⟩ : -8000000000000 ≤ m * m + n * n ∧ m * m + n * n ≤ 8000000000000 := by omega
            clear b1 b2 b3 b4 b5 b6 b7 b8 D1 D2 D3 D4
            generalize m * j - n * i = C at *
            generalize m * m + n * n = G at *
            have c3 := mul_in (p := C) (q := C) (M := 8000000000000) (N := 8000000000000) c1l c1u c1l c1u
            have E1 := fun w => implOf_det C w (by omega) (by omega)
            have E2 := fun w => implOf_det G w (by omega) (by omega)
            have E3 := times_det C C (told_big (by omega)) (told_big (by omega))
            have E4 := toldI_det (C * C) (told_big (by omega))
            have E5 := implRatioOf_det (C * C) G (told_big (by omega)) (told_big (by omega))
            rw [hf] at E5
            clear hf c1l c1u c2l c2u c3
            generalize C * C = CC at *
            go_wp2_with fail
            refine (D5 _).mono ?_
            rintro e w8 ⟨rfl, hB⟩
            replace T0 := T0.step hB; replace BM := BM.step hB; replace BA := BA.step hB; replace BB := BB.step hB
            clear hB bm0 bm1 ba0 ba1 bb0 bb1
            have bm0 := BM.c 0 rfl; have bm1 := BM.c 1 rfl; have ba0 := BA.c 0 rfl; have ba1 := BA.c 1 rfl; have bb0 := BB.c 0 rfl; have bb1 := BB.c 1 rfl
            go_wp2_with fail
            refine (E1 _).mono ?_
            rintro e w9 ⟨rfl, hB⟩
            have hgT : w.heap.size + 2 < w9.heap.size := ((T0.step hB).b 2 rfl).lt
            replace T0 := (T0.step hB).alloc (.cells #[.int .u64 (ww3 C), .int .u64 (ww2 C), .int .u64 (ww1 C), .int .u64 (ww0 C)] 31)
            replace BM := (BM.step hB).alloc (.cells #[.int .u64 (ww3 C), .int .u64 (ww2 C), .int .u64 (ww1 C), .int .u64 (ww0 C)] 31)
            have BT := Blk.new w9 [.int .u64 (ww3 C), .int .u64 (ww2 C), .int .u64 (ww1 C), .int .u64 (ww0 C)] 31 rfl
            clear hB BA BB bm0 bm1 ba0 ba1 bb0 bb1 E1
            go_upto_region 10 with fail
            generalize w9.alloc (.cells #[.int .u64 (ww3 C), .int .u64 (ww2 C), .int .u64 (ww1 C), .int .u64 (ww0 C)] 31) = W9 at *
            generalize w9.heap.size = gT at *
            go_region_held3 (fun w' => w'.cell? ⟨gT, 0, none⟩ = some (.int .u64 (ww3 C)) ∧ w'.cell? ⟨gT, 1, none⟩ = some (.int .u64 (ww2 C)) ∧ w'.cell? ⟨gT, 2, none⟩ = some (.int .u64 (ww1 C)) ∧ w'.cell? ⟨gT, 3, none⟩ = some (.int .u64 (ww0 C)) ∧ w'.cell? ⟨gM, 0, none⟩ = some (.int .i64 m) ∧ w'.cell? ⟨gM, 1, none⟩ = some (.int .i64 n)) (first | (with_reducible exact nt_cells BT BM) | (with_reducible exact nt_cells BT.drew BM.drew) | (with_reducible exact nt_cells8 BT BM (by omega) (by omega)))
              (first
                | (go_at_call 37; refine (E3 _).mono ?_; rintro e k1 ⟨rfl, hB⟩; (first | (replace BT := BT.step hB; replace BM := BM.step hB; replace T0 := T0.step hB) | (replace BT := BT.drew.step hB; replace BM := BM.drew.step hB; replace T0 := T0.drew.step hB)); clear hB)
                | (go_at_call 36; refine (E4 _).mono ?_; rintro e k2 ⟨rfl, hB⟩; (first | (replace BT := BT.step hB; replace BM := BM.step hB; replace T0 := T0.step hB) | (replace BT := BT.drew.step hB; replace BM := BM.drew.step hB; replace T0 := T0.drew.step hB)); clear hB)
                | (go_at_call 32; refine (D6 _).mono ?_; rintro e k3 ⟨rfl, hB⟩; (first | (replace BT := BT.step hB; replace BM := BM.step hB; replace T0 := T0.step hB) | (replace BT := BT.drew.step hB; replace BM := BM.drew.step hB; replace T0 := T0.drew.step hB)); clear hB)
                | (go_at_call 34; refine (E2 _).mono ?_; rintro e k4 ⟨rfl, hB⟩; (first | (replace BT := BT.step hB; replace BM := BM.step hB; replace T0 := T0.step hB) | (replace BT := BT.drew.step hB; replace BM := BM.drew.step hB; replace T0 := T0.drew.step hB)); clear hB)
                | (go_at_call 33; refine (E5 _).mono ?_; rintro e k5 ⟨rfl, hB⟩; (first | (replace BT := BT.step hB; replace BM := BM.step hB; replace T0 := T0.step hB) | (replace BT := BT.drew.step hB; replace BM := BM.drew.step hB; replace T0 := T0.drew.step hB)); clear hB; have o0 := (T0.b 2 rfl).c 0 rfl; have r0 := (T0.b 2 rfl).f 0 rfl; have o1 := (T0.b 2 rfl).c 1 rfl; have r1 := (T0.b 2 rfl).f 1 rfl; have o2 := (T0.b 2 rfl).c 2 rfl; have r2 := (T0.b 2 rfl).f 2 rfl; have o3 := (T0.b 2 rfl).c 3 rfl; have r3 := (T0.b 2 rfl).f 3 rfl; have o4 := (T0.b 2 rfl).c 4 rfl; have r4 := (T0.b 2 rfl).f 4 rfl; have o5 := (T0.b 2 rfl).c 5 rfl; have r5 := (T0.b 2 rfl).f 5 rfl; have o6 := (T0.b 2 rfl).c 6 rfl; have r6 := (T0.b 2 rfl).f 6 rfl; have o7 := (T0.b 2 rfl).c 7 rfl; have r7 := (T0.b 2 rfl).f 7 rfl; have olt := (T0.b 2 rfl).lt))
            all_goals have HB := T0.below
            all_goals clear BM BT T0
            all_goals go_wp2
            all_goals refine bodyPost_ret (v := .tuple #[.agg #[.int .u64 z0, .int .u64 z1, .int .u64 z2, .int .u64 z3, .int .u64 z4, .int .u64 z5, .int .u64 z6, .int .u64 z7], .bool f]) (by simp [results, Try.results9, go_sem, o0, o1, o2, o3, o4, o5, o6, o7]) rfl ?_
            all_goals refine ⟨by rw [HO.out], ?_⟩
            all_goals repeat' (refine Below.setCell ?_ (by simp; try omega) _)
            all_goals first | exact HB | exact HB.drew
    · replace hp := Bool.eq_false_iff.2 hp
      rw [hp]
      have HO : Hid (nearV a b c d x y = .tuple #[.agg #[.int .u64 0, .int .u64 0, .int .u64 0, .int .u64 0, .int .u64 0, .int .u64 0, .int .u64 0, .int .u64 0], .bool false]) := by show _ = _; unfold nearV; rw [hp]; simp
      have o0 := (T0.b 2 rfl).c 0 rfl; have r0 := (T0.b 2 rfl).f 0 rfl; have o1 := (T0.b 2 rfl).c 1 rfl; have r1 := (T0.b 2 rfl).f 1 rfl; have o2 := (T0.b 2 rfl).c 2 rfl; have r2 := (T0.b 2 rfl).f 2 rfl; have o3 := (T0.b 2 rfl).c 3 rfl; have r3 := (T0.b 2 rfl).f 3 rfl; have o4 := (T0.b 2 rfl).c 4 rfl; have r4 := (T0.b 2 rfl).f 4 rfl; have o5 := (T0.b 2 rfl).c 5 rfl; have r5 := (T0.b 2 rfl).f 5 rfl; have o6 := (T0.b 2 rfl).c 6 rfl; have r6 := (T0.b 2 rfl).f 6 rfl; have o7 := (T0.b 2 rfl).c 7 rfl; have r7 := (T0.b 2 rfl).f 7 rfl; have olt := (T0.b 2 rfl).lt
      have HB := T0.below
      clear T0
      go_wp2
      refine bodyPost_ret (v := .tuple #[.agg #[.int .u64 0, .int .u64 0, .int .u64 0, .int .u64 0, .int .u64 0, .int .u64 0, .int .u64 0, .int .u64 0], .bool false]) (by simp [results, Try.results9, go_sem, o0, o1, o2, o3, o4, o5, o6, o7]) rfl ?_
      refine ⟨by rw [HO.out], ?_⟩
      repeat' (refine Below.setCell ?_ (by simp; try omega) _)
      exact HB
  · replace hs := Bool.eq_false_iff.2 hs
    rw [hs]
    have HO : Hid (nearV a b c d x y = .tuple #[.agg #[.int .u64 0, .int .u64 0, .int .u64 0, .int .u64 0, .int .u64 0, .int .u64 0, .int .u64 0, .int .u64 0], .bool false]) := by show _ = _; unfold nearV; rw [hs]; simp
    have o0 := (T0.b 2 rfl).c 0 rfl; have r0 := (T0.b 2 rfl).f 0 rfl; have o1 := (T0.b 2 rfl).c 1 rfl; have r1 := (T0.b 2 rfl).f 1 rfl; have o2 := (T0.b 2 rfl).c 2 rfl; have r2 := (T0.b 2 rfl).f 2 rfl; have o3 := (T0.b 2 rfl).c 3 rfl; have r3 := (T0.b 2 rfl).f 3 rfl; have o4 := (T0.b 2 rfl).c 4 rfl; have r4 := (T0.b 2 rfl).f 4 rfl; have o5 := (T0.b 2 rfl).c 5 rfl; have r5 := (T0.b 2 rfl).f 5 rfl; have o6 := (T0.b 2 rfl).c 6 rfl; have r6 := (T0.b 2 rfl).f 6 rfl; have o7 := (T0.b 2 rfl).c 7 rfl; have r7 := (T0.b 2 rfl).f 7 rfl; have olt := (T0.b 2 rfl).lt
    have HB := T0.below
    clear T0
    go_wp2
    refine bodyPost_ret (v := .tuple #[.agg #[.int .u64 0, .int .u64 0, .int .u64 0, .int .u64 0, .int .u64 0, .int .u64 0, .int .u64 0, .int .u64 0], .bool false]) (by simp [results, Try.results9, go_sem, o0, o1, o2, o3, o4, o5, o6, o7]) rfl ?_
    refine ⟨by rw [HO.out], ?_⟩
    repeat' (refine Below.setCell ?_ (by simp; try omega) _)
    exact HB
end Go.Proofs.Ytjhmacpejfldoaa

/- The nearest of a row: what the law's loop is told of each segment. -/
namespace Go.Proofs.Ytjhmacpejfldoaa
open Go.RowKit
theorem nsOk_parts {n : Nat} {x : Nat → Int} {p q : Int} (h : nsOk n x p q = true) : 0 < n ∧ n ≤ 40 ∧ spotOk p q = true ∧ ∀ i, i < n → segOk (x (i * 4)) (x (i * 4 + 1)) (x (i * 4 + 2)) (x (i * 4 + 3)) = true := by
  unfold nsOk at h
  simp only [Bool.and_eq_true, decide_eq_true_eq] at h
  obtain ⟨⟨h1, h2⟩, h3⟩ := h
  obtain ⟨h4, h5⟩ := sgI_zero h1
  exact ⟨h3, h4, h2, h5⟩
/-- The two numbers of each of a right row. -/
theorem near_at {n : Nat} {x : Nat → Int} {p q : Int} (h : nsOk n x p q = true) {i : Nat} (hi : i < n) : told (uAt x p q i) = true ∧ told (vAt x p q i) = true ∧ 0 < vAt x p q i ∧ rightB (uAt x p q i) (vAt x p q i) = true ∧ nearV (x (i * 4)) (x (i * 4 + 1)) (x (i * 4 + 2)) (x (i * 4 + 3)) p q = .tuple #[.agg #[.int .u64 (ww3 (uAt x p q i)), .int .u64 (ww2 (uAt x p q i)), .int .u64 (ww1 (uAt x p q i)), .int .u64 (ww0 (uAt x p q i)), .int .u64 (ww3 (vAt x p q i)), .int .u64 (ww2 (vAt x p q i)), .int .u64 (ww1 (vAt x p q i)), .int .u64 (ww0 (vAt x p q i))], .bool true] := by
  obtain ⟨_, _, hs, hg⟩ := nsOk_parts h
  obtain ⟨t1, t2, t3, t4⟩ := near_nums (hg i hi) hs
  obtain ⟨_, _, b3, _⟩ := nr_bounds (hg i hi) hs
  obtain ⟨_, _, _, _, hr⟩ := low_parts (n := nrX (x (i * 4)) (x (i * 4 + 1)) (x (i * 4 + 2)) (x (i * 4 + 3)) p q) b3
  refine ⟨t1, t2, t3, hr, ?_⟩
  unfold nearV
  rw [hg i hi, hs]
  exact t4
/-- Two of them held against one another. -/
theorem cmp_at {n : Nat} {x : Nat → Int} {p q : Int} (h : nsOk n x p q = true) {k i : Nat} (hk : k < n) (hi : i < n) (w : World) : Calls Try.prog 10 #[.agg #[.int .u64 (ww3 (uAt x p q k)), .int .u64 (ww2 (uAt x p q k)), .int .u64 (ww1 (uAt x p q k)), .int .u64 (ww0 (uAt x p q k)), .int .u64 (ww3 (vAt x p q k)), .int .u64 (ww2 (vAt x p q k)), .int .u64 (ww1 (vAt x p q k)), .int .u64 (ww0 (vAt x p q k))], .agg #[.int .u64 (ww3 (uAt x p q i)), .int .u64 (ww2 (uAt x p q i)), .int .u64 (ww1 (uAt x p q i)), .int .u64 (ww0 (uAt x p q i)), .int .u64 (ww3 (vAt x p q i)), .int .u64 (ww2 (vAt x p q i)), .int .u64 (ww1 (vAt x p q i)), .int .u64 (ww0 (vAt x p q i))]] w (VP (.tuple #[.int .i64 (cmpI (uAt x p q k * vAt x p q i) (uAt x p q i * vAt x p q k)), .bool true]) w) := by
  obtain ⟨t1, t2, t3, r1, _⟩ := near_at h hk
  obtain ⟨t4, t5, t6, r2, _⟩ := near_at h hi
  obtain ⟨a3, a2, a1, a0⟩ := ww_words (uAt x p q k)
  obtain ⟨b3, b2, b1, b0⟩ := ww_words (vAt x p q k)
  obtain ⟨c3, c2, c1, c0⟩ := ww_words (uAt x p q i)
  obtain ⟨d3, d2, d1, d0⟩ := ww_words (vAt x p q i)
  have H := implRatioCmp_any _ _ _ _ _ _ _ _ _ _ _ _ _ _ _ _ a3 a2 a1 a0 b3 b2 b1 b0 c3 c2 c1 c0 d3 d2 d1 d0 w
  rw [ww_sw t1, ww_sw t2, ww_sw t4, ww_sw t5, ratCmp_yes r1 r2] at H
  exact H.mono fun e w' hh => hh
/-- What the law asks of each. -/
theorem ns_round {n : Nat} {x : Nat → Int} {p q : Int} (h : nsOk n x p q = true) {i : Nat} (hi : i < n) : ¬ 0 < cmpI (uAt x p q (nsI x p q (n - 1)) * vAt x p q i) (uAt x p q i * vAt x p q (nsI x p q (n - 1))) ∧ (cmpI (uAt x p q (nsI x p q (n - 1)) * vAt x p q i) (uAt x p q i * vAt x p q (nsI x p q (n - 1))) = 0 → ¬ (i : Int) < (nsI x p q (n - 1) : Nat)) := by
  have hl := ns_least x p q (n - 1) (fun j hj => (near_at h (i := j) (by omega)).2.2.1) i (by omega)
  constructor
  · intro h1
    have := cmp_le0.2 hl.1
    omega
  · intro h1 h2
    have := hl.2 (cmp_eq0.1 h1)
    omega
theorem ns_lt {n : Nat} {x : Nat → Int} {p q : Int} (h : nsOk n x p q = true) : nsI x p q (n - 1) < n := by
  have := nsI_le x p q (n - 1)
  have := (nsOk_parts h).1
  omega
/-- What is told, by two numbers. -/
theorem nsV_told (n : Nat) (x : Nat → Int) (p q : Int) : ∃ (k U V : Int) (f : Bool), nsV n x p q = .tuple #[.int .i64 k, .agg #[.int .u64 (ww3 U), .int .u64 (ww2 U), .int .u64 (ww1 U), .int .u64 (ww0 U), .int .u64 (ww3 V), .int .u64 (ww2 V), .int .u64 (ww1 V), .int .u64 (ww0 V)], .bool f] ∧ told U = true ∧ told V = true ∧ (f = true → nsOk n x p q = true ∧ k = (nsI x p q (n - 1) : Nat) ∧ U = uAt x p q (nsI x p q (n - 1)) ∧ V = vAt x p q (nsI x p q (n - 1))) := by
  by_cases h : nsOk n x p q = true
  · obtain ⟨t1, t2, _⟩ := near_at h (ns_lt h)
    refine ⟨(nsI x p q (n - 1) : Nat), uAt x p q (nsI x p q (n - 1)), vAt x p q (nsI x p q (n - 1)), true, ?_, t1, t2, fun _ => ⟨h, rfl, rfl, rfl⟩⟩
    unfold nsV
    rw [if_pos h]
  · refine ⟨0, 0, 0, false, ?_, by decide, by decide, fun h' => by cases h'⟩
    unfold nsV
    rw [if_neg h]
    rfl
theorem eqRtU (n d : Int) (hn : told n = true) (hd : told d = true) (w : World) : (Op.equalIn 10000 33 (.agg #[.int .u64 (ww3 n), .int .u64 (ww2 n), .int .u64 (ww1 n), .int .u64 (ww0 n), .int .u64 (ww3 d), .int .u64 (ww2 d), .int .u64 (ww1 d), .int .u64 (ww0 d)]) (.agg #[.int .u64 (ww3 n), .int .u64 (ww2 n), .int .u64 (ww1 n), .int .u64 (ww0 n), .int .u64 (ww3 d), .int .u64 (ww2 d), .int .u64 (ww1 d), .int .u64 (ww0 d)])).run Try.prog w = .ok true w := eqRV n d hn hd w
end Go.Proofs.Ytjhmacpejfldoaa
