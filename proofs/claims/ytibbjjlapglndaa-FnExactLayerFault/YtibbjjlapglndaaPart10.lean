/- Part 10 of the walks that the proof leans on. -/
import Derived.Test.YtibbjjlapglndaaPart9
import Derived.Test.YtibbjjlapglndaaPart3
import Derived.SizedLaws
import Derived.Deep.Slices
import Derived.Test.YtibbjjlapglndaaRows
import Derived.ProofKit
import Derived.Lib.SmallJoins
/- Whether two rings meet: the program's walk. -/
namespace Go.Proofs.Ytibbjjlapglndaa
open Go.RowKit Go.Shelf
attribute [local go_sem] Oper.semAt_some
set_option maxRecDepth 100000 in
set_option maxHeartbeats 8000000 in
theorem meets_any (ao bo : Option Addr) (n cap m cap2 : Nat) (p q : Ps) (hn3 : 3 ≤ n) (hn : n ≤ 12) (hok : ∀ i, i < n → spotOk (p i).1 (p i).2 = true) (hone : OneN n p) (hm3 : 3 ≤ m) (hm : m ≤ 12) (hokq : ∀ i, i < m → spotOk (q i).1 (q i).2 = true) (honeq : OneN m q) (w : World) (hS : SpIn w ao n p) (hSq : SpIn w bo m q) : Calls Try.prog 33 #[.agg #[.slice ao n cap], .agg #[.slice bo m cap2]] w (VP (.bool (rmB n p m q)) w) := by
  refine (callsIn_wide (n := 12)).1 ?_
  refine callsIn_of_wp_marks Try.func33 rfl trivial ?_ rfl
  simp only [Try.ntmps33, List.size_toArray, List.length_cons, List.length_nil, Nat.reduceAdd, Nat.reduceSub, Array.replicate_succ, Array.replicate_zero, List.push_toArray, List.append_toArray, List.nil_append, List.cons_append]
  gi_wp2_with (refine ⟨trivial, ?_⟩; gi_at_call 46; refine (callsIn_wide.2 (sides_any _ _ _ _)).mono ?_; rintro e w' ⟨rfl, rfl⟩)
  have bA := (((Boxed.new w 45 (.slice ao n cap)).alloc (.cells #[.slice bo m cap2] 45)).alloc (.cells #[.bool false] 4)).alloc (.cells #[.slice ao n cap] 45)
  have bQ := ((Boxed.new (w.alloc (.cells #[.slice ao n cap] 45)) 45 (.slice bo m cap2)).alloc (.cells #[.bool false] 4)).alloc (.cells #[.slice ao n cap] 45)
  have bR := (Boxed.new ((w.alloc (.cells #[.slice ao n cap] 45)).alloc (.cells #[.slice bo m cap2] 45)) 4 (.bool false)).alloc (.cells #[.slice ao n cap] 45)
  have bN := Boxed.new (((w.alloc (.cells #[.slice ao n cap] 45)).alloc (.cells #[.slice bo m cap2] 45)).alloc (.cells #[.bool false] 4)) 45 (.slice ao n cap)
  simp only [World.size_alloc] at bQ bR bN
  have hB0 : Below w.heap.size w ((((w.alloc (.cells #[.slice ao n cap] 45)).alloc (.cells #[.slice bo m cap2] 45)).alloc (.cells #[.bool false] 4)).alloc (.cells #[.slice ao n cap] 45)) := ((((Below.refl _ w).alloc (Nat.le_refl _) _).alloc (by simp) _).alloc (by simp; omega) _).alloc (by simp; omega) _
  have hsz : ((((w.alloc (.cells #[.slice ao n cap] 45)).alloc (.cells #[.slice bo m cap2] 45)).alloc (.cells #[.bool false] 4)).alloc (.cells #[.slice ao n cap] 45)).heap.size = w.heap.size + 4 := by simp
  obtain ⟨W0, hW0⟩ : ∃ W0, ((((w.alloc (.cells #[.slice ao n cap] 45)).alloc (.cells #[.slice bo m cap2] 45)).alloc (.cells #[.bool false] 4)).alloc (.cells #[.slice ao n cap] 45)) = W0 := ⟨_, rfl⟩
  rw [hW0] at bA bQ bR bN hB0 hsz ⊢
  clear hW0
  have hS0 : SpB w.heap.size W0 ao n p := (hS.low).keep (fun k hk => hB0.block k hk)
  have hS1 : SpB w.heap.size W0 bo m q := (hSq.low).keep (fun k hk => hB0.block k hk)
  refine wpIn_rangeFunc_ownH rfl (by omega) (gf := 59) (lb := #[.pointer (some ⟨w.heap.size + 1 + 1 + 1, 0, none⟩)]) rfl trivial (enters_of Try.func59 (by kernel_rfl) rfl)
    (sides_stops (12 - 1) w.heap.size (w.heap.size + 1 + 1 + 1) ao n cap p hn3 hn hok hone W0 (by omega) (by omega) bN.cell hS0) (fun h k => h.trans k) (KpB.put (by omega) (by omega)) (Below.refl _ _) (fun _ => rfl)
    (fun pre W => (∀ i ∈ pre, ∀ k, k < m → kdX n p m q i.1 k = 0) ∧ Below W0.heap.size W0 W)
    (fun c pre W => ((c = .ret ∧ ∃ i ∈ pre, ∃ k, k < m ∧ kdX n p m q i.1 k ≠ 0) ∧ Boxed W (w.heap.size + 1 + 1) 4 (.bool true)) ∧ Below w.heap.size w W)
    (OwnFrom.and (ownFrom_pure _ _) (ownFrom_below (Nat.le_refl _) (Nat.le_refl _)))
    (fun c => OwnFrom.and (OwnFrom.and (ownFrom_pure _ _) (Own.from (boxed_own _ _ _) _)) (ownFrom_below (Nat.le_refl _) (by omega)))
    ⟨by simp, Below.refl _ _⟩
    (fun x a' W => ∃ Bs, BoxV W Bs 63 [.int .i64 (sdA n p x.1).1, .int .i64 (sdA n p x.1).2.1, .int .i64 (sdA n p x.1).2.2.1, .int .i64 (sdA n p x.1).2.2.2] ∧ a' = { tmps := #[.agg #[.slice ao n cap], .agg #[.slice bo m cap2], .pointer (some ⟨w.heap.size, 0, none⟩), .pointer (some ⟨w.heap.size + 1, 0, none⟩), .pointer (some ⟨w.heap.size + 1 + 1, 0, none⟩), undef, .pointer (some ⟨Bs, 0, none⟩), undef, undef, undef, undef, undef, .agg #[.slice ao n cap], .func (.func 59) #[] #[.pointer (some ⟨w.heap.size + 1 + 1 + 1, 0, none⟩)], .int .i64 (x.1 : Int), Sg (sdA n p x.1).1 (sdA n p x.1).2.1 (sdA n p x.1).2.2.1 (sdA n p x.1).2.2.2, undef, undef, undef, undef, undef, undef, undef, undef, undef, undef, undef, undef, undef], defers := [] })
    (fun x a' _ X Y row hs hg hr => by obtain ⟨Bs, e4, e5⟩ := hs; exact ⟨Bs, boxV_own Bs 63 (fun (_ : Unit) => [.int .i64 (sdA n p x.1).1, .int .i64 (sdA n p x.1).2.1, .int .i64 (sdA n p x.1).2.2.1, .int .i64 (sdA n p x.1).2.2.2]) () X Y row e4 hg (fun r e => (hr r e).2), e5⟩)
    ?assign ?body ?done ?stop
  case assign =>
    rintro l pre x W K ⟨hp, hB1⟩ hK
    unfold enS
    gi_wp2
    have hB2 : Below W.heap.size W (W.alloc (.cells #[.int .i64 (sdA n p x.1).1, .int .i64 (sdA n p x.1).2.1, .int .i64 (sdA n p x.1).2.2.1, .int .i64 (sdA n p x.1).2.2.2] 63)) := (Below.refl _ W).alloc (Nat.le_refl _) _
    have hsW := hB1.size
    have b2 := BoxV.new W 63 [.int .i64 (sdA n p x.1).1, .int .i64 (sdA n p x.1).2.1, .int .i64 (sdA n p x.1).2.2.1, .int .i64 (sdA n p x.1).2.2.2]
    exact hK _ _ (below_keeps hB2) (KpB.of hB2 (by omega) (by omega)) ⟨hp, hB1.trans (hB2.mono hB1.size)⟩ ⟨_, b2, rfl⟩
  case body =>
    rintro l pre x a' W hl ⟨r, hr⟩ ⟨hp, hB1⟩ ⟨Bs, bS, rfl⟩ hlt
    have bQ1 := boxed_step bQ hB1
    have cQ := bQ1.cell
    have h1' : 1 ≤ 12 - 1 - 1 := by omega
    gi_wp2_with (refine ⟨trivial, ?_⟩; gi_at_call 46; refine (CallsIn.inRound l (callsIn_wide.2 (sides_any _ _ _ _))).mono ?_; rintro e w' ⟨rfl, rfl⟩)
    have hsW := hB1.size
    have bN1 := Boxed.new W 45 (.slice bo m cap2)
    have hr' : (W.alloc (.cells #[.slice bo m cap2] 45)).heap[l]? = some (.loop r) := (Below.heap_alloc W _ l (Array.getElem?_eq_some_iff.1 hr).1).trans hr
    have hBR : Below W.heap.size W (W.alloc (.cells #[.slice bo m cap2] 45)) := (Below.refl _ W).alloc (Nat.le_refl _) _
    have hSW : SpB w.heap.size (W.alloc (.cells #[.slice bo m cap2] 45)) bo m q := hS1.keep (fun k hk => (hBR.block k (by omega)).trans (hB1.block k (by omega)))
    have hbR := boxed_step bR hB1
    have hxn := x.2
    have hs1 : (W.alloc (.cells #[.slice bo m cap2] 45)).heap.size = W.heap.size + 1 := by simp
    obtain ⟨W1, hW1⟩ : ∃ W1, W.alloc (.cells #[.slice bo m cap2] 45) = W1 := ⟨_, rfl⟩
    rw [hW1] at bN1 hr' hBR hSW hs1 ⊢
    clear hW1
    refine wpIn_rangeFunc_ownN (l₀ := l) (r₀ := r) rfl hr' h1' (gf := 59) (lb := #[.pointer (some ⟨W.heap.size, 0, none⟩)]) rfl trivial (enters_of Try.func59 (by kernel_rfl) rfl)
      ((sides_stops (12 - 1 - 1 - 1) w.heap.size W.heap.size bo m cap2 q hm3 hm hokq honeq W1 (by omega) (by omega) bN1.cell hSW).inRound l) (fun h k => h.trans k) (KpB.put (by omega) (by omega)) (Below.refl _ _) (fun _ => rfl)
      (fun pre' W' => (∀ y ∈ pre', kdX n p m q x.1 y.1 = 0) ∧ Below W1.heap.size W1 W')
      (fun c pre' W' => ((c = .ret ∧ ∃ y ∈ pre', kdX n p m q x.1 y.1 ≠ 0) ∧ Boxed W' (w.heap.size + 1 + 1) 4 (.bool true)) ∧ Below w.heap.size W W' ∧ KeepsFrom W0.heap.size W W')
      (OwnFrom.and (ownFrom_pure _ _) (ownFrom_below (Nat.le_refl _) (Nat.le_refl _)))
      (fun c => OwnFrom.and (OwnFrom.and (ownFrom_pure _ _) (Own.from (boxed_own _ _ _) _)) (OwnFrom.and (ownFrom_below (by omega) (by omega)) (ownFrom_keepsFrom (by omega))))
      ⟨by simp, Below.refl _ _⟩
      (fun y a'' W' => ∃ Bt, BoxV W' Bt 63 [.int .i64 (sdA m q y.1).1, .int .i64 (sdA m q y.1).2.1, .int .i64 (sdA m q y.1).2.2.1, .int .i64 (sdA m q y.1).2.2.2] ∧ a'' = { tmps := #[.agg #[.slice ao n cap], .agg #[.slice bo m cap2], .pointer (some ⟨w.heap.size, 0, none⟩), .pointer (some ⟨w.heap.size + 1, 0, none⟩), .pointer (some ⟨w.heap.size + 1 + 1, 0, none⟩), undef, .pointer (some ⟨Bs, 0, none⟩), undef, .pointer (some ⟨Bt, 0, none⟩), undef, undef, undef, .agg #[.slice ao n cap], .func (.func 59) #[] #[.pointer (some ⟨w.heap.size + 1 + 1 + 1, 0, none⟩)], .int .i64 (x.1 : Int), Sg (sdA n p x.1).1 (sdA n p x.1).2.1 (sdA n p x.1).2.2.1 (sdA n p x.1).2.2.2, .agg #[.slice bo m cap2], .func (.func 59) #[] #[.pointer (some ⟨W.heap.size, 0, none⟩)], .int .i64 (y.1 : Int), Sg (sdA m q y.1).1 (sdA m q y.1).2.1 (sdA m q y.1).2.2.1 (sdA m q y.1).2.2.2, undef, undef, undef, undef, undef, undef, undef, undef, undef], defers := [] })
      (fun y a'' _ X Y row hs hg hrw => by obtain ⟨Bt, e4, e5⟩ := hs; exact ⟨Bt, boxV_own Bt 63 (fun (_ : Unit) => [.int .i64 (sdA m q y.1).1, .int .i64 (sdA m q y.1).2.1, .int .i64 (sdA m q y.1).2.2.1, .int .i64 (sdA m q y.1).2.2.2]) () X Y row e4 hg (fun r e => (hrw r e).2), e5⟩)
      ?assign2 ?body2 ?done2 ?stop2
    case assign2 =>
      rintro l2 pre' y W' K ⟨hq, hBW⟩ hK
      unfold enS
      gi_wp2
      have hB2 : Below W'.heap.size W' (W'.alloc (.cells #[.int .i64 (sdA m q y.1).1, .int .i64 (sdA m q y.1).2.1, .int .i64 (sdA m q y.1).2.2.1, .int .i64 (sdA m q y.1).2.2.2] 63)) := (Below.refl _ W').alloc (Nat.le_refl _) _
      have hsW2 := hBW.size
      have b2 := BoxV.new W' 63 [.int .i64 (sdA m q y.1).1, .int .i64 (sdA m q y.1).2.1, .int .i64 (sdA m q y.1).2.2.1, .int .i64 (sdA m q y.1).2.2.2]
      exact hK _ _ (below_keeps hB2) (KpB.of hB2 (by omega) (by omega)) ⟨hq, hBW.trans (hB2.mono hBW.size)⟩ ⟨_, b2, rfl⟩
    case body2 =>
      rintro l2 pre' y a'' W' _ _ ⟨hq, hBW⟩ ⟨Bt, bT, rfl⟩ _
      have hBX : Below W.heap.size W W' := hBR.trans (hBW.mono hBR.size)
      have bS2 := (bS.step hBX).blk
      have bT2 := bT.blk
      have bR2 := boxed_step hbR hBX
      have s0' := bS2.c 0 rfl; have s1' := bS2.c 1 rfl; have s2' := bS2.c 2 rfl; have s3' := bS2.c 3 rfl
      have t0' := bT2.c 0 rfl; have t1' := bT2.c 1 rfl; have t2' := bT2.c 2 rfl; have t3' := bT2.c 3 rfl
      have hsX := hBW.size
      obtain ⟨i1, i2, i3, i4⟩ := in1_seg (side_ok hok hone hn3 x.2)
      obtain ⟨j1, j2, j3, j4⟩ := in1_seg (side_ok hokq honeq hm3 y.2)
      obtain ⟨r0, r1, r2, r3, r4, r5, r6, r7, r8, r9, r10, r11, s0, s1, s2, s3, s4, s5, s6, s7, s8, s9, s10, s11, hW12⟩ := meetW_12 (sdA n p x.1).1 (sdA n p x.1).2.1 (sdA n p x.1).2.2.1 (sdA n p x.1).2.2.2 (sdA m q y.1).1 (sdA m q y.1).2.1 (sdA m q y.1).2.2.1 (sdA m q y.1).2.2.2
      have MT := meet_det (sdA n p x.1).1 (sdA n p x.1).2.1 (sdA n p x.1).2.2.1 (sdA n p x.1).2.2.2 (sdA m q y.1).1 (sdA m q y.1).2.1 (sdA m q y.1).2.2.1 (sdA m q y.1).2.2.2 i1 i2 i3 i4 j1 j2 j3 j4
      rw [hW12] at MT
      have hkd : kndZ (sdA n p x.1).1 (sdA n p x.1).2.1 (sdA n p x.1).2.2.1 (sdA n p x.1).2.2.2 (sdA m q y.1).1 (sdA m q y.1).2.1 (sdA m q y.1).2.2.1 (sdA m q y.1).2.2.2 = kdX n p m q x.1 y.1 := rfl
      rw [hkd] at MT
      clear i1 i2 i3 i4 j1 j2 j3 j4 hW12 hkd
      generalize hzk : kdX n p m q x.1 y.1 = zk at *
      by_cases hz0 : zk = 0
      · have e1 : (zk != 0) = false := by simp [hz0]
        gi_wp2_with (refine ⟨trivial, ?_⟩; gi_at_call 47; refine (CallsIn.inRound l2 (CallsIn.inRound l (callsIn_wide.2 (MT _)))).mono ?_; rintro e v1 ⟨rfl, hBm⟩)
        have hBN : Below W'.heap.size W' ((v1.alloc (.cells #[.int .u64 r0, .int .u64 r1, .int .u64 r2, .int .u64 r3, .int .u64 r4, .int .u64 r5, .int .u64 r6, .int .u64 r7, .int .u64 r8, .int .u64 r9, .int .u64 r10, .int .u64 r11] 86)).alloc (.cells #[.int .u64 s0, .int .u64 s1, .int .u64 s2, .int .u64 s3, .int .u64 s4, .int .u64 s5, .int .u64 s6, .int .u64 s7, .int .u64 s8, .int .u64 s9, .int .u64 s10, .int .u64 s11] 86)) := (hBm.alloc hBm.size _).alloc (Nat.le_trans hBm.size (by simp)) _
        refine ⟨below_keeps hBN, KpB.of hBN (by omega) (by omega), fun z hz => ?_, hBW.trans (hBN.mono hBW.size)⟩
        rcases List.mem_append.1 hz with h | h
        · exact hq z h
        · simp at h
          subst h
          rw [hzk, hz0]
      · have e1 : (zk != 0) = true := by simp [hz0]
        gi_wp2_with (refine ⟨trivial, ?_⟩; gi_at_call 47; refine (CallsIn.inRound l2 (CallsIn.inRound l (callsIn_wide.2 (MT _)))).mono ?_; rintro e v1 ⟨rfl, hBm⟩; have hBN : Below W'.heap.size W' ((v1.alloc (.cells #[.int .u64 r0, .int .u64 r1, .int .u64 r2, .int .u64 r3, .int .u64 r4, .int .u64 r5, .int .u64 r6, .int .u64 r7, .int .u64 r8, .int .u64 r9, .int .u64 r10, .int .u64 r11] 86)).alloc (.cells #[.int .u64 s0, .int .u64 s1, .int .u64 s2, .int .u64 s3, .int .u64 s4, .int .u64 s5, .int .u64 s6, .int .u64 s7, .int .u64 s8, .int .u64 s9, .int .u64 s10, .int .u64 s11] 86)) := (hBm.alloc hBm.size _).alloc (Nat.le_trans hBm.size (by simp)) _; have bR3 := boxed_step bR2 hBN; have cR3 := bR3.cell; have fR3 := bR3.frozen)
        have hXN := hBX.trans (hBN.mono hBX.size)
        exact ⟨(below_keeps hBN).trans ((KeepsOthers.setCell _ _ _).from _), ⟨⟨⟨rfl, y, List.mem_append.2 (.inr (by simp)), by rw [hzk]; exact hz0⟩, bR3.set _⟩, (hXN.mono (show w.heap.size ≤ W.heap.size by omega)).setCell (p := ⟨w.heap.size + 1 + 1, 0, none⟩) (by simp; omega) _, (below_keeps hXN).trans ((KeepsOthers.setCell _ _ _).from _)⟩⟩
    case done2 =>
      rintro ys' W' rfl ⟨hq, hBW⟩
      have hBX : Below W.heap.size W W' := hBR.trans (hBW.mono hBR.size)
      gi_wp2
      refine ⟨below_keeps hBX, KpB.of hBX (by omega) (by omega), fun i hi => ?_, hB1.trans (hBX.mono hB1.size)⟩
      rcases List.mem_append.1 hi with h | h
      · exact hp i h
      · simp at h
        subst h
        exact fun k hk => hq ⟨k, hk⟩ (List.mem_finRange _)
    case stop2 =>
      rintro c pre' W' hpre ⟨⟨⟨rfl, y, hy, hk⟩, bR2⟩, hBW, hKF⟩
      gi_wp2
      exact ⟨hKF, ⟨⟨rfl, x, List.mem_append.2 (.inr (by simp)), y.1, y.2, hk⟩, bR2⟩, (hB0.trans (hB1.mono (by omega))).trans hBW⟩
  case done =>
    rintro D zs W hD rfl ⟨hp, hB1⟩ hK
    have bR1 := boxed_step bR hB1
    have cR := bR1.cell
    have fR := bR1.frozen
    gi_wp2
    have hK' := (KeepsOthers.setCell W ⟨w.heap.size + 1 + 1, 0, none⟩ (.bool false)).same D _ hK rfl
    refine ⟨by simp, .inl ⟨_, _, rfl, run_takeDeferred hK', ?_⟩⟩
    have hc5 := cell_kept (bR1.set (.bool false)).cell (grownBy_putObj' _ D (.deferred none)) (fun r e => by cases e; exact ⟨_, hK', rfl⟩)
    have hBW : Below w.heap.size w W := hB0.trans (hB1.mono (by omega))
    refine ⟨.bool false, ?_, by unfold rmB; rw [decide_eq_false (fun h => h (fun i hi k hk => hp ⟨i, hi⟩ (List.mem_finRange _) k hk))], (hBW.setCell (p := ⟨w.heap.size + 1 + 1, 0, none⟩) (by simp; omega) _).trans (belowK_b (w := w) (Nat.le_refl _) _ D _ _ (by omega) hK' rfl rfl)⟩
    simp [results, Try.results33, go_sem, hc5]
  case stop =>
    rintro D c pre W hD hpre ⟨⟨⟨rfl, i, hi, k, hk, hbd⟩, bR1⟩, hB1⟩ hK
    have cR := bR1.cell
    gi_wp2
    refine ⟨by simp, .inl ⟨_, _, rfl, run_takeDeferred hK, ?_⟩⟩
    have hc5 := cell_kept bR1.cell (grownBy_putObj' _ D (.deferred none)) (fun r e => by cases e; exact ⟨_, hK, rfl⟩)
    have hd : rmB n p m q = true := decide_eq_true (fun h => hbd (h i.1 i.2 k hk))
    refine ⟨.bool true, ?_, by rw [hd], hB1.trans (belowK_b (w := w) (Nat.le_refl _) _ D _ _ (by omega) hK rfl rfl)⟩
    simp [results, Try.results33, go_sem, hc5]
end Go.Proofs.Ytibbjjlapglndaa

/- What is at fault in a layer: the reckoning, and the program's walk. -/
namespace Go.Proofs.Ytibbjjlapglndaa
open Go.RowKit
/-- How many spots the first rings have together. -/
def sumR (L : Nat → Nat) : Nat → Nat
  | 0 => 0
  | i + 1 => sumR L i + L i
theorem sumR_le {L : Nat → Nat} {n : Nat} (hL : ∀ i, i < n → L i ≤ 1048576) : ∀ c, c ≤ n → sumR L c ≤ c * 1048576
  | 0, _ => by simp [sumR]
  | c + 1, h => by
    have := sumR_le hL c (by omega)
    have := hL c (by omega)
    rw [sumR]
    omega
/-- The first place at which something holds. -/
def firstP (P : Nat → Bool) (n : Nat) : Option Nat := (List.range n).find? P
theorem firstP_some {P : Nat → Bool} {n c : Nat} (hc : c < n) (h : P c = true) (ha : ∀ j, j < c → P j = false) : firstP P n = some c := by
  unfold firstP
  rw [List.find?_range_eq_some]
  exact ⟨h, by simpa using hc, fun j hj => by simp [ha j hj]⟩
theorem firstP_none {P : Nat → Bool} {n : Nat} (ha : ∀ j, j < n → P j = false) : firstP P n = none := by
  unfold firstP
  rw [List.find?_eq_none]
  intro x hx
  rw [ha x (by simpa using hx)]
  simp
/-- Whether the ring at a place meets one ahead of it. -/
def mtA (L : Nat → Nat) (q : Nat → Ps) (i : Nat) : Bool := (List.range i).any fun k => rmB (L i) (q i) (L k) (q k)
theorem mtA_true {L : Nat → Nat} {q : Nat → Ps} {i k : Nat} (hk : k < i) (h : rmB (L i) (q i) (L k) (q k) = true) : mtA L q i = true := List.any_eq_true.2 ⟨k, by simpa using hk, h⟩
theorem mtA_false {L : Nat → Nat} {q : Nat → Ps} {i : Nat} (h : ∀ k, k < i → rmB (L i) (q i) (L k) (q k) = false) : mtA L q i = false := List.any_eq_false.2 fun k hk => by rw [h k (by simpa using hk)]; simp
/-- Of right rings: the first one that meets one ahead of it. -/
def mfV (n : Nat) (L : Nat → Nat) (q : Nat → Ps) : Int × Int := match firstP (mtA L q) n with
  | some i => (3, i)
  | none => (0, 0)
/-- What is at fault in a layer, and where. -/
def lyF (n : Nat) (L : Nat → Nat) (q : Nat → Ps) : Int × Int :=
  if 6 < n then (1, 0) else if 20 < sumR L n then (2, 0) else
    match firstP (fun i => decide (rgF (L i) (q i) ≠ 0)) n with
    | some i => (10 + rgF (L i) (q i), i)
    | none => mfV n L q
theorem rgF_in (n : Nat) (p : Ps) : 0 ≤ rgF n p ∧ rgF n p ≤ 5 := by
  unfold rgF
  repeat' split
  all_goals omega
def TwoP (x : Int × Int) (w : World) : Ending → World → Prop := VP (.tuple #[.int .i64 x.1, .int .i64 x.2]) w
set_option maxRecDepth 100000 in
set_option maxHeartbeats 4000000 in
theorem countSpots_any (ao : Option Addr) (n cap : Nat) (S : Nat → Option Addr × Nat) (L : Nat → Nat) (q : Nat → Ps) (hn : n ≤ 6) (hL : ∀ i, i < n → L i ≤ 1048576) (w : World) (hS : RgIn w ao n S L q) : Calls Try.prog 19 #[.slice ao n cap] w (VP (.int .i64 (sumR L n : Nat)) w) := by
  have HS : Hid (RgIn w ao n S L q) := hS
  have HL : Hid (∀ i, i < n → L i ≤ 1048576) := hL
  have hnI : (n : Int) ≤ 6 := by omega
  clear hS hL
  go_enter Try.func19, Try.ntmps19
  go_wp2_with fail
  go_loopw [3, 8] (fun s i wr => ∃ c : Nat, c ≤ n ∧ i = .int .i64 c ∧ s = .int .i64 (sumR L c : Nat) ∧ Below w.heap.size w wr) (fun _ i _ => n - (intOf i).toNat)
  case atStart => exact ⟨0, by omega, rfl, rfl, Below.refl _ _⟩
  case round =>
    obtain ⟨c, hc, rfl, rfl, HB⟩ := hrel
    by_cases hcn : c < n
    · obtain ⟨A, off, rfl, hA, q0, -⟩ := HS.out.step HB c hcn
      have hcI : (c : Int) < n := by omega
      have s1 := sumR_le HL.out c hc
      have s2 := HL.out c hcn
      have hw : IntKind.i64.wrap (((sumR L c : Nat) : Int) + (L c : Int)) = ((sumR L (c + 1) : Nat) : Int) := by rw [IntKind.wrap_i64, sumR]; omega
      have HBN : Below w.heap.size w (wr.alloc (.cells #[.slice (S c).1 (L c) (S c).2] 45)) := HB.alloc HB.size _
      clear s1 s2 HB
      go_wp2
      go_roundw
      case rel => exact ⟨c + 1, by omega, by go_num, rfl, HBN⟩
      case measure => simp [intOf]; omega
    · obtain rfl : c = n := by omega
      clear HS HL
      go_wp2
      go_ret
      exact ⟨rfl, HB⟩
set_option maxRecDepth 100000 in
set_option maxHeartbeats 8000000 in
theorem meetingFault_any (ao : Option Addr) (n cap : Nat) (S : Nat → Option Addr × Nat) (L : Nat → Nat) (q : Nat → Ps) (hn : n ≤ 6) (hcap : n ≤ cap) (hcap2 : cap ≤ 9223372036854775807) (hR : ∀ i, i < n → RgOk (L i) (q i)) (w : World) (hS : RgIn w ao n S L q) : Calls Try.prog 21 #[.slice ao n cap] w (TwoP (mfV n L q) w) := by
  have HS : Hid (RgIn w ao n S L q) := hS
  have HR : Hid (∀ i, i < n → RgOk (L i) (q i)) := hR
  have hnI : (n : Int) ≤ 6 := by omega
  have hcI1 : (n : Int) ≤ cap := by omega
  have hcI2 : (cap : Int) ≤ 9223372036854775807 := by omega
  clear hS hR
  go_enter Try.func21, Try.ntmps21
  go_wp2_with fail
  go_step3
  go_wp2_with fail
  go_step3
  go_wp2_with fail
  go_loopw [4, 5, 12] (fun a b i wr => ∃ c : Nat, c ≤ n ∧ i = .int .i64 c ∧ a = .int .i64 0 ∧ b = .int .i64 0 ∧ (∀ j, j < c → mtA L q j = false) ∧ Below w.heap.size w wr) (fun _ _ i _ => n - (intOf i).toNat)
  case atStart => exact ⟨0, by omega, rfl, rfl, rfl, fun j hj => by omega, Below.refl _ _⟩
  case round =>
    obtain ⟨c, hc, rfl, rfl, rfl, hall, HB⟩ := hrel
    have HA : Hid (∀ j, j < c → mtA L q j = false) := hall
    clear hall
    by_cases hcn : c < n
    · obtain ⟨A, off, rfl, hA, q0, hsp⟩ := HS.out.step HB c hcn
      have hcI : (c : Int) < n := by omega
      have hcc : (c : Int) ≤ cap := by omega
      have hc0 : (0 : Int) ≤ c := by omega
      have hB1 := (Below.refl wr.heap.size wr).alloc (Nat.le_refl _) (.cells #[.slice (S c).1 (L c) (S c).2] 45)
      have B1 := Blk.new wr [.slice (S c).1 (L c) (S c).2] 45 rfl
      have HBo := HB.trans (hB1.mono HB.size)
      clear HB hsp hA
      go_wp2_with fail
      clear q0 hB1
      generalize wr.alloc (.cells #[.slice (S c).1 (L c) (S c).2] 45) = W4 at *
      generalize wr.heap.size = gr at *
      go_loopw [4, 5, 21] (fun a b i wr => ∃ d : Nat, d ≤ c ∧ i = .int .i64 d ∧ a = .int .i64 0 ∧ b = .int .i64 0 ∧ (∀ k, k < d → rmB (L c) (q c) (L k) (q k) = false) ∧ Below W4.heap.size W4 wr) (fun _ _ i _ => c - (intOf i).toNat)
      case atStart => exact ⟨0, by omega, rfl, rfl, rfl, fun j hj => by omega, Below.refl _ _⟩
      case round =>
        rename_i hrel
        obtain ⟨d, hd, rfl, rfl, rfl, hall, HB⟩ := hrel
        have HE : Hid (∀ k, k < d → rmB (L c) (q c) (L k) (q k) = false) := hall
        clear hall
        have HB2 := HBo.trans (HB.mono HBo.size)
        by_cases hdn : d < c
        · have hdI : (d : Int) < c := by omega
          obtain ⟨A', off', hao, hA, q0, hsp⟩ := HS.out.step HB2 d (by omega)
          obtain ⟨rfl, rfl⟩ : A = A' ∧ off = off' := by simpa using hao
          have hsc : SpIn wr (S c).1 (L c) (q c) := by
            obtain ⟨_, _, _, _, _, h⟩ := HS.out.step HB2 c hcn
            exact h
          have hB3 := (Below.refl wr.heap.size wr).alloc (Nat.le_refl _) (.cells #[.slice (S d).1 (L d) (S d).2] 45)
          have B2 := (B1.step HB).step hB3
          have b1 := B2.c 0 rfl
          have b3 := (Blk.new wr [.slice (S d).1 (L d) (S d).2] 45 rfl).c 0 rfl
          replace hsc := hsc.step hB3
          replace hsp := hsp.step hB3
          have r1 := HR.out c hcn
          have r2 := HR.out d (by omega)
          have MM := fun w h k => meets_any (S c).1 (S d).1 (L c) (S c).2 (L d) (S d).2 (q c) (q d) r1.h3 r1.h12 r1.ok r1.one r2.h3 r2.h12 r2.ok r2.one w h k
          have HBN := HB.trans (hB3.mono HB.size)
          clear hA hao r1 r2 HB2 HB hB3 B2
          go_upto_region 8 with fail
          clear q0
          generalize wr.alloc (.cells #[.slice (S d).1 (L d) (S d).2] 45) = W5 at *
          generalize wr.heap.size = gd at *
          go_wp2_with fail
          refine (MM _ hsc hsp).mono ?_
          rintro e w1 ⟨rfl, hB⟩
          replace HBN := HBN.trans (hB.mono HBN.size)
          clear hB hsc hsp MM b1 b3
          cases hk : rmB (L c) (q c) (L d) (q d)
          · have HK : Hid (rmB (L c) (q c) (L d) (q d) = false) := hk
            clear hk
            go_wp2
            go_roundw
            case rel => exact ⟨d + 1, by omega, by go_num, rfl, rfl, fun k hk => by
              rcases Nat.lt_or_ge k d with h | h
              · exact HE.out k h
              · obtain rfl : k = d := by omega
                exact HK.out, HBN⟩
            case measure => simp [intOf]; omega
          · have HO : Hid (mfV n L q = (3, (c : Int))) := by
              show _ = _
              unfold mfV
              rw [firstP_some hcn (mtA_true hdn hk) HA.out]
            have HBF := HBo.trans (HBN.mono HBo.size)
            clear hk HBN HBo
            go_wp2
            go_ret2
            exact ⟨by rw [HO.out]; rfl, HBF⟩
        · obtain rfl : d = c := by omega
          have HBN := HBo.trans (HB.mono HBo.size)
          have HM : Hid (mtA L q d = false) := mtA_false HE.out
          clear HBo HB B1 HB2
          go_wp2
          go_roundw
          case rel => exact ⟨d + 1, by omega, by go_num, rfl, rfl, fun j hj => by
            rcases Nat.lt_or_ge j d with h | h
            · exact HA.out j h
            · obtain rfl : j = d := by omega
              exact HM.out, HBN⟩
          case measure => simp [intOf]; omega
    · obtain rfl : c = n := by omega
      have HO : Hid (mfV c L q = (0, 0)) := by
        show _ = _
        unfold mfV
        rw [firstP_none HA.out]
      clear HS HR
      go_wp2
      go_ret2
      exact ⟨by rw [HO.out]; rfl, HB⟩
set_option maxRecDepth 100000 in
set_option maxHeartbeats 8000000 in
theorem implLayerFault_any (ao : Option Addr) (n cap : Nat) (S : Nat → Option Addr × Nat) (L : Nat → Nat) (q : Nat → Ps) (hn : n ≤ 1048576) (hcap : n ≤ cap) (hcap2 : cap ≤ 9223372036854775807) (hL : ∀ i, i < n → L i ≤ 1048576) (hC : ∀ i, i < n → L i ≤ (S i).2 ∧ (S i).2 ≤ 9223372036854775807) (w : World) (hS : RgIn w ao n S L q) : Calls Try.prog 8 #[.slice ao n cap] w (TwoP (lyF n L q) w) := by
  have hnI : (n : Int) ≤ 1048576 := by omega
  by_cases h6 : 6 < n
  · have HO : Hid (lyF n L q = (1, 0)) := by show _ = _; unfold lyF; rw [if_pos h6]
    have h6I : (6 : Int) < n := by omega
    clear hS hL hC
    go_enter Try.func8, Try.ntmps8
    go_wp2
    go_ret2
    exact ⟨by rw [HO.out]; rfl, Below.refl _ _⟩
  have h6I : (n : Int) ≤ 6 := by omega
  have CS := fun w h => countSpots_any ao n cap S L q (by omega) hL w h
  have HS : Hid (RgIn w ao n S L q) := hS
  have HL : Hid (∀ i, i < n → L i ≤ 1048576) := hL
  have HC : Hid (∀ i, i < n → L i ≤ (S i).2 ∧ (S i).2 ≤ 9223372036854775807) := hC
  have hz := sumR_le hL n (Nat.le_refl _)
  have hzI : ((sumR L n : Nat) : Int) ≤ 6291456 := by omega
  clear hS hL hC hz
  go_enter Try.func8, Try.ntmps8
  go_wp2_with fail
  refine (CS _ HS.out).mono ?_
  rintro e w1 ⟨rfl, hB⟩
  have HB1 := hB
  clear hB CS
  by_cases h20 : 20 < sumR L n
  · have HO : Hid (lyF n L q = (2, 0)) := by show _ = _; unfold lyF; rw [if_neg h6, if_pos h20]
    have h20I : (20 : Int) < (sumR L n : Nat) := by omega
    clear HS HL HC
    go_wp2
    go_ret2
    exact ⟨by rw [HO.out]; rfl, HB1⟩
  have h20I : ((sumR L n : Nat) : Int) ≤ 20 := by omega
  go_wp2_with fail
  go_loopw [15] (fun i wr => ∃ c : Nat, c ≤ n ∧ i = .int .i64 c ∧ (∀ j, j < c → rgF (L j) (q j) = 0) ∧ Below w.heap.size w wr) (fun i _ => n - (intOf i).toNat)
  case atStart => exact ⟨0, by omega, rfl, fun j hj => by omega, HB1⟩
  case round =>
    clear HB1
    obtain ⟨c, hc, rfl, hall, HB⟩ := hrel
    have HA : Hid (∀ j, j < c → rgF (L j) (q j) = 0) := hall
    clear hall
    by_cases hcn : c < n
    · obtain ⟨A, off, rfl, hA, q0, hsp⟩ := HS.out.step HB c hcn
      have hcI : (c : Int) < n := by omega
      have hB1 := (Below.refl wr.heap.size wr).alloc (Nat.le_refl _) (.cells #[.slice (S c).1 (L c) (S c).2] 45)
      replace hsp := hsp.step hB1
      have HBN := HB.trans (hB1.mono HB.size)
      have RF := fun w h => implRingFault_any (S c).1 (L c) (S c).2 (q c) (HL.out c hcn) (HC.out c hcn).1 (HC.out c hcn).2 w h
      have hin := rgF_in (L c) (q c)
      have hrz : Hid (rgF (L c) (q c) = 0 ∨ rgF (L c) (q c) ≠ 0) := Decidable.em _
      have HFs : Hid (rgF (L c) (q c) ≠ 0 → lyF n L q = (10 + rgF (L c) (q c), (c : Int))) := fun hk => by
        unfold lyF
        rw [if_neg h6, if_neg h20, firstP_some (P := fun i => decide (rgF (L i) (q i) ≠ 0)) hcn (decide_eq_true hk) (fun j hj => decide_eq_false (fun h => h (HA.out j hj)))]
      have HFz : Hid (rgF (L c) (q c) = 0 → ∀ j, j < c + 1 → rgF (L j) (q j) = 0) := fun hk j hj => by
        rcases Nat.lt_or_ge j c with h | h
        · exact HA.out j h
        · obtain rfl : j = c := by omega
          exact hk
      clear hA HB hB1
      go_wp2_with fail
      generalize wr.alloc (.cells #[.slice (S c).1 (L c) (S c).2] 45) = W4 at *
      refine (RF _ hsp).mono ?_
      rintro e w2 ⟨rfl, hB⟩
      replace HBN := HBN.trans (hB.mono HBN.size)
      clear hB RF hsp q0
      generalize rgF (L c) (q c) = z at *
      by_cases hz : z = 0
      · subst hz
        go_wp2
        go_roundw
        case rel => exact ⟨c + 1, by omega, by go_num, HFz.out (by trivial), HBN⟩
        case measure => simp [intOf]; omega
      · have hz2 : (z != 0) = true := by simp [hz]
        have HO : Hid (lyF n L q = (10 + z, (c : Int))) := HFs.out hz
        have hw : IntKind.i64.wrap (10 + z) = 10 + z := by rw [IntKind.wrap_i64]; omega
        clear HFs HFz hrz hin
        go_wp2
        go_ret2
        exact ⟨by rw [HO.out]; rfl, HBN⟩
    · obtain rfl : c = n := by omega
      have MF := fun w h => meetingFault_any ao c cap S L q (by omega) hcap hcap2 (fun i hi => rgF_ok (HA.out i hi)) w h
      have HO : Hid (lyF c L q = mfV c L q) := by
        show _ = _
        unfold lyF
        rw [if_neg h6, if_neg h20, firstP_none (P := fun i => decide (rgF (L i) (q i) ≠ 0)) (fun j hj => decide_eq_false (fun h => h (HA.out j hj)))]
      unfold TwoP at MF
      generalize mfV c L q = o at *
      go_wp2_with fail
      refine (MF _ (HS.out.step HB)).mono ?_
      rintro e w2 ⟨rfl, hB⟩
      replace HB := HB.trans (hB.mono HB.size)
      clear hB MF HS HL HC HA
      go_wp2
      go_ret2
      exact ⟨by rw [HO.out]; rfl, HB⟩
end Go.Proofs.Ytibbjjlapglndaa

/- What is at fault in a layer: the model's walk. -/
namespace Go.Proofs.Ytibbjjlapglndaa
open Go.RowKit
set_option maxRecDepth 100000 in
set_option maxHeartbeats 8000000 in
theorem specLayerFault_any (ao : Option Addr) (n cap : Nat) (S : Nat → Option Addr × Nat) (L : Nat → Nat) (q : Nat → Ps) (hn : n ≤ 1048576) (hL : ∀ i, i < n → L i ≤ 1048576) (w : World) (hS : RgIn w ao n S L q) : Calls Try.prog 6 #[.slice ao n cap] w (TwoP (lyF n L q) w) := by
  have hnI : (n : Int) ≤ 1048576 := by omega
  by_cases h6 : 6 < n
  · have HO : Hid (lyF n L q = (1, 0)) := by show _ = _; unfold lyF; rw [if_pos h6]
    have h6I : (6 : Int) < n := by omega
    clear hS hL
    go_enter Try.func6, Try.ntmps6
    go_wp2
    go_ret2
    exact ⟨by rw [HO.out]; rfl, Below.refl _ _⟩
  have h6I : (n : Int) ≤ 6 := by omega
  have HS : Hid (RgIn w ao n S L q) := hS
  have HL : Hid (∀ i, i < n → L i ≤ 1048576) := hL
  have hz := sumR_le hL n (Nat.le_refl _)
  have hzI : ((sumR L n : Nat) : Int) ≤ 6291456 := by omega
  clear hS hL hz
  go_enter Try.func6, Try.ntmps6
  go_wp2_with fail
  go_loopw [4, 5] (fun s i wr => ∃ c : Nat, c ≤ n ∧ i = .int .i64 c ∧ s = .int .i64 (sumR L c : Nat) ∧ Below w.heap.size w wr) (fun _ i _ => n - (intOf i).toNat)
  case atStart => exact ⟨0, by omega, rfl, rfl, Below.refl _ _⟩
  case round =>
    obtain ⟨c, hc, rfl, rfl, HBa⟩ := hrel
    by_cases hcn : c < n
    · obtain ⟨A, off, rfl, hA, q0, -⟩ := HS.out.step HBa c hcn
      have hcI : (c : Int) < n := by omega
      have s1 := sumR_le HL.out c hc
      have s2 := HL.out c hcn
      have hw : IntKind.i64.wrap (((sumR L c : Nat) : Int) + (L c : Int)) = ((sumR L (c + 1) : Nat) : Int) := by rw [IntKind.wrap_i64, sumR]; omega
      clear s1 s2
      go_wp2
      go_roundw
      case rel => exact ⟨c + 1, by omega, by go_num, by trivial, HBa⟩
      case measure => simp [intOf]; omega
    · obtain rfl : c = n := by omega
      by_cases h20 : 20 < sumR L c
      · have HO : Hid (lyF c L q = (2, 0)) := by show _ = _; unfold lyF; rw [if_neg h6, if_pos h20]
        have h20I : (20 : Int) < (sumR L c : Nat) := by omega
        clear HS HL
        go_wp2
        go_ret2
        exact ⟨by rw [HO.out]; rfl, HBa⟩
      have h20I : ((sumR L c : Nat) : Int) ≤ 20 := by omega
      go_wp2_with fail
      generalize hcm : c = m at *
      clear hcm
      have HSa : Hid (RgIn wr ao m S L q) := HS.out.step HBa
      clear HS
      generalize wr = W2 at *
      go_loopw [6] (fun i wx => ∃ c : Nat, c ≤ m ∧ i = .int .i64 c ∧ (∀ j, j < c → rgF (L j) (q j) = 0) ∧ Below W2.heap.size W2 wx) (fun i _ => m - (intOf i).toNat)
      case atStart => exact ⟨0, by omega, rfl, fun j hj => by omega, Below.refl _ _⟩
      case round =>
        rename_i hrel
        obtain ⟨c, hc, rfl, hall, HB⟩ := hrel
        have HA : Hid (∀ j, j < c → rgF (L j) (q j) = 0) := hall
        clear hall
        by_cases hcn : c < m
        · obtain ⟨A, off, rfl, hA, q0, hsp⟩ := HSa.out.step HB c hcn
          have hcI : (c : Int) < m := by omega
          have RF := fun w h => specRingFault_any (S c).1 (L c) (S c).2 (q c) (HL.out c hcn) w h
          have hin := rgF_in (L c) (q c)
          have HFs : Hid (rgF (L c) (q c) ≠ 0 → lyF m L q = (10 + rgF (L c) (q c), (c : Int))) := fun hk => by
            unfold lyF
            rw [if_neg h6, if_neg h20, firstP_some (P := fun i => decide (rgF (L i) (q i) ≠ 0)) hcn (decide_eq_true hk) (fun j hj => decide_eq_false (fun h => h (HA.out j hj)))]
          have HFz : Hid (rgF (L c) (q c) = 0 → ∀ j, j < c + 1 → rgF (L j) (q j) = 0) := fun hk j hj => by
            rcases Nat.lt_or_ge j c with h | h
            · exact HA.out j h
            · obtain rfl : j = c := by omega
              exact hk
          clear hA
          go_wp2_with fail
          refine (RF _ hsp).mono ?_
          rintro e w2 ⟨rfl, hB⟩
          replace HB := HB.trans (hB.mono HB.size)
          clear hB RF hsp q0
          generalize rgF (L c) (q c) = z at *
          by_cases hz : z = 0
          · subst hz
            go_wp2
            go_roundw
            case rel => exact ⟨c + 1, by omega, by go_num, HFz.out (by trivial), HB⟩
            case measure => simp [intOf]; omega
          · have hz2 : (z != 0) = true := by simp [hz]
            have HO : Hid (lyF m L q = (10 + z, (c : Int))) := HFs.out hz
            have hw : IntKind.i64.wrap (10 + z) = 10 + z := by rw [IntKind.wrap_i64]; omega
            clear HFs HFz hin
            go_wp2
            go_ret2
            exact ⟨by rw [HO.out]; rfl, HBa.trans (HB.mono HBa.size)⟩
        · obtain rfl : m = c := by omega
          have HR : Hid (∀ i, i < m → RgOk (L i) (q i)) := fun i hi => rgF_ok (HA.out i hi)
          have HO1 : Hid (lyF m L q = mfV m L q) := by
            show _ = _
            unfold lyF
            rw [if_neg h6, if_neg h20, firstP_none (P := fun i => decide (rgF (L i) (q i) ≠ 0)) (fun j hj => decide_eq_false (fun h => h (HA.out j hj)))]
          have HS2 : Hid (RgIn wr ao m S L q) := HSa.out.step HB
          have HBf := HBa.trans (HB.mono HBa.size)
          clear HA HB HSa
          go_wp2_with fail
          generalize wr = W3 at *
          go_loopw [8] (fun i wx => ∃ c : Nat, c ≤ m ∧ i = .int .i64 c ∧ (∀ j, j < c → mtA L q j = false) ∧ Below W3.heap.size W3 wx) (fun i _ => m - (intOf i).toNat)
          case atStart => exact ⟨0, by omega, rfl, fun j hj => by omega, Below.refl _ _⟩
          case round =>
            rename_i hrel
            obtain ⟨c, hc, rfl, hall, HB⟩ := hrel
            have HA : Hid (∀ j, j < c → mtA L q j = false) := hall
            clear hall
            by_cases hcn : c < m
            · have hcI : (c : Int) < m := by omega
              have HBo := HB
              clear HB
              go_wp2_with fail
              generalize wr = W4 at *
              go_loopw [9] (fun i wx => ∃ d : Nat, d ≤ c ∧ i = .int .i64 d ∧ (∀ k, k < d → rmB (L c) (q c) (L k) (q k) = false) ∧ Below W4.heap.size W4 wx) (fun i _ => c - (intOf i).toNat)
              case atStart => exact ⟨0, by omega, rfl, fun j hj => by omega, Below.refl _ _⟩
              case round =>
                rename_i hrel
                obtain ⟨d, hd, rfl, hall, HB⟩ := hrel
                have HE : Hid (∀ k, k < d → rmB (L c) (q c) (L k) (q k) = false) := hall
                clear hall
                have HB2 := HBo.trans (HB.mono HBo.size)
                by_cases hdn : d < c
                · have hdI : (d : Int) < c := by omega
                  obtain ⟨A, off, rfl, hA, q0, hsc⟩ := HS2.out.step HB2 c hcn
                  obtain ⟨A', off', hao, -, q1, hsp⟩ := HS2.out.step HB2 d (by omega)
                  obtain ⟨rfl, rfl⟩ : A = A' ∧ off = off' := by simpa using hao
                  have hdm : (d : Int) < m := by omega
                  have MM := fun w h k => l5Meet_any (S c).1 (S d).1 (L c) (S c).2 (L d) (S d).2 (q c) (q d) (HR.out c hcn) (HR.out d (by omega)) w h k
                  have H0 := Below.refl wr.heap.size wr
                  have HK : ∀ V, Below wr.heap.size wr V → (fun w' : World => w'.cell? ⟨A, off + c, none⟩ = some (.slice (S c).1 (L c) (S c).2) ∧ w'.cell? ⟨A, off + d, none⟩ = some (.slice (S d).1 (L d) (S d).2)) V := fun V h => ⟨(h.cell (p := ⟨A, _, none⟩) hA).trans q0, (h.cell (p := ⟨A, _, none⟩) hA).trans q1⟩
                  clear hao
                  go_upto_region 22 with fail
                  go_cut [64] (fun z wx => z = .bool (rmB (L c) (q c) (L d) (q d)) ∧ Below wr.heap.size wr wx)
                  case first =>
                    clear HE HA HR HS2 HL
                    go_region_held3 (fun w' : World => w'.cell? ⟨A, off + c, none⟩ = some (.slice (S c).1 (L c) (S c).2) ∧ w'.cell? ⟨A, off + d, none⟩ = some (.slice (S d).1 (L d) (S d).2)) (refine HK _ ?_ <;> repeat (first | (with_reducible exact H0) | (with_reducible refine Below.drew ?_)))
                      (first
                        | (go_at_call 17; refine (MM _ (by first | (with_reducible exact hsc) | (with_reducible exact hsc.drew)) (by first | (with_reducible exact hsp) | (with_reducible exact hsp.drew))).mono ?_; rintro e w3 ⟨rfl, hB⟩; (first | (have Hn : Below wr.heap.size wr w3 := (by with_reducible exact H0.trans (hB.mono H0.size))) | (have Hn : Below wr.heap.size wr w3 := (by with_reducible exact H0.drew.trans (hB.mono H0.drew.size)))); clear hB H0; have H0 := Hn; clear Hn))
                    all_goals go_wp2_with fail
                    all_goals go_meet
                    all_goals exact ⟨rfl, by first | (with_reducible exact H0) | (with_reducible exact H0.drew)⟩
                  case rest =>
                    obtain ⟨hq, hB⟩ := hcut
                    subst hq
                    have HBN := HB.trans (hB.mono HB.size)
                    clear hB HB HB2 H0 HK MM hsc hsp q0 q1 hA
                    cases hk : rmB (L c) (q c) (L d) (q d)
                    · have HK : Hid (rmB (L c) (q c) (L d) (q d) = false) := hk
                      clear hk
                      go_wp2
                      go_roundw
                      case rel => exact ⟨d + 1, by omega, by go_num, fun k hk => by
                        rcases Nat.lt_or_ge k d with h | h
                        · exact HE.out k h
                        · obtain rfl : k = d := by omega
                          exact HK.out, HBN⟩
                      case measure => simp [intOf]; omega
                    · have HO : Hid (lyF m L q = (3, (c : Int))) := by
                        show _ = _
                        rw [HO1.out]
                        unfold mfV
                        rw [firstP_some hcn (mtA_true hdn hk) HA.out]
                      have HBF := HBf.trans ((HBo.trans (HBN.mono HBo.size)).mono HBf.size)
                      clear hk HBN HBo HBf
                      go_wp2
                      go_ret2
                      exact ⟨by rw [HO.out]; rfl, HBF⟩
                · obtain rfl : d = c := by omega
                  have HBN := HBo.trans (HB.mono HBo.size)
                  have HM : Hid (mtA L q d = false) := mtA_false HE.out
                  clear HBo HB HB2
                  go_wp2
                  go_roundw
                  case rel => exact ⟨d + 1, by omega, by go_num, fun j hj => by
                    rcases Nat.lt_or_ge j d with h | h
                    · exact HA.out j h
                    · obtain rfl : j = d := by omega
                      exact HM.out, HBN⟩
                  case measure => simp [intOf]; omega
            · obtain rfl : m = c := by omega
              have HO : Hid (lyF m L q = (0, 0)) := by
                show _ = _
                rw [HO1.out]
                unfold mfV
                rw [firstP_none HA.out]
              have HBF := HBf.trans (HB.mono HBf.size)
              clear HS2 HR HL
              go_wp2
              go_ret2
              exact ⟨by rw [HO.out]; rfl, HBF⟩
end Go.Proofs.Ytibbjjlapglndaa

/- What is at fault in a layer: the law. -/
namespace Go.Proofs.Ytibbjjlapglndaa
open Go.RowKit
set_option maxRecDepth 100000 in
set_option maxHeartbeats 4000000 in
theorem lawLayerFault_any (ao : Option Addr) (n cap : Nat) (S : Nat → Option Addr × Nat) (L : Nat → Nat) (q : Nat → Ps) (hn : n ≤ 9223372036854775807) (hL : ∀ i, i < n → L i ≤ 9223372036854775807) (w : World) (hS : RgIn w ao n S L q) : Calls Try.prog 3 #[.slice ao n cap] w (BoolP true w) := by
  have SZ := szRingS_any 1048576 (by omega) (by omega) ao n cap S L q hn hL w hS
  go_enter Try.func3, Try.ntmps3
  go_wp2_with fail
  refine SZ.mono ?_
  rintro e w1 ⟨z, rfl, z0, z1, hz, hB⟩
  have HB := hB
  have HS := hS.step hB
  clear hB SZ hS hL hn
  by_cases hz0 : 0 ≤ z
  · obtain ⟨hn, hL⟩ := hz hz0
    have T1 := fun w => toRingS_any ao n cap S L q hn hL w
    have SP := fun ao S w h => specLayerFault_any ao n n S L q hn hL w h
    have IM := fun ao S hc w h => implLayerFault_any ao n n S L q hn (Nat.le_refl _) (by omega) hL hc w h
    have EQ := fun ao bo S S' w h h' => eqRingS_any ao bo n n n S S' L q hn hL w h h'
    have HL : Hid (∀ i, i < n → L i ≤ 1048576) := hL
    unfold TwoP at SP IM
    generalize lyF n L q = o at *
    obtain ⟨o1, o2⟩ := o
    simp only at SP IM
    have ho1 : (o1 != o1) = false := by simp
    have ho2 : (o2 != o2) = false := by simp
    clear hz hL
    go_wp2_with fail
    refine (T1 _ HS).mono ?_
    rintro e w2 ⟨g1, S1, rfl, R1, -, -, hB⟩
    replace HB := HB.trans (hB.mono HB.size)
    replace HS := HS.step hB
    clear hB
    go_wp2_with fail
    refine (SP _ _ _ R1).mono ?_
    rintro e w3 ⟨rfl, hB⟩
    replace HB := HB.trans (hB.mono HB.size)
    replace HS := HS.step hB
    clear hB R1 SP
    go_wp2_with fail
    refine (T1 _ HS).mono ?_
    rintro e w4 ⟨g2, S2, rfl, R2, hS2, -, hB⟩
    replace HB := HB.trans (hB.mono HB.size)
    replace HS := HS.step hB
    have HC : Hid (∀ i, i < n → L i ≤ (S2 i).2 ∧ (S2 i).2 ≤ 9223372036854775807) := fun i hi => by
      have := HL.out i hi
      rw [hS2 i]
      omega
    clear hB hS2
    go_wp2_with fail
    refine (IM _ _ HC.out _ R2).mono ?_
    rintro e w5 ⟨rfl, hB⟩
    replace HB := HB.trans (hB.mono HB.size)
    replace HS := HS.step hB
    replace R2 := R2.step hB
    clear hB IM
    go_wp2_with fail
    refine (T1 _ HS).mono ?_
    rintro e w6 ⟨g3, S3, rfl, R3, -, -, hB⟩
    replace HB := HB.trans (hB.mono HB.size)
    replace R2 := R2.step hB
    clear hB HS T1
    go_wp2_with fail
    refine (EQ _ _ _ _ _ R2 R3).mono ?_
    rintro e w7 ⟨rfl, hB⟩
    replace HB := HB.trans (hB.mono HB.size)
    clear hB R2 R3 EQ
    go_wp2
    go_ret
    exact ⟨rfl, HB⟩
  · clear hz
    have hz' : z < 0 := by omega
    go_wp2
    go_ret
    exact ⟨rfl, HB⟩
end Go.Proofs.Ytibbjjlapglndaa

/- How spots and segments read as data, beside points: opened and shut. -/
namespace Go.Proofs.Ytibbjjlapglndaa
open Go.ChangeShapes Go.WideShapes Go.ChangeAt Go.RowKit Go.Joins
abbrev Wf (x : Int) : Prop := (Lit.int .i64 x).wf = true
abbrev SpD {H : Type} (x y : Int) : DataW H := .agg [.lit (.int .i64 x), .lit (.int .i64 y)]
theorem trod_spot {H : Type} {enc : TypeId × Value → H} {w : World} {base : Nat} {spare : TypeId → Bool} {held : Bool} {n : Nat} {c0 c1 : Value} {y : DataW H × List MemPlace} (h : DataW.trod enc Try.prog w base spare held n 77 [c0, c1] = some y) :
    ∃ a b : Int, c0 = .int .i64 a ∧ c1 = .int .i64 b ∧ y = (SpD a b, []) ∧ Wf a ∧ Wf b := by
  obtain ⟨y0, y1, m, hx, _, h0, h1⟩ := trod_struct2 Try.underlying77 h
  obtain ⟨a, e0, rfl, wa⟩ := DataW.trod_int Try.underlying2 h0
  obtain ⟨b, e1, rfl, wb⟩ := DataW.trod_int Try.underlying2 h1
  have k : Try.prog.cellsOf 2 = 1 := by kernel_rfl
  simp [k] at e0 e1
  exact ⟨a, b, e0, e1, hx, wa, wb⟩
end Go.Proofs.Ytibbjjlapglndaa

/- How rings, and rows of rings, read as data. -/
namespace Go.Proofs.Ytibbjjlapglndaa
open Go.ChangeShapes Go.WideShapes Go.ChangeAt Go.RowKit Go.Joins
theorem Try.laidOut : laidOutB Try.prog = true := by kernel_rfl
theorem Try.cellsSpotL : Try.prog.cellsOf 77 = 2 := by kernel_rfl
theorem Try.cellsRing : Try.prog.cellsOf 42 = 1 := by kernel_rfl
theorem Try.cellsSpotS : Try.prog.cellsOf 40 = 1 := by kernel_rfl
theorem spots_of {H : Type} {enc : TypeId × Value → H} {W : World} {a : Addr} {len m n : Nat} {D : Nat → DataW H} {Pl : Nat → List MemPlace} (hl : len ≤ m)
    (hx : ∀ i, i < m → ∃ cs', W.cells? 0 (a.add (i * Try.prog.cellsOf 77)) (Try.prog.cellsOf 77) = some cs' ∧ DataW.trod enc Try.prog W 0 (fun _ => true) true n 77 cs' = some (D i, Pl i))
    (hlt : ∀ x ∈ MemPlace.row a (m * Try.prog.cellsOf 77), x.block < W.heap.size) : ∃ p : Ps, SpIn W (some a) len p := by
  rw [Try.cellsSpotL] at hx hlt
  have each : ∀ i, i < m → ∃ q : Int × Int, W.cell? (a.add (i * 2)) = some (.int .i64 q.1) ∧ W.cell? (a.add (i * 2 + 1)) = some (.int .i64 q.2) := by
    intro i hi
    obtain ⟨cs', h1, h2⟩ := hx i hi
    obtain ⟨_, hlen, hcell⟩ := World.cells?_some h1
    match cs', hlen with
    | [v0, v1], _ =>
      have e0 := hcell 0 (by omega); have e1 := hcell 1 (by omega)
      rw [Go.Deep.add_add] at e0 e1
      obtain ⟨x, y, rfl, rfl, -, -, -⟩ := trod_spot h2
      exact ⟨(x, y), by simpa using e0, by simpa using e1⟩
  obtain ⟨q, hq⟩ := Go.Deep.choose_lt each
  obtain ⟨ab, ao, spot⟩ := a
  refine ⟨q, fun i hi => ?_⟩
  have hspot : spot = none := by simpa [Addr.add] using World.cell?_spot (hq 0 (by omega)).1
  subst hspot
  obtain ⟨c0, c1⟩ := hq i (by omega)
  rw [Addr.add_lit] at c0 c1
  exact ⟨ab, ao, rfl, hlt (.cell ab (ao + i * 2)) (by simp only [MemPlace.row, List.mem_map, List.mem_range]; exact ⟨i * 2, by omega, rfl⟩), c0, by simpa [Nat.add_assoc] using c1⟩
theorem rings_of {H : Type} {enc : TypeId × Value → H} {W : World} {a : Addr} {len m n : Nat} {D : Nat → DataW H} {Pl : Nat → List MemPlace} (hl : len ≤ m)
    (hx : ∀ i, i < m → ∃ cs', W.cells? 0 (a.add (i * Try.prog.cellsOf 42)) (Try.prog.cellsOf 42) = some cs' ∧ DataW.trod enc Try.prog W 0 (fun _ => true) true n 42 cs' = some (D i, Pl i))
    (hlt : ∀ x ∈ MemPlace.row a (m * Try.prog.cellsOf 42), x.block < W.heap.size) (hlt2 : ∀ i, i < m → ∀ x ∈ Pl i, x.block < W.heap.size) : ∃ (S : Nat → Option Addr × Nat) (L : Nat → Nat) (q : Nat → Ps), RgIn W (some a) len S L q ∧ ∀ i, i < len → L i ≤ 9223372036854775807 := by
  rw [Try.cellsRing] at hx hlt
  have each : ∀ i, i < m → ∃ r : (Option Addr × Nat) × Nat × Ps, W.cell? (a.add i) = some (.slice r.1.1 r.2.1 r.1.2) ∧ SpIn W r.1.1 r.2.1 r.2.2 ∧ r.2.1 ≤ 9223372036854775807 := by
    intro i hi
    obtain ⟨cs', h1, h2⟩ := hx i hi
    obtain ⟨_, hlen, hcell⟩ := World.cells?_some h1
    match cs', hlen with
    | [v0], _ =>
      have e0 := hcell 0 (by omega)
      rw [Go.Deep.add_add] at e0
      simp at e0
      obtain ⟨y0, k, hy, _, g0⟩ := trod_struct1 Try.underlying42 h2
      simp [Try.cellsSpotS] at g0
      have hpl : Pl i = y0.2 := by have := congrArg Prod.snd hy; simpa using this
      rcases Go.Deep.open_slice Try.underlying40 g0 with ⟨hcs, -⟩ | ⟨a', len', cap', m', n', D', Pl', hcs, _, hl', hm', hz', hx', hel'⟩
      · simp at hcs
        subst hcs
        exact ⟨((none, 0), 0, fun _ => (0, 0)), e0, fun i hi => absurd hi (Nat.not_lt_zero _), Nat.zero_le _⟩
      · simp at hcs
        subst hcs
        simp only [if_true] at hz'
        have hb : ∀ x ∈ MemPlace.row a' (m' * Try.prog.cellsOf 77), x.block < W.heap.size := fun x hxx => hlt2 i hi x (by
          rw [hpl, hx']
          exact List.mem_append_left _ hxx)
        obtain ⟨p, hp⟩ := spots_of (len := len') (by omega) hel' hb
        exact ⟨((some a', cap'), len', p), e0, hp, by show len' ≤ _; have := hm'; simp [maxLen] at this; omega⟩
  obtain ⟨r, hr⟩ := Go.Deep.choose_lt each
  obtain ⟨ab, ao, spot⟩ := a
  refine ⟨fun i => (r i).1, fun i => (r i).2.1, fun i => (r i).2.2, fun i hi => ?_, fun i hi => (hr i (by omega)).2.2⟩
  have hspot : spot = none := by simpa [Addr.add] using World.cell?_spot (hr 0 (by omega)).1
  subst hspot
  have c0 := (hr i (by omega)).1
  rw [Addr.add_lit] at c0
  exact ⟨ab, ao, rfl, hlt (.cell ab (ao + i)) (by simp only [MemPlace.row, List.mem_map, List.mem_range]; exact ⟨i, by omega, rfl⟩), c0, (hr i (by omega)).2.1⟩
set_option maxRecDepth 100000 in
/-- A row of rings that is handed in. -/
theorem open_rings {H : Type} {enc : TypeId × Value → H} {W : World} {base : Nat} {v : Value} {d : DataW H} {pl : List MemPlace} (ok : Value.okWide Try.prog W .any base 22 v) (h : DataW.Trod enc Try.prog W 0 (fun _ => true) true 22 v d pl) (hlt : ∀ x ∈ pl, x.block < W.heap.size) :
    ∃ ao n cap S L q, v = .slice ao n cap ∧ n ≤ 9223372036854775807 ∧ (∀ i, i < n → L i ≤ 9223372036854775807) ∧ RgIn W ao n S L q := by
  obtain ⟨a0, len, cap, rfl⟩ := okWide_slice Try.underlying22 ok
  obtain ⟨fuel, hf⟩ := h
  rcases Go.Deep.open_slice Try.underlying22 hf with ⟨hcs, hx⟩ | ⟨a, len', cap', m, n, D, Pl, hcs, _, hl, hm, hz, hx, hel⟩
  · simp [Value.cells] at hcs
    obtain ⟨rfl, rfl, rfl⟩ := hcs
    exact ⟨none, 0, 0, fun _ => (none, 0), fun _ => 0, fun _ _ => (0, 0), rfl, by omega, fun i hi => by omega, fun i hi => by omega⟩
  · simp [Value.cells] at hcs
    obtain ⟨rfl, rfl, rfl⟩ := hcs
    simp only [Prod.mk.injEq] at hx
    obtain ⟨rfl, rfl⟩ := hx
    simp only [if_true] at hz
    obtain ⟨S, L, q, hS, hL⟩ := rings_of (len := len) (by omega) hel (fun y hy => hlt y (List.mem_append_left _ hy)) (fun i hi y hy => hlt y (List.mem_append_right _ (List.mem_flatMap.2 ⟨i, List.mem_range.2 hi, hy⟩)))
    exact ⟨some a, len, cap, S, L, q, rfl, by have := hm; simp [maxLen] at this; omega, hL, hS⟩
end Go.Proofs.Ytibbjjlapglndaa

/- What the row of a law asks of the program as a whole, each by itself. -/
namespace Go.Proofs.Ytibbjjlapglndaa
open Go.ChangeShapes Go.WideShapes Go.ChangeAt Go.RowKit Go.Joins
theorem jn_laid : laidOutB Try.pinned.checked.prog = true := by kernel_rfl
theorem jn_maps : mapsRowed Try.pinned.checked.prog = true := by kernel_rfl
theorem jn_enter : Try.pinned.checked.prog.mayEnter = true := by kernel_rfl
theorem jn_heard : Try.pinned.checked.prog.stopsHeard = true := by kernel_rfl
end Go.Proofs.Ytibbjjlapglndaa
