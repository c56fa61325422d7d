/- Part 11 of the walks that the proof leans on. -/
import Derived.Test.YtmjlgmoohpnhfaaPart9
import Derived.Test.YtmjlgmoohpnhfaaPart10
import Derived.Test.YtmjlgmoohpnhfaaPart8
/- The nearest of a row of segments: the program's walk. -/
namespace Go.Proofs.Ytmjlgmoohpnhfaa
open Go.RowKit
/-- The number, and the two numbers of its distance, of the nearest of the first c. -/
def kN (x : Nat → Int) (p q : Int) (c : Nat) : Int := if c = 0 then 0 else (nsI x p q (c - 1) : Nat)
def kU (x : Nat → Int) (p q : Int) (c : Nat) : Int := if c = 0 then 0 else uAt x p q (nsI x p q (c - 1))
def kV (x : Nat → Int) (p q : Int) (c : Nat) : Int := if c = 0 then 0 else vAt x p q (nsI x p q (c - 1))
/-- One more is shown. -/
theorem k_succ (x : Nat → Int) (p q : Int) (c : Nat) (up : Bool) (h : up = (decide ((c : Int) = 0) || decide (cmpI (uAt x p q c * kV x p q c) (kU x p q c * vAt x p q c) < 0))) :
    cond up (c : Int) (kN x p q c) = kN x p q (c + 1) ∧ cond up (uAt x p q c) (kU x p q c) = kU x p q (c + 1) ∧ cond up (vAt x p q c) (kV x p q c) = kV x p q (c + 1) := by
  have e1 : kN x p q (c + 1) = (nsI x p q c : Nat) := by unfold kN; rw [if_neg (by omega)]; rfl
  have e2 : kU x p q (c + 1) = uAt x p q (nsI x p q c) := by unfold kU; rw [if_neg (by omega)]; rfl
  have e3 : kV x p q (c + 1) = vAt x p q (nsI x p q c) := by unfold kV; rw [if_neg (by omega)]; rfl
  rw [e1, e2, e3]
  rcases Nat.eq_zero_or_pos c with h0 | h0
  · subst h0
    have hu : up = true := by rw [h]; simp
    rw [hu]
    exact ⟨rfl, rfl, rfl⟩
  · have f1 : kN x p q c = (nsI x p q (c - 1) : Nat) := by unfold kN; rw [if_neg (by omega)]
    have f2 : kU x p q c = uAt x p q (nsI x p q (c - 1)) := by unfold kU; rw [if_neg (by omega)]
    have f3 : kV x p q c = vAt x p q (nsI x p q (c - 1)) := by unfold kV; rw [if_neg (by omega)]
    have hn : up = nearer x p q c (nsI x p q (c - 1)) := by
      rw [h, f2, f3, decide_eq_false (show ¬ (c : Int) = 0 by omega), Bool.false_or]
      rfl
    cases hb : nearer x p q c (nsI x p q (c - 1))
    · rw [hn, hb, nsI_off' h0 hb, f1, f2, f3]
      exact ⟨rfl, rfl, rfl⟩
    · rw [hn, hb, nsI_on' h0 hb]
      exact ⟨rfl, rfl, rfl⟩
/-- While segments are shown. -/
structure NwI (w wr : World) (n : Nat) (x : Nat → Int) (p q : Int) (g5 g8 gp gs gl gb c : Nat) : Prop where
  below : Below w.heap.size w wr
  b5 : Blk wr g5 [.int .u64 0, .int .u64 0, .int .u64 0, .int .u64 0, .int .u64 0, .int .u64 0, .int .u64 0, .int .u64 0]
  b8 : Blk wr g8 [.int .u64 (ww3 (kU x p q c)), .int .u64 (ww2 (kU x p q c)), .int .u64 (ww1 (kU x p q c)), .int .u64 (ww0 (kU x p q c)), .int .u64 (ww3 (kV x p q c)), .int .u64 (ww2 (kV x p q c)), .int .u64 (ww1 (kV x p q c)), .int .u64 (ww0 (kV x p q c))]
  bp : Blk wr gp [.int .i64 p, .int .i64 q]
  bs : Blk wr gs [.int .i64 c]
  bl : Blk wr gl [.int .u64 (ww3 (kU x p q c)), .int .u64 (ww2 (kU x p q c)), .int .u64 (ww1 (kU x p q c)), .int .u64 (ww0 (kU x p q c)), .int .u64 (ww3 (kV x p q c)), .int .u64 (ww2 (kV x p q c)), .int .u64 (ww1 (kV x p q c)), .int .u64 (ww0 (kV x p q c))]
  bb : Blk wr gb [.int .i64 (kN x p q c)]
set_option maxRecDepth 100000 in
set_option maxHeartbeats 8000000 in
theorem implNearest_any (ao : Option Addr) (n cap : Nat) (x : Nat → Int) (p q : Int) (w : World) (hS : SegIn w ao n x) : Calls Try.prog 26 #[.slice ao n cap, Sp p q] w (VP (nsV n x p q) w) := by
  have HS : Hid (SegIn w ao n x) := hS
  clear hS
  have HB : Below w.heap.size w ((w.alloc (.cells #[.int .i64 p, .int .i64 q] 55)).alloc (.cells #[.int .u64 0, .int .u64 0, .int .u64 0, .int .u64 0, .int .u64 0, .int .u64 0, .int .u64 0, .int .u64 0] 50)) := ((Below.refl _ _).alloc (Nat.le_refl _) _).alloc (by simp) _
  have XP := (Blk.new w [.int .i64 p, .int .i64 q] 55 rfl).alloc (.cells #[.int .u64 0, .int .u64 0, .int .u64 0, .int .u64 0, .int .u64 0, .int .u64 0, .int .u64 0, .int .u64 0] 50)
  have X5 := Blk.new (w.alloc (.cells #[.int .i64 p, .int .i64 q] 55)) [.int .u64 0, .int .u64 0, .int .u64 0, .int .u64 0, .int .u64 0, .int .u64 0, .int .u64 0, .int .u64 0] 50 (g := w.heap.size + 1) (by simp)
  rw [show ([.int .i64 p, .int .i64 q] : List Value).toArray = #[.int .i64 p, .int .i64 q] from rfl] at XP X5
  rw [show ([.int .u64 0, .int .u64 0, .int .u64 0, .int .u64 0, .int .u64 0, .int .u64 0, .int .u64 0, .int .u64 0] : List Value).toArray = #[.int .u64 0, .int .u64 0, .int .u64 0, .int .u64 0, .int .u64 0, .int .u64 0, .int .u64 0, .int .u64 0] from rfl] at X5
  go_enter Try.func26, Try.ntmps26
  go_wp2_with fail
  generalize ((w.alloc (.cells #[.int .i64 p, .int .i64 q] 55)).alloc (.cells #[.int .u64 0, .int .u64 0, .int .u64 0, .int .u64 0, .int .u64 0, .int .u64 0, .int .u64 0, .int .u64 0] 50)) = W at *
  refine (implSegsFault_any ao n cap x _ (HS.out.step HB)).mono ?_
  rintro e w1 ⟨rfl, hB⟩
  replace HB := HB.trans (hB.mono HB.size)
  replace XP := XP.step hB
  replace X5 := X5.step hB
  clear hB
  by_cases hsg : sgI n x = 0
  · rw [hsg]
    obtain ⟨p0, p1⟩ := XP.cs2
    go_wp2_with fail
    clear p0 p1
    refine (implSpotOk_any p q _ rfl _).mono ?_
    rintro e w2 ⟨rfl, hB⟩
    replace HB := HB.trans (hB.mono HB.size)
    replace XP := XP.step hB
    replace X5 := X5.step hB
    clear hB
    cases hsp : spotOk p q
    · have HO : Hid (nsOk n x p q = false) := by show _ = _; unfold nsOk; rw [hsp]; simp
      clear hsg hsp
      have o0 := X5.c 0 rfl; have r0 := X5.f 0 rfl; have o1 := X5.c 1 rfl; have r1 := X5.f 1 rfl; have o2 := X5.c 2 rfl; have r2 := X5.f 2 rfl; have o3 := X5.c 3 rfl; have r3 := X5.f 3 rfl; have o4 := X5.c 4 rfl; have r4 := X5.f 4 rfl; have o5 := X5.c 5 rfl; have r5 := X5.f 5 rfl; have o6 := X5.c 6 rfl; have r6 := X5.f 6 rfl; have o7 := X5.c 7 rfl; have r7 := X5.f 7 rfl; have ol := X5.lt
      clear X5 XP
      go_wp2
      refine bodyPost_ret (v := .tuple #[.int .i64 0, .agg #[.int .u64 0, .int .u64 0, .int .u64 0, .int .u64 0, .int .u64 0, .int .u64 0, .int .u64 0, .int .u64 0], .bool false]) (by simp [results, Try.results26, go_sem, o0, o1, o2, o3, o4, o5, o6, o7]) rfl ?_
      refine ⟨by unfold nsV; rw [HO.out]; rfl, ?_⟩
      repeat' (refine Below.setCell ?_ (by simp; try omega) _)
      exact HB
    · by_cases hn : n = 0
      · subst hn
        have HO : Hid (nsOk 0 x p q = false) := by show _ = _; unfold nsOk; simp
        clear hsg hsp
        have o0 := X5.c 0 rfl; have r0 := X5.f 0 rfl; have o1 := X5.c 1 rfl; have r1 := X5.f 1 rfl; have o2 := X5.c 2 rfl; have r2 := X5.f 2 rfl; have o3 := X5.c 3 rfl; have r3 := X5.f 3 rfl; have o4 := X5.c 4 rfl; have r4 := X5.f 4 rfl; have o5 := X5.c 5 rfl; have r5 := X5.f 5 rfl; have o6 := X5.c 6 rfl; have r6 := X5.f 6 rfl; have o7 := X5.c 7 rfl; have r7 := X5.f 7 rfl; have ol := X5.lt
        clear X5 XP
        go_wp2
        refine bodyPost_ret (v := .tuple #[.int .i64 0, .agg #[.int .u64 0, .int .u64 0, .int .u64 0, .int .u64 0, .int .u64 0, .int .u64 0, .int .u64 0, .int .u64 0], .bool false]) (by simp [results, Try.results26, go_sem, o0, o1, o2, o3, o4, o5, o6, o7]) rfl ?_
        refine ⟨by unfold nsV; rw [HO.out]; rfl, ?_⟩
        repeat' (refine Below.setCell ?_ (by simp; try omega) _)
        exact HB
      · have HO : Hid (nsOk n x p q = true) := by show _ = _; unfold nsOk; rw [hsp, decide_eq_true hsg, decide_eq_true (by omega)]; rfl
        obtain ⟨h40, hall⟩ := sgI_zero hsg
        have HA : Hid (∀ i, i < n → segOk (x (i * 4)) (x (i * 4 + 1)) (x (i * 4 + 2)) (x (i * 4 + 3)) = true) := hall
        have HP : Hid (spotOk p q = true) := hsp
        have hn0 : ((n : Int) == 0) = false := beq_eq_false_iff_ne.2 (by omega)
        have hn1 : ¬ ((n : Int) = 0) := by omega
        clear hall hsp hsg
        have X8 := Blk.new w2 [.int .u64 0, .int .u64 0, .int .u64 0, .int .u64 0, .int .u64 0, .int .u64 0, .int .u64 0, .int .u64 0] 50 rfl
        rw [show ([.int .u64 0, .int .u64 0, .int .u64 0, .int .u64 0, .int .u64 0, .int .u64 0, .int .u64 0, .int .u64 0] : List Value).toArray = #[.int .u64 0, .int .u64 0, .int .u64 0, .int .u64 0, .int .u64 0, .int .u64 0, .int .u64 0, .int .u64 0] from rfl] at X8
        have hl5 := X5.lt
        replace HB := HB.alloc HB.size (.cells #[.int .u64 0, .int .u64 0, .int .u64 0, .int .u64 0, .int .u64 0, .int .u64 0, .int .u64 0, .int .u64 0] 50)
        replace XP := XP.alloc (.cells #[.int .u64 0, .int .u64 0, .int .u64 0, .int .u64 0, .int .u64 0, .int .u64 0, .int .u64 0, .int .u64 0] 50)
        replace X5 := X5.alloc (.cells #[.int .u64 0, .int .u64 0, .int .u64 0, .int .u64 0, .int .u64 0, .int .u64 0, .int .u64 0, .int .u64 0] 50)
        obtain ⟨p0, p1⟩ := XP.cs2
        go_wp2_with fail
        clear p0 p1 XP
        generalize (w2.alloc (.cells #[.int .u64 0, .int .u64 0, .int .u64 0, .int .u64 0, .int .u64 0, .int .u64 0, .int .u64 0, .int .u64 0] 50)) = W2 at *
        generalize w2.heap.size = g8 at *
        refine (keepNearest_any p q _).mono ?_
        rintro e w3 ⟨rfl, YP, YS, YB, YL, hB⟩
        have hl8 := X8.lt
        replace HB := HB.trans (hB.mono HB.size)
        replace X5 := X5.step hB
        replace X8 := X8.step hB
        clear hB
        have hg5 : w.heap.size ≤ w.heap.size + 1 := by omega
        have hg8 : w.heap.size + 1 < g8 := hl5
        have hgp : g8 < W2.heap.size := hl8
        have hgs : W2.heap.size < W2.heap.size + 1 := by omega
        have hgb : W2.heap.size + 1 < W2.heap.size + 1 + 1 := by omega
        have hgl : W2.heap.size + 1 + 1 < W2.heap.size + 1 + 1 + 1 := by omega
        go_wp2_with fail
        generalize W2.heap.size + 1 + 1 + 1 = gl at *
        generalize W2.heap.size + 1 + 1 = gb at *
        generalize W2.heap.size + 1 = gs at *
        generalize W2.heap.size = gp at *
        generalize w.heap.size + 1 = g5 at *
        have I0 : Hid (NwI w w3 n x p q g5 g8 gp gs gl gb 0) := ⟨HB, X5, X8, YP, YS, YL, YB⟩
        clear HB X5 X8 YP YS YL YB hl5 hl8
        go_loopw [7, 30] (fun v i wr => ∃ c : Nat, c ≤ n ∧ i = .int .i64 c ∧ v = .int .i64 (kN x p q c) ∧ NwI w wr n x p q g5 g8 gp gs gl gb c) (fun _ i _ => n - (intOf i).toNat)
        case atStart => exact ⟨0, Nat.zero_le _, rfl, rfl, I0.out⟩
        case round =>
          clear I0
          obtain ⟨c, hc, rfl, rfl, hI⟩ := hrel
          by_cases hcn : c < n
          · obtain ⟨A, off, hao, hA, hcell⟩ := HS.out.step hI.below c hcn
            subst hao
            have q0 := hcell 0 (by omega); have q1 := hcell 1 (by omega); have q2 := hcell 2 (by omega); have q3 := hcell 3 (by omega)
            simp only [Nat.add_zero] at q0
            have hcI : (c : Int) < n := by omega
            obtain ⟨tu0, tv0, pv0, hnw⟩ := near_nums (HA.out c hcn) HP.out
            have tu : told (uAt x p q c) = true := tu0
            have tv : told (vAt x p q c) = true := tv0
            have pv : 0 < vAt x p q c := pv0
            clear tu0 tv0 pv0
            have hN : ∀ w, Calls Try.prog 113 #[.agg #[.int .i64 (x (c * 4)), .int .i64 (x (c * 4 + 1)), .int .i64 (x (c * 4 + 2)), .int .i64 (x (c * 4 + 3))], .agg #[.int .i64 p, .int .i64 q]] w (VP (.tuple #[.agg #[.int .u64 (ww3 (uAt x p q c)), .int .u64 (ww2 (uAt x p q c)), .int .u64 (ww1 (uAt x p q c)), .int .u64 (ww0 (uAt x p q c)), .int .u64 (ww3 (vAt x p q c)), .int .u64 (ww2 (vAt x p q c)), .int .u64 (ww1 (vAt x p q c)), .int .u64 (ww0 (vAt x p q c))], .bool true]) w) := by
              intro w
              have h := implNear2_det (x (c * 4)) (x (c * 4 + 1)) (x (c * 4 + 2)) (x (c * 4 + 3)) p q w
              rw [show nearV (x (c * 4)) (x (c * 4 + 1)) (x (c * 4 + 2)) (x (c * 4 + 3)) p q = .tuple #[.agg #[.int .u64 (ww3 (uAt x p q c)), .int .u64 (ww2 (uAt x p q c)), .int .u64 (ww1 (uAt x p q c)), .int .u64 (ww0 (uAt x p q c)), .int .u64 (ww3 (vAt x p q c)), .int .u64 (ww2 (vAt x p q c)), .int .u64 (ww1 (vAt x p q c)), .int .u64 (ww0 (vAt x p q c))], .bool true] by unfold nearV; rw [HA.out c hcn, HP.out]; exact hnw] at h
              exact h
            have hO : (c : Int) ≠ 0 → ∀ w, Calls Try.prog 114 #[.agg #[.int .u64 (ww3 (uAt x p q c)), .int .u64 (ww2 (uAt x p q c)), .int .u64 (ww1 (uAt x p q c)), .int .u64 (ww0 (uAt x p q c)), .int .u64 (ww3 (vAt x p q c)), .int .u64 (ww2 (vAt x p q c)), .int .u64 (ww1 (vAt x p q c)), .int .u64 (ww0 (vAt x p q c))], .agg #[.int .u64 (ww3 (kU x p q c)), .int .u64 (ww2 (kU x p q c)), .int .u64 (ww1 (kU x p q c)), .int .u64 (ww0 (kU x p q c)), .int .u64 (ww3 (kV x p q c)), .int .u64 (ww2 (kV x p q c)), .int .u64 (ww1 (kV x p q c)), .int .u64 (ww0 (kV x p q c))]] w (VP (.int .i64 (cmpI (uAt x p q c * kV x p q c) (kU x p q c * vAt x p q c))) w) := by
              intro h0 w
              have hj : nsI x p q (c - 1) < n := by have := nsI_le x p q (c - 1); omega
              obtain ⟨tl, tm, pm, _⟩ := near_nums (HA.out _ hj) HP.out
              have f2 : kU x p q c = uAt x p q (nsI x p q (c - 1)) := by unfold kU; rw [if_neg (by omega)]
              have f3 : kV x p q c = vAt x p q (nsI x p q (c - 1)) := by unfold kV; rw [if_neg (by omega)]
              have tl' : told (kU x p q c) = true := by rw [f2]; exact tl
              have tm' : told (kV x p q c) = true := by rw [f3]; exact tm
              have pm' : 0 < kV x p q c := by rw [f3]; exact pm
              obtain ⟨a3, a2, a1, a0⟩ := ww_words (uAt x p q c)
              obtain ⟨b3, b2, b1, b0⟩ := ww_words (vAt x p q c)
              obtain ⟨c3, c2, c1, c0⟩ := ww_words (kU x p q c)
              obtain ⟨d3, d2, d1, d0⟩ := ww_words (kV x p q c)
              have h := ratOrder_any _ _ _ _ _ _ _ _ _ _ _ _ _ _ _ _ a3 a2 a1 a0 b3 b2 b1 b0 c3 c2 c1 c0 d3 d2 d1 d0 (by rw [ww_sw tv]; exact pv) (by rw [ww_sw tm']; exact pm') w
              rw [ww_sw tu, ww_sw tv, ww_sw tl', ww_sw tm'] at h
              exact h
            obtain ⟨up, hup⟩ : ∃ up, up = (decide ((c : Int) = 0) || decide (cmpI (uAt x p q c * kV x p q c) (kU x p q c * vAt x p q c) < 0)) := ⟨_, rfl⟩
            obtain ⟨s1, s2, s3⟩ := k_succ x p q c up hup
            have CC := fun w XP XS XL XB => near1_any gp gp gs gl gb (x (c * 4)) (x (c * 4 + 1)) (x (c * 4 + 2)) (x (c * 4 + 3)) p q (uAt x p q c) (vAt x p q c) (kU x p q c) (kV x p q c) c (kN x p q c) _ up hN hO (by omega) (by omega) hup w XP XS XL XB (by omega) (by omega) (by omega) (by omega) (by omega) (by omega) (Nat.le_refl _) (by omega) (by omega) (by omega)
            rw [s1, s2, s3] at CC
            clear hN hO hup s1 s2 s3 tu tv pv hnw hcell
            obtain ⟨HB, X5, X8, XP, XS, XL, XB⟩ := hI
            go_wp2_with fail
            refine (CC _ (XP.alloc _) (XS.alloc _) (XL.alloc _) (XB.alloc _)).mono ?_
            rintro e w4 ⟨rfl, YP, YS, YL, YB, hB⟩
            have HB2 : Below w.heap.size w w4 := (HB.alloc HB.size _).trans (hB.mono (by omega))
            have Y5 := (X5.alloc (.cells #[.int .i64 (x (c * 4)), .int .i64 (x (c * 4 + 1)), .int .i64 (x (c * 4 + 2)), .int .i64 (x (c * 4 + 3))] 103)).below hB (by omega)
            have Y8 := (X8.alloc (.cells #[.int .i64 (x (c * 4)), .int .i64 (x (c * 4 + 1)), .int .i64 (x (c * 4 + 2)), .int .i64 (x (c * 4 + 3))] 103)).below hB (by omega)
            have hcs : ((c : Int) + 1) = ((c + 1 : Nat) : Int) := by omega
            rw [hcs] at YS
            clear hB CC HB X5 X8 XP XS XL XB q0 q1 q2 q3 hA hcs
            have o0 := Y8.c 0 rfl; have r0 := Y8.f 0 rfl; have o1 := Y8.c 1 rfl; have r1 := Y8.f 1 rfl; have o2 := Y8.c 2 rfl; have r2 := Y8.f 2 rfl; have o3 := Y8.c 3 rfl; have r3 := Y8.f 3 rfl; have o4 := Y8.c 4 rfl; have r4 := Y8.f 4 rfl; have o5 := Y8.c 5 rfl; have r5 := Y8.f 5 rfl; have o6 := Y8.c 6 rfl; have r6 := Y8.f 6 rfl; have o7 := Y8.c 7 rfl; have r7 := Y8.f 7 rfl; have ol := Y8.lt
            have HN : Hid (NwI w ((((((((w4.setCell ⟨g8, 0, none⟩ (.int .u64 (ww3 (kU x p q (c + 1))))).setCell ⟨g8, 1, none⟩ (.int .u64 (ww2 (kU x p q (c + 1))))).setCell ⟨g8, 2, none⟩ (.int .u64 (ww1 (kU x p q (c + 1))))).setCell ⟨g8, 3, none⟩ (.int .u64 (ww0 (kU x p q (c + 1))))).setCell ⟨g8, 4, none⟩ (.int .u64 (ww3 (kV x p q (c + 1))))).setCell ⟨g8, 5, none⟩ (.int .u64 (ww2 (kV x p q (c + 1))))).setCell ⟨g8, 6, none⟩ (.int .u64 (ww1 (kV x p q (c + 1))))).setCell ⟨g8, 7, none⟩ (.int .u64 (ww0 (kV x p q (c + 1))))) n x p q g5 g8 gp gs gl gb (c + 1)) := by
              refine ⟨?_, Y5.set8 (by omega), Blk.stored8 Y8 _ _ _ _ _ _ _ _, YP.set8 (by omega), YS.set8 (by omega), YL.set8 (by omega), YB.set8 (by omega)⟩
              repeat' (refine Below.setCell ?_ (by simp; omega) _)
              exact HB2
            clear Y5 Y8 YP YS YL YB HB2
            go_wp2
            go_roundw
            case rel => exact ⟨c + 1, by omega, by go_num, rfl, HN.out⟩
            case measure => simp [intOf]; omega
          · obtain rfl : c = n := by omega
            obtain ⟨HB, X5, X8, _, _, _, _⟩ := hI
            go_upto_region 11 with fail
            refine nkE (B4 := w.heap.size) (A5 := g5) (A8 := g8) (k := kN x p q c) (by omega) (by omega) rfl rfl rfl rfl ⟨X8.drew, _, _, _, _, _, _, _, _, X5.drew⟩ ?_
            rintro ⟨tm, df⟩ Wz hz hdf hoff h4 hR h6 hBz _
            have hR : Blk Wz g5 [.int .u64 (ww3 (kU x p q c)), .int .u64 (ww2 (kU x p q c)), .int .u64 (ww1 (kU x p q c)), .int .u64 (ww0 (kU x p q c)), .int .u64 (ww3 (kV x p q c)), .int .u64 (ww2 (kV x p q c)), .int .u64 (ww1 (kV x p q c)), .int .u64 (ww0 (kV x p q c))] := hR
            simp only at hz hdf hoff
            change tm.getD 4 undef = .int .i64 (kN x p q c) at h4
            change tm.getD 6 undef = .bool true at h6
            subst hdf
            have htm := tmps_fold [41, 42, 4, 6] tm _ hz hoff
            simp only [List.foldl, List.setIfInBounds_toArray, List.set_cons_zero, List.set_cons_succ, h4, h6] at htm
            clear hz hoff
            generalize tm.getD 41 undef = s0, tm.getD 42 undef = s1 at htm
            clear h4 h6
            subst htm
            have HBF := HB.trans hBz
            clear X5 X8 HB hBz
            have m0 := hR.c 0 rfl; have m1 := hR.c 1 rfl; have m2 := hR.c 2 rfl; have m3 := hR.c 3 rfl; have m4 := hR.c 4 rfl; have m5 := hR.c 5 rfl; have m6 := hR.c 6 rfl; have m7 := hR.c 7 rfl
            go_wp2
            refine bodyPost_ret (v := .tuple #[.int .i64 (kN x p q c), .agg #[.int .u64 (ww3 (kU x p q c)), .int .u64 (ww2 (kU x p q c)), .int .u64 (ww1 (kU x p q c)), .int .u64 (ww0 (kU x p q c)), .int .u64 (ww3 (kV x p q c)), .int .u64 (ww2 (kV x p q c)), .int .u64 (ww1 (kV x p q c)), .int .u64 (ww0 (kV x p q c))], .bool true]) (by simp [results, Try.results26, go_sem, m0, m1, m2, m3, m4, m5, m6, m7]) rfl ?_
            refine ⟨?_, HBF⟩
            have f1 : kN x p q c = (nsI x p q (c - 1) : Nat) := by unfold kN; rw [if_neg hn]
            have f2 : kU x p q c = uAt x p q (nsI x p q (c - 1)) := by unfold kU; rw [if_neg hn]
            have f3 : kV x p q c = vAt x p q (nsI x p q (c - 1)) := by unfold kV; rw [if_neg hn]
            unfold nsV
            rw [HO.out, f1, f2, f3]
            rfl
  · have HO : Hid (nsOk n x p q = false) := by show _ = _; unfold nsOk; rw [decide_eq_false hsg]; simp
    have hs0 : (sgI n x == 0) = false := beq_eq_false_iff_ne.2 hsg
    generalize sgI n x = sg at *
    have o0 := X5.c 0 rfl; have r0 := X5.f 0 rfl; have o1 := X5.c 1 rfl; have r1 := X5.f 1 rfl; have o2 := X5.c 2 rfl; have r2 := X5.f 2 rfl; have o3 := X5.c 3 rfl; have r3 := X5.f 3 rfl; have o4 := X5.c 4 rfl; have r4 := X5.f 4 rfl; have o5 := X5.c 5 rfl; have r5 := X5.f 5 rfl; have o6 := X5.c 6 rfl; have r6 := X5.f 6 rfl; have o7 := X5.c 7 rfl; have r7 := X5.f 7 rfl; have ol := X5.lt
    clear X5 XP
    go_wp2
    refine bodyPost_ret (v := .tuple #[.int .i64 0, .agg #[.int .u64 0, .int .u64 0, .int .u64 0, .int .u64 0, .int .u64 0, .int .u64 0, .int .u64 0, .int .u64 0], .bool false]) (by simp [results, Try.results26, go_sem, o0, o1, o2, o3, o4, o5, o6, o7]) rfl ?_
    refine ⟨by unfold nsV; rw [HO.out]; rfl, ?_⟩
    repeat' (refine Below.setCell ?_ (by simp; try omega) _)
    exact HB
end Go.Proofs.Ytmjlgmoohpnhfaa

/- The region of the law in which the model is asked for the nearest segment. -/
namespace Go.Proofs.Ytmjlgmoohpnhfaa
open Go.RowKit
def VnsL (_B4 _A3 : Nat) (ao : Option Addr) (n cap : Nat) (_x : Nat → Int) (p q k y0 y1 y2 y3 y4 y5 y6 y7 : Int) (f : Bool) (_B : Nat) : Nat → Value → World → Prop
  | 0, v, _ => v = .slice ao n cap
  | 2, v, _ => v = .agg #[.int .i64 p, .int .i64 q]
  | 3, v, _ => v = .agg #[.int .i64 p, .int .i64 q]
  | 4, v, _ => v = .tuple #[.int .i64 k, .agg #[.int .u64 y0, .int .u64 y1, .int .u64 y2, .int .u64 y3, .int .u64 y4, .int .u64 y5, .int .u64 y6, .int .u64 y7], .bool f]
  | 5, v, _ => v = .tuple #[.int .i64 k, .agg #[.int .u64 y0, .int .u64 y1, .int .u64 y2, .int .u64 y3, .int .u64 y4, .int .u64 y5, .int .u64 y6, .int .u64 y7], .bool f]
  | 6, v, _ => v = .int .i64 k
  | 7, v, _ => v = .agg #[.int .u64 y0, .int .u64 y1, .int .u64 y2, .int .u64 y3, .int .u64 y4, .int .u64 y5, .int .u64 y6, .int .u64 y7]
  | 8, v, _ => v = .bool f
  | 10, v, _ => v = .int .i64 k
  | 12, v, _ => v = .bool f
  | _, _, _ => True
theorem VnsL.mono {B4 A3 : Nat} {ao : Option Addr} {n cap : Nat} {x : Nat → Int} {p q k y0 y1 y2 y3 y4 y5 y6 y7 : Int} {f : Bool} {B j : Nat} {v : Value} {W W2 : World} (_hB : Below W.heap.size W W2) (h : VnsL B4 A3 ao n cap x p q k y0 y1 y2 y3 y4 y5 y6 y7 f B j v W) : VnsL B4 A3 ao n cap x p q k y0 y1 y2 y3 y4 y5 y6 y7 f B j v W2 := by
  unfold VnsL at *
  split <;> simp only at h <;> first | exact h | trivial
theorem VnsL.same {B4 A3 : Nat} {ao : Option Addr} {n cap : Nat} {x : Nat → Int} {p q k y0 y1 y2 y3 y4 y5 y6 y7 : Int} {f : Bool} {B j : Nat} {v : Value} {W W2 : World} (h : VnsL B4 A3 ao n cap x p q k y0 y1 y2 y3 y4 y5 y6 y7 f B j v W) : VnsL B4 A3 ao n cap x p q k y0 y1 y2 y3 y4 y5 y6 y7 f B j v W2 := by
  unfold VnsL at *
  split <;> simp only at h <;> first | exact h | trivial
theorem getD_listedL {l : Array Bool} {i : Nat} (h : l.getD i true = false) : l.getD i false = false := by
  rcases Nat.lt_or_ge i l.size with h' | h'
  · simpa [Array.getD, h'] using h
  · simp [Array.getD, Nat.not_lt.2 h'] at h
theorem getD_putL {l : Array Bool} {i : Nat} (hi : i < l.size) : (l.setIfInBounds i true).getD i false = true := by
  simp [Array.getD, hi]
def SnsL (B4 _A3 : Nat) (_ao : Option Addr) (n _cap : Nat) (x : Nat → Int) (_p _q _k y0 y1 y2 y3 y4 y5 y6 y7 : Int) (_f : Bool) (lz : Array Bool) (az : Act) (W : World) : Prop := (lz.getD 1 false = true → ∃ g1, az.tmps.getD 20 undef = .slice (some ⟨g1, 0, none⟩) n n ∧ (lz.getD 4 false = true ∨ SegIn W (some ⟨g1, 0, none⟩) n x)) ∧ (lz.getD 11 false = true → lz.getD 9 false = true) ∧ (lz.getD 9 false = true → ∃ gz, az.tmps.getD 7 undef = .pointer (some ⟨gz, 0, none⟩) ∧ B4 ≤ gz ∧ (∃ z0q z1q z2q z3q z4q z5q z6q z7q, Blk W gz [z0q, z1q, z2q, z3q, z4q, z5q, z6q, z7q]) ∧ (lz.getD 11 false = true → Blk W gz [.int .u64 y0, .int .u64 y1, .int .u64 y2, .int .u64 y3, .int .u64 y4, .int .u64 y5, .int .u64 y6, .int .u64 y7]))
theorem SnsL.quiet {B4 A3 : Nat} {ao : Option Addr} {n cap : Nat} {x : Nat → Int} {p q k y0 y1 y2 y3 y4 y5 y6 y7 : Int} {f : Bool} {lz : Array Bool} {az : Act} {W : World} (h : SnsL B4 A3 ao n cap x p q k y0 y1 y2 y3 y4 y5 y6 y7 f lz az W) (i d : Nat) (v : Value) (hi : i ≠ 1 ∧ i ≠ 4 ∧ i ≠ 9 ∧ i ≠ 11) (hd : d ≠ 20 ∧ d ≠ 7) : SnsL B4 A3 ao n cap x p q k y0 y1 y2 y3 y4 y5 y6 y7 f (lz.setIfInBounds i true) (az.put (some d) v) W := by
  obtain ⟨h1, h2, h3⟩ := h
  refine ⟨fun hl => ?_, fun hl => ?_, fun hl => ?_⟩
  · rw [getD_set_ne false hi.1] at hl
    obtain ⟨g1, e1, e2⟩ := h1 hl
    exact ⟨g1, by rw [put_getD_ne hd.1]; exact e1, by rw [getD_set_ne false hi.2.1]; exact e2⟩
  · rw [getD_set_ne false hi.2.2.2] at hl
    rw [getD_set_ne false hi.2.2.1]
    exact h2 hl
  · rw [getD_set_ne false hi.2.2.1] at hl
    obtain ⟨gz, e1, e2, e3, e4⟩ := h3 hl
    exact ⟨gz, by rw [put_getD_ne hd.2]; exact e1, e2, e3, fun h => e4 (by rw [getD_set_ne false hi.2.2.2] at h; exact h)⟩
theorem SnsL.step {B4 A3 : Nat} {ao : Option Addr} {n cap : Nat} {x : Nat → Int} {p q k y0 y1 y2 y3 y4 y5 y6 y7 : Int} {f : Bool} {lz : Array Bool} {az : Act} {W W2 : World} (h : SnsL B4 A3 ao n cap x p q k y0 y1 y2 y3 y4 y5 y6 y7 f lz az W) (hB : Below W.heap.size W W2) : SnsL B4 A3 ao n cap x p q k y0 y1 y2 y3 y4 y5 y6 y7 f lz az W2 := by
  obtain ⟨h1, h2, h3⟩ := h
  refine ⟨fun hl => ?_, h2, fun hl => ?_⟩
  · obtain ⟨g1, e1, e2⟩ := h1 hl
    exact ⟨g1, e1, e2.imp (fun h => h) (fun h => h.step hB)⟩
  · obtain ⟨gz, e1, e2, ⟨z0q, z1q, z2q, z3q, z4q, z5q, z6q, z7q, e3⟩, e4⟩ := h3 hl
    exact ⟨gz, e1, e2, ⟨_, _, _, _, _, _, _, _, e3.step hB⟩, fun h => (e4 h).step hB⟩
theorem SnsL.one {B4 A3 : Nat} {ao : Option Addr} {n cap : Nat} {x : Nat → Int} {p q k y0 y1 y2 y3 y4 y5 y6 y7 : Int} {f : Bool} {lz : Array Bool} {az : Act} {W : World} (h : SnsL B4 A3 ao n cap x p q k y0 y1 y2 y3 y4 y5 y6 y7 f lz az W) {g1 : Nat} (hs : 20 < az.tmps.size) (hS : SegIn W (some ⟨g1, 0, none⟩) n x) : SnsL B4 A3 ao n cap x p q k y0 y1 y2 y3 y4 y5 y6 y7 f (lz.setIfInBounds 1 true) (az.put (some 20) (.slice (some ⟨g1, 0, none⟩) n n)) W := by
  obtain ⟨h1, h2, h3⟩ := h
  refine ⟨fun _ => ⟨g1, put_getD_same hs, .inr hS⟩, fun hl => ?_, fun hl => ?_⟩
  · rw [getD_set_ne false (by decide)] at hl ⊢
    exact h2 hl
  · rw [getD_set_ne false (by decide)] at hl
    obtain ⟨gz, e1, e2, e3, e4⟩ := h3 hl
    exact ⟨gz, by rw [put_getD_ne (by decide)]; exact e1, e2, e3, fun h => e4 (by rw [getD_set_ne false (by decide)] at h; exact h)⟩
theorem SnsL.four {B4 A3 : Nat} {ao : Option Addr} {n cap : Nat} {x : Nat → Int} {p q k y0 y1 y2 y3 y4 y5 y6 y7 : Int} {f : Bool} {lz : Array Bool} {az : Act} {W : World} (h : SnsL B4 A3 ao n cap x p q k y0 y1 y2 y3 y4 y5 y6 y7 f lz az W) (v : Value) (hs : 4 < lz.size) : SnsL B4 A3 ao n cap x p q k y0 y1 y2 y3 y4 y5 y6 y7 f (lz.setIfInBounds 4 true) (az.put (some 23) v) W := by
  obtain ⟨h1, h2, h3⟩ := h
  refine ⟨fun hl => ?_, fun hl => ?_, fun hl => ?_⟩
  · rw [getD_set_ne false (by decide)] at hl
    obtain ⟨g1, e1, e2⟩ := h1 hl
    exact ⟨g1, by rw [put_getD_ne (by decide)]; exact e1, .inl (getD_putL hs)⟩
  · rw [getD_set_ne false (by decide)] at hl ⊢
    exact h2 hl
  · rw [getD_set_ne false (by decide)] at hl
    obtain ⟨gz, e1, e2, e3, e4⟩ := h3 hl
    exact ⟨gz, by rw [put_getD_ne (by decide)]; exact e1, e2, e3, fun h => e4 (by rw [getD_set_ne false (by decide)] at h; exact h)⟩
theorem SnsL.nine {B4 A3 : Nat} {ao : Option Addr} {n cap : Nat} {x : Nat → Int} {p q k y0 y1 y2 y3 y4 y5 y6 y7 : Int} {f : Bool} {lz : Array Bool} {az : Act} {W : World} (h : SnsL B4 A3 ao n cap x p q k y0 y1 y2 y3 y4 y5 y6 y7 f lz az W) (hn : lz.getD 9 true = false) {gz : Nat} (hs : 7 < az.tmps.size) (hz : B4 ≤ gz) (hb : Blk W gz [.int .u64 0, .int .u64 0, .int .u64 0, .int .u64 0, .int .u64 0, .int .u64 0, .int .u64 0, .int .u64 0]) : SnsL B4 A3 ao n cap x p q k y0 y1 y2 y3 y4 y5 y6 y7 f (lz.setIfInBounds 9 true) (az.put (some 7) (.pointer (some ⟨gz, 0, none⟩))) W := by
  obtain ⟨h1, h2, h3⟩ := h
  have hn' : lz.getD 9 false = false := getD_listedL hn
  refine ⟨fun hl => ?_, fun hl => ?_, fun _ => ⟨gz, put_getD_same hs, hz, ⟨_, _, _, _, _, _, _, _, hb⟩, fun hl => ?_⟩⟩
  · rw [getD_set_ne false (by decide)] at hl
    obtain ⟨g1, e1, e2⟩ := h1 hl
    exact ⟨g1, by rw [put_getD_ne (by decide)]; exact e1, by rw [getD_set_ne false (by decide)]; exact e2⟩
  · rw [getD_set_ne false (by decide)] at hl
    rw [h2 hl] at hn'
    cases hn'
  · rw [getD_set_ne false (by decide)] at hl
    rw [h2 hl] at hn'
    cases hn'
theorem SnsL.eleven {B4 A3 : Nat} {ao : Option Addr} {n cap : Nat} {x : Nat → Int} {p q k y0 y1 y2 y3 y4 y5 y6 y7 : Int} {f : Bool} {lz : Array Bool} {az : Act} {W W2 : World} (h : SnsL B4 A3 ao n cap x p q k y0 y1 y2 y3 y4 y5 y6 y7 f lz az W) (h4 : lz.getD 4 false = true) (h9 : lz.getD 9 false = true) {gz : Nat} (e1 : az.tmps.getD 7 undef = .pointer (some ⟨gz, 0, none⟩)) (e2 : B4 ≤ gz) (hb : Blk W2 gz [.int .u64 y0, .int .u64 y1, .int .u64 y2, .int .u64 y3, .int .u64 y4, .int .u64 y5, .int .u64 y6, .int .u64 y7]) : SnsL B4 A3 ao n cap x p q k y0 y1 y2 y3 y4 y5 y6 y7 f (lz.setIfInBounds 11 true) az W2 := by
  obtain ⟨h1, h2, h3⟩ := h
  refine ⟨fun hl => ?_, fun _ => ?_, fun _ => ⟨gz, e1, e2, ⟨_, _, _, _, _, _, _, _, hb⟩, fun _ => hb⟩⟩
  · rw [getD_set_ne false (by decide)] at hl
    obtain ⟨g1, a1, _⟩ := h1 hl
    exact ⟨g1, a1, .inl (by rw [getD_set_ne false (by decide)]; exact h4)⟩
  · rw [getD_set_ne false (by decide)]; exact h9

def JnsL (B4 A3 : Nat) (ao : Option Addr) (n cap : Nat) (x : Nat → Int) (p q k y0 y1 y2 y3 y4 y5 y6 y7 : Int) (f : Bool) (w0 : World) (a0 : Act) (lz : Array Bool) (az : Act) (W : World) : Prop := InvQ (w0.heap.size) [some 19, some 20, some 21, some 22, some 23, some 18, some 24, some 25, some 26, some 7, some 6, none, some 8] (VnsL B4 A3 ao n cap x p q k y0 y1 y2 y3 y4 y5 y6 y7 f (w0.heap.size)) w0 a0 lz az W ∧ SnsL B4 A3 ao n cap x p q k y0 y1 y2 y3 y4 y5 y6 y7 f lz az W
set_option maxRecDepth 100000 in
set_option maxHeartbeats 4000000 in
theorem nsL {Q : Exit → Act → World → Prop} {B4 A3 : Nat} {ao : Option Addr} {n cap : Nat} {x : Nat → Int} {p q k y0 y1 y2 y3 y4 y5 y6 y7 : Int} {f : Bool}  {w0 : World} {a0 : Act} {idq : Nat} {t0 t1 t2 t3 t4 t5 t6 t7 t8 t9 t10 t11 t12 : TypeId} {q0 q1 q2 q3 q4 q5 q6 q7 q8 q9 q10 q11 q12 : String}
    (hB4 : B4 = w0.heap.size) (hSg : SegIn w0 ao n x) (hT1 : ∀ w, SegIn w ao n x → Calls Try.prog 24 #[.slice ao n cap] w (fun e w' => ∃ g, e = .returned (.slice (some ⟨g, 0, none⟩) n n) ∧ w'.rowIs g 103 (n * 4) (fun i => .int .i64 (x i)) ∧ Below w.heap.size w w')) (hT2 : ∀ w, Calls Try.prog 25 #[.agg #[.int .i64 p, .int .i64 q]] w (fun e w' => e = .returned (.agg #[.int .i64 p, .int .i64 q]) ∧ Below w.heap.size w w')) (hT3 : ∀ g w, SegIn w (some ⟨g, 0, none⟩) n x → Calls Try.prog 23 #[.slice (some ⟨g, 0, none⟩) n n, .agg #[.int .i64 p, .int .i64 q]] w (VP (.tuple #[.int .i64 k, .agg #[.int .u64 y0, .int .u64 y1, .int .u64 y2, .int .u64 y3, .int .u64 y4, .int .u64 y5, .int .u64 y6, .int .u64 y7], .bool f]) w)) (h0 : a0.tmps[0]? = some (.slice ao n cap)) (h3 : a0.tmps[3]? = some (.pointer (some ⟨A3, 0, none⟩))) (k0 : w0.cell? ⟨A3, 0, none⟩ = some (.int .i64 p)) (l0 : (⟨A3, 0, none⟩ : Addr).block < w0.heap.size) (k1 : w0.cell? ⟨A3, 1, none⟩ = some (.int .i64 q)) (l1 : (⟨A3, 1, none⟩ : Addr).block < w0.heap.size) (hz : a0.tmps.size = 56)
    (hQ : ∀ aq W, aq.tmps.size = a0.tmps.size → aq.defers = a0.defers → (∀ e, e ∉ ([19, 20, 21, 22, 23, 18, 24, 25, 26, 7, 6, 8] : List Nat) → aq.tmps[e]? = a0.tmps[e]?) → VnsL B4 A3 ao n cap x p q k y0 y1 y2 y3 y4 y5 y6 y7 f (w0.heap.size) 10 (aq.tmps.getD 6 undef) W → VnsL B4 A3 ao n cap x p q k y0 y1 y2 y3 y4 y5 y6 y7 f (w0.heap.size) 11 undef W → VnsL B4 A3 ao n cap x p q k y0 y1 y2 y3 y4 y5 y6 y7 f (w0.heap.size) 12 (aq.tmps.getD 8 undef) W → Below (w0.heap.size) w0 W → (∃ gz, aq.tmps.getD 7 undef = .pointer (some ⟨gz, 0, none⟩) ∧ w0.heap.size ≤ gz ∧ Blk W gz [.int .u64 y0, .int .u64 y1, .int .u64 y2, .int .u64 y3, .int .u64 y4, .int .u64 y5, .int .u64 y6, .int .u64 y7]) → Q .normal aq W) :
    (Code.region idq #[{ dst := some 19, op := Op.move (Operand.tmp 0), type := t0, pos := q0, after := #[], guard := none },
    { dst := some 20, op := Op.call { callee := Callee.value (Operand.func 24), args := #[Operand.tmp 19], argTypes := #[42] }, type := t1, pos := q1, after := #[{ on := 0, ground := Ground.data }], guard := none },
    { dst := some 21, op := Op.load 44 (Operand.tmp 3), type := t2, pos := q2, after := #[], guard := none },
    { dst := some 22, op := Op.call { callee := Callee.value (Operand.func 25), args := #[Operand.tmp 21], argTypes := #[44] }, type := t3, pos := q3, after := #[{ on := 2, ground := Ground.data }, { on := 1, ground := Ground.chain }], guard := none },
    { dst := some 23, op := Op.call { callee := Callee.value (Operand.func 23), args := #[Operand.tmp 20, Operand.tmp 22], argTypes := #[53, 55] }, type := t4, pos := q4, after := #[{ on := 1, ground := Ground.data }, { on := 3, ground := Ground.data }, { on := 3, ground := Ground.chain }], guard := none },
    { dst := some 18, op := Op.move (Operand.tmp 23), type := t5, pos := q5, after := #[{ on := 4, ground := Ground.data }], guard := none },
    { dst := some 24, op := Op.extract (Operand.tmp 18) 0, type := t6, pos := q6, after := #[{ on := 5, ground := Ground.data }], guard := none },
    { dst := some 25, op := Op.extract (Operand.tmp 18) 1, type := t7, pos := q7, after := #[{ on := 5, ground := Ground.data }, { on := 10, ground := Ground.gcOnly Departure.lateStores }], guard := none },
    { dst := some 26, op := Op.extract (Operand.tmp 18) 2, type := t8, pos := q8, after := #[{ on := 5, ground := Ground.data }, { on := 11, ground := Ground.gcOnly Departure.lateStores }], guard := none },
    { dst := some 7, op := Op.alloc 50, type := t9, pos := q9, after := #[], guard := none },
    { dst := some 6, op := Op.assign (Operand.tmp 24), type := t10, pos := q10, after := #[{ on := 6, ground := Ground.data }, { on := 4, ground := Ground.chain }, { on := 0, ground := Ground.phase }, { on := 1, ground := Ground.phase }, { on := 2, ground := Ground.phase }, { on := 3, ground := Ground.phase }, { on := 4, ground := Ground.phase }, { on := 5, ground := Ground.phase }, { on := 6, ground := Ground.phase }, { on := 7, ground := Ground.textOnly Departure.lateStores }, { on := 8, ground := Ground.textOnly Departure.lateStores }, { on := 9, ground := Ground.phase }], guard := none },
    { dst := none, op := Op.store 50 (Operand.tmp 7) (Operand.tmp 25), type := t11, pos := q11, after := #[{ on := 9, ground := Ground.data }, { on := 7, ground := Ground.data }, { on := 10, ground := Ground.chain }, { on := 0, ground := Ground.phase }, { on := 1, ground := Ground.phase }, { on := 2, ground := Ground.phase }, { on := 3, ground := Ground.phase }, { on := 4, ground := Ground.phase }, { on := 5, ground := Ground.phase }, { on := 6, ground := Ground.phase }, { on := 7, ground := Ground.phase }, { on := 8, ground := Ground.textOnly Departure.lateStores }, { on := 9, ground := Ground.phase }, { on := 10, ground := Ground.phase }], guard := none },
    { dst := some 8, op := Op.assign (Operand.tmp 26), type := t12, pos := q12, after := #[{ on := 8, ground := Ground.data }, { on := 11, ground := Ground.chain }, { on := 0, ground := Ground.phase }, { on := 1, ground := Ground.phase }, { on := 2, ground := Ground.phase }, { on := 3, ground := Ground.phase }, { on := 4, ground := Ground.phase }, { on := 5, ground := Ground.phase }, { on := 6, ground := Ground.phase }, { on := 7, ground := Ground.phase }, { on := 8, ground := Ground.phase }, { on := 9, ground := Ground.phase }, { on := 10, ground := Ground.phase }, { on := 11, ground := Ground.phase }], guard := none }] true).wp Try.prog Q a0 w0 := by
  have hS : distS [some 19, some 20, some 21, some 22, some 23, some 18, some 24, some 25, some 26, some 7, some 6, none, some 8] = true := rfl
  refine wp_region_inv (by kernel_rfl) (JnsL B4 A3 ao n cap x p q k y0 y1 y2 y3 y4 y5 y6 y7 f w0 a0) ⟨⟨rfl, rfl, rfl, fun _ _ => rfl, (Below.refl _ w0).drew, fun j d hj => ?_, fun j hj => ?_⟩, ⟨fun h => by exfalso; rw [Array.getD_eq_getD_getElem?, Array.getElem?_replicate] at h; split at h <;> simp at h, fun h => by exfalso; rw [Array.getD_eq_getD_getElem?, Array.getElem?_replicate] at h; split at h <;> simp at h, fun h => by exfalso; rw [Array.getD_eq_getD_getElem?, Array.getElem?_replicate] at h; split at h <;> simp at h⟩⟩ ?_ ?_
  · exfalso
    rw [Array.getD_eq_getD_getElem?, Array.getElem?_replicate] at hj
    split at hj <;> simp at hj
  · exfalso
    rw [Array.getD_eq_getD_getElem?, Array.getElem?_replicate] at hj
    split at hj <;> simp at hj
  · intro lq aq W iq oq ⟨hJ, hs⟩ hl ho hall
    have hJ2 := hJ
    obtain ⟨z1, z2, z3, z4, z5, z6, z7⟩ := hJ
    have g0 : aq.tmps.getD 0 undef = .slice ao n cap := by rw [Array.getD_eq_getD_getElem?, z4 0 (by decide), h0]; rfl
    have g3 : aq.tmps.getD 3 undef = .pointer (some ⟨A3, 0, none⟩) := by rw [Array.getD_eq_getD_getElem?, z4 3 (by decide), h3]; rfl
    have c0 : W.cell? ⟨A3, 0, none⟩ = some (.int .i64 p) := (z5.cell l0).trans k0
    have c1 : W.cell? ⟨A3, 1, none⟩ = some (.int .i64 q) := (z5.cell l1).trans k1
    match iq, ho with
    | 0, ho =>
      cases ho
      refine wpOp_of rfl rfl ?_
      have hK := fun (v : Value) (W2 : World) hW hT hv (hs : SnsL B4 A3 ao n cap x p q k y0 y1 y2 y3 y4 y5 y6 y7 f (lq.setIfInBounds 0 true) (aq.put (some 19) v) W2) => show (JnsL B4 A3 ao n cap x p q k y0 y1 y2 y3 y4 y5 y6 y7 f w0 a0) (lq.setIfInBounds 0 true) (aq.put (some 19) v) W2 from ⟨hJ2.put hS 0 19 rfl (by omega) (W' := W2) hW hT v hv, hs⟩
      clear ho hall hl hQ
      generalize (JnsL B4 A3 ao n cap x p q k y0 y1 y2 y3 y4 y5 y6 y7 f w0 a0) (lq.setIfInBounds 0 true) = K at hK ⊢
      clear hJ2 hS z1 z2 z3 z4 z6 z7
      go_simp
      exact hK _ _ z5 (fun _ _ h => h) rfl (hs.quiet 0 19 _ (by decide) (by decide))
    | 1, ho =>
      cases ho
      refine wpOp_of rfl rfl ?_
      have f0 : (aq.tmps.getD 19 undef) = .slice ao n cap := z6 0 19 (hall { on := 0, ground := Ground.data } (by simp) rfl) rfl
      have hsz : 20 < aq.tmps.size := by omega
      have hK := fun (v : Value) (W2 : World) hW hT hv (hs : SnsL B4 A3 ao n cap x p q k y0 y1 y2 y3 y4 y5 y6 y7 f (lq.setIfInBounds 1 true) (aq.put (some 20) v) W2) => show (JnsL B4 A3 ao n cap x p q k y0 y1 y2 y3 y4 y5 y6 y7 f w0 a0) (lq.setIfInBounds 1 true) (aq.put (some 20) v) W2 from ⟨hJ2.put hS 1 20 rfl (by omega) (W' := W2) hW hT v hv, hs⟩
      clear ho hall hl hQ
      generalize (JnsL B4 A3 ao n cap x p q k y0 y1 y2 y3 y4 y5 y6 y7 f w0 a0) (lq.setIfInBounds 1 true) = K at hK ⊢
      clear hJ2 hS z1 z2 z3 z4 z6 z7
      go_simp
      refine (hT1 W (hSg.step z5)).mono ?_
      rintro e v1 ⟨g1, rfl, R1, hBv⟩
      exact hK _ _ (z5.trans (hBv.mono z5.size)) (fun _ _ h => h.mono hBv) trivial ((hs.step hBv).one hsz (segIn_row R1))
    | 2, ho =>
      cases ho
      refine wpOp_of rfl rfl ?_
      have hK := fun (v : Value) (W2 : World) hW hT hv (hs : SnsL B4 A3 ao n cap x p q k y0 y1 y2 y3 y4 y5 y6 y7 f (lq.setIfInBounds 2 true) (aq.put (some 21) v) W2) => show (JnsL B4 A3 ao n cap x p q k y0 y1 y2 y3 y4 y5 y6 y7 f w0 a0) (lq.setIfInBounds 2 true) (aq.put (some 21) v) W2 from ⟨hJ2.put hS 2 21 rfl (by omega) (W' := W2) hW hT v hv, hs⟩
      clear ho hall hl hQ
      generalize (JnsL B4 A3 ao n cap x p q k y0 y1 y2 y3 y4 y5 y6 y7 f w0 a0) (lq.setIfInBounds 2 true) = K at hK ⊢
      clear hJ2 hS z1 z2 z3 z4 z6 z7
      go_simp
      exact hK _ _ z5 (fun _ _ h => h) rfl (hs.quiet 2 21 _ (by decide) (by decide))
    | 3, ho =>
      cases ho
      refine wpOp_of rfl rfl ?_
      have f2 : (aq.tmps.getD 21 undef) = .agg #[.int .i64 p, .int .i64 q] := z6 2 21 (hall { on := 2, ground := Ground.data } (by simp) rfl) rfl
      have hK := fun (v : Value) (W2 : World) hW hT hv (hs : SnsL B4 A3 ao n cap x p q k y0 y1 y2 y3 y4 y5 y6 y7 f (lq.setIfInBounds 3 true) (aq.put (some 22) v) W2) => show (JnsL B4 A3 ao n cap x p q k y0 y1 y2 y3 y4 y5 y6 y7 f w0 a0) (lq.setIfInBounds 3 true) (aq.put (some 22) v) W2 from ⟨hJ2.put hS 3 22 rfl (by omega) (W' := W2) hW hT v hv, hs⟩
      clear ho hall hl hQ
      generalize (JnsL B4 A3 ao n cap x p q k y0 y1 y2 y3 y4 y5 y6 y7 f w0 a0) (lq.setIfInBounds 3 true) = K at hK ⊢
      clear hJ2 hS z1 z2 z3 z4 z6 z7
      go_simp
      refine (hT2 W).mono ?_
      rintro e v1 ⟨rfl, hBv⟩
      exact hK _ _ (z5.trans (hBv.mono z5.size)) (fun _ _ h => h.mono hBv) rfl ((hs.step hBv).quiet 3 22 _ (by decide) (by decide))
    | 4, ho =>
      cases ho
      refine wpOp_of rfl rfl ?_
      have f1 : True := z6 1 20 (hall { on := 1, ground := Ground.data } (by simp) rfl) rfl
      have f3 : (aq.tmps.getD 22 undef) = .agg #[.int .i64 p, .int .i64 q] := z6 3 22 (hall { on := 3, ground := Ground.data } (by simp) rfl) rfl
      have l1 : lq.getD 1 false = true := hall { on := 1, ground := Ground.data } (by simp) rfl
      have hl4 : lq.getD 4 false = false := getD_listedL hl
      have hls : 4 < lq.size := by rw [z1]; decide
      have hK := fun (v : Value) (W2 : World) hW hT hv (hs : SnsL B4 A3 ao n cap x p q k y0 y1 y2 y3 y4 y5 y6 y7 f (lq.setIfInBounds 4 true) (aq.put (some 23) v) W2) => show (JnsL B4 A3 ao n cap x p q k y0 y1 y2 y3 y4 y5 y6 y7 f w0 a0) (lq.setIfInBounds 4 true) (aq.put (some 23) v) W2 from ⟨hJ2.put hS 4 23 rfl (by omega) (W' := W2) hW hT v hv, hs⟩
      clear ho hall hl hQ
      generalize (JnsL B4 A3 ao n cap x p q k y0 y1 y2 y3 y4 y5 y6 y7 f w0 a0) (lq.setIfInBounds 4 true) = K at hK ⊢
      clear hJ2 hS z1 z2 z3 z4 z6 z7
      obtain ⟨g1, e20, e21⟩ := hs.1 l1
      have hSS : SegIn W (some ⟨g1, 0, none⟩) n x := by
        rcases e21 with h | h
        · rw [hl4] at h; cases h
        · exact h
      clear e21
      go_simp
      refine (hT3 g1 W hSS).mono ?_
      rintro e v1 ⟨rfl, hBv⟩
      exact hK _ _ (z5.trans (hBv.mono z5.size)) (fun _ _ h => h.mono hBv) rfl ((hs.step hBv).four _ hls)
    | 5, ho =>
      cases ho
      refine wpOp_of rfl rfl ?_
      have f4 : (aq.tmps.getD 23 undef) = .tuple #[.int .i64 k, .agg #[.int .u64 y0, .int .u64 y1, .int .u64 y2, .int .u64 y3, .int .u64 y4, .int .u64 y5, .int .u64 y6, .int .u64 y7], .bool f] := z6 4 23 (hall { on := 4, ground := Ground.data } (by simp) rfl) rfl
      have hK := fun (v : Value) (W2 : World) hW hT hv (hs : SnsL B4 A3 ao n cap x p q k y0 y1 y2 y3 y4 y5 y6 y7 f (lq.setIfInBounds 5 true) (aq.put (some 18) v) W2) => show (JnsL B4 A3 ao n cap x p q k y0 y1 y2 y3 y4 y5 y6 y7 f w0 a0) (lq.setIfInBounds 5 true) (aq.put (some 18) v) W2 from ⟨hJ2.put hS 5 18 rfl (by omega) (W' := W2) hW hT v hv, hs⟩
      clear ho hall hl hQ
      generalize (JnsL B4 A3 ao n cap x p q k y0 y1 y2 y3 y4 y5 y6 y7 f w0 a0) (lq.setIfInBounds 5 true) = K at hK ⊢
      clear hJ2 hS z1 z2 z3 z4 z6 z7
      go_simp
      exact hK _ _ z5 (fun _ _ h => h) rfl (hs.quiet 5 18 _ (by decide) (by decide))
    | 6, ho =>
      cases ho
      refine wpOp_of rfl rfl ?_
      have f5 : (aq.tmps.getD 18 undef) = .tuple #[.int .i64 k, .agg #[.int .u64 y0, .int .u64 y1, .int .u64 y2, .int .u64 y3, .int .u64 y4, .int .u64 y5, .int .u64 y6, .int .u64 y7], .bool f] := z6 5 18 (hall { on := 5, ground := Ground.data } (by simp) rfl) rfl
      have hK := fun (v : Value) (W2 : World) hW hT hv (hs : SnsL B4 A3 ao n cap x p q k y0 y1 y2 y3 y4 y5 y6 y7 f (lq.setIfInBounds 6 true) (aq.put (some 24) v) W2) => show (JnsL B4 A3 ao n cap x p q k y0 y1 y2 y3 y4 y5 y6 y7 f w0 a0) (lq.setIfInBounds 6 true) (aq.put (some 24) v) W2 from ⟨hJ2.put hS 6 24 rfl (by omega) (W' := W2) hW hT v hv, hs⟩
      clear ho hall hl hQ
      generalize (JnsL B4 A3 ao n cap x p q k y0 y1 y2 y3 y4 y5 y6 y7 f w0 a0) (lq.setIfInBounds 6 true) = K at hK ⊢
      clear hJ2 hS z1 z2 z3 z4 z6 z7
      go_simp
      exact hK _ _ z5 (fun _ _ h => h) rfl (hs.quiet 6 24 _ (by decide) (by decide))
    | 7, ho =>
      cases ho
      refine wpOp_of rfl rfl ?_
      have f5 : (aq.tmps.getD 18 undef) = .tuple #[.int .i64 k, .agg #[.int .u64 y0, .int .u64 y1, .int .u64 y2, .int .u64 y3, .int .u64 y4, .int .u64 y5, .int .u64 y6, .int .u64 y7], .bool f] := z6 5 18 (hall { on := 5, ground := Ground.data } (by simp) rfl) rfl
      have hK := fun (v : Value) (W2 : World) hW hT hv (hs : SnsL B4 A3 ao n cap x p q k y0 y1 y2 y3 y4 y5 y6 y7 f (lq.setIfInBounds 7 true) (aq.put (some 25) v) W2) => show (JnsL B4 A3 ao n cap x p q k y0 y1 y2 y3 y4 y5 y6 y7 f w0 a0) (lq.setIfInBounds 7 true) (aq.put (some 25) v) W2 from ⟨hJ2.put hS 7 25 rfl (by omega) (W' := W2) hW hT v hv, hs⟩
      clear ho hall hl hQ
      generalize (JnsL B4 A3 ao n cap x p q k y0 y1 y2 y3 y4 y5 y6 y7 f w0 a0) (lq.setIfInBounds 7 true) = K at hK ⊢
      clear hJ2 hS z1 z2 z3 z4 z6 z7
      go_simp
      exact hK _ _ z5 (fun _ _ h => h) rfl (hs.quiet 7 25 _ (by decide) (by decide))
    | 8, ho =>
      cases ho
      refine wpOp_of rfl rfl ?_
      have f5 : (aq.tmps.getD 18 undef) = .tuple #[.int .i64 k, .agg #[.int .u64 y0, .int .u64 y1, .int .u64 y2, .int .u64 y3, .int .u64 y4, .int .u64 y5, .int .u64 y6, .int .u64 y7], .bool f] := z6 5 18 (hall { on := 5, ground := Ground.data } (by simp) rfl) rfl
      have hK := fun (v : Value) (W2 : World) hW hT hv (hs : SnsL B4 A3 ao n cap x p q k y0 y1 y2 y3 y4 y5 y6 y7 f (lq.setIfInBounds 8 true) (aq.put (some 26) v) W2) => show (JnsL B4 A3 ao n cap x p q k y0 y1 y2 y3 y4 y5 y6 y7 f w0 a0) (lq.setIfInBounds 8 true) (aq.put (some 26) v) W2 from ⟨hJ2.put hS 8 26 rfl (by omega) (W' := W2) hW hT v hv, hs⟩
      clear ho hall hl hQ
      generalize (JnsL B4 A3 ao n cap x p q k y0 y1 y2 y3 y4 y5 y6 y7 f w0 a0) (lq.setIfInBounds 8 true) = K at hK ⊢
      clear hJ2 hS z1 z2 z3 z4 z6 z7
      go_simp
      exact hK _ _ z5 (fun _ _ h => h) rfl (hs.quiet 8 26 _ (by decide) (by decide))
    | 9, ho =>
      cases ho
      refine wpOp_of rfl rfl ?_
      have hl9 := hl
      have hsz : 7 < aq.tmps.size := by omega
      have hK := fun (v : Value) (W2 : World) hW hT hv (hs : SnsL B4 A3 ao n cap x p q k y0 y1 y2 y3 y4 y5 y6 y7 f (lq.setIfInBounds 9 true) (aq.put (some 7) v) W2) => show (JnsL B4 A3 ao n cap x p q k y0 y1 y2 y3 y4 y5 y6 y7 f w0 a0) (lq.setIfInBounds 9 true) (aq.put (some 7) v) W2 from ⟨hJ2.put hS 9 7 rfl (by omega) (W' := W2) hW hT v hv, hs⟩
      clear ho hall hl hQ
      generalize (JnsL B4 A3 ao n cap x p q k y0 y1 y2 y3 y4 y5 y6 y7 f w0 a0) (lq.setIfInBounds 9 true) = K at hK ⊢
      clear hJ2 hS z1 z2 z3 z4 z6 z7
      go_simp
      exact hK _ _ (z5.alloc z5.size _) (fun _ _ h => h.mono ((Below.refl _ _).alloc (Nat.le_refl _) _)) trivial ((hs.step ((Below.refl _ _).alloc (Nat.le_refl _) _)).nine hl9 hsz (by have := z5.size; omega) (Blk.new W [.int .u64 0, .int .u64 0, .int .u64 0, .int .u64 0, .int .u64 0, .int .u64 0, .int .u64 0, .int .u64 0] _ rfl))
    | 10, ho =>
      cases ho
      refine wpOp_of rfl rfl ?_
      have f6 : (aq.tmps.getD 24 undef) = .int .i64 k := z6 6 24 (hall { on := 6, ground := Ground.data } (by simp) rfl) rfl
      have hK := fun (v : Value) (W2 : World) hW hT hv (hs : SnsL B4 A3 ao n cap x p q k y0 y1 y2 y3 y4 y5 y6 y7 f (lq.setIfInBounds 10 true) (aq.put (some 6) v) W2) => show (JnsL B4 A3 ao n cap x p q k y0 y1 y2 y3 y4 y5 y6 y7 f w0 a0) (lq.setIfInBounds 10 true) (aq.put (some 6) v) W2 from ⟨hJ2.put hS 10 6 rfl (by omega) (W' := W2) hW hT v hv, hs⟩
      clear ho hall hl hQ
      generalize (JnsL B4 A3 ao n cap x p q k y0 y1 y2 y3 y4 y5 y6 y7 f w0 a0) (lq.setIfInBounds 10 true) = K at hK ⊢
      clear hJ2 hS z1 z2 z3 z4 z6 z7
      go_simp
      exact hK _ _ z5 (fun _ _ h => h) rfl (hs.quiet 10 6 _ (by decide) (by decide))
    | 11, ho =>
      cases ho
      refine wpOp_of rfl rfl ?_
      have f9 : True := z6 9 7 (hall { on := 9, ground := Ground.data } (by simp) rfl) rfl
      have f7 : (aq.tmps.getD 25 undef) = .agg #[.int .u64 y0, .int .u64 y1, .int .u64 y2, .int .u64 y3, .int .u64 y4, .int .u64 y5, .int .u64 y6, .int .u64 y7] := z6 7 25 (hall { on := 7, ground := Ground.data } (by simp) rfl) rfl
      have l9 : lq.getD 9 false = true := hall { on := 9, ground := Ground.data } (by simp) rfl
      have l4 : lq.getD 4 false = true := hall { on := 4, ground := Ground.phase } (by simp) rfl
      have hK := fun (W2 : World) hW hT hv (hs : SnsL B4 A3 ao n cap x p q k y0 y1 y2 y3 y4 y5 y6 y7 f (lq.setIfInBounds 11 true) aq W2) => show (JnsL B4 A3 ao n cap x p q k y0 y1 y2 y3 y4 y5 y6 y7 f w0 a0) (lq.setIfInBounds 11 true) aq W2 from ⟨hJ2.world 11 rfl (W' := W2) hW hT hv, hs⟩
      clear ho hall hl hQ
      generalize (JnsL B4 A3 ao n cap x p q k y0 y1 y2 y3 y4 y5 y6 y7 f w0 a0) (lq.setIfInBounds 11 true) = K at hK ⊢
      clear hJ2 hS z1 z2 z3 z4 z6 z7
      obtain ⟨gz, e7, hgz, ⟨z0q, z1q, z2q, z3q, z4q, z5q, z6q, z7q, GZ⟩, _⟩ := hs.2.2 l9
      have gl := GZ.lt
      have c0z := GZ.c 0 rfl; have d0z := GZ.f 0 rfl; have c1z := GZ.c 1 rfl; have d1z := GZ.f 1 rfl; have c2z := GZ.c 2 rfl; have d2z := GZ.f 2 rfl; have c3z := GZ.c 3 rfl; have d3z := GZ.f 3 rfl; have c4z := GZ.c 4 rfl; have d4z := GZ.f 4 rfl; have c5z := GZ.c 5 rfl; have d5z := GZ.f 5 rfl; have c6z := GZ.c 6 rfl; have d6z := GZ.f 6 rfl; have c7z := GZ.c 7 rfl; have d7z := GZ.f 7 rfl
      have NB : Blk ((((((((W.setCell ⟨gz, 0, none⟩ (.int .u64 y0)).setCell ⟨gz, 1, none⟩ (.int .u64 y1)).setCell ⟨gz, 2, none⟩ (.int .u64 y2)).setCell ⟨gz, 3, none⟩ (.int .u64 y3)).setCell ⟨gz, 4, none⟩ (.int .u64 y4)).setCell ⟨gz, 5, none⟩ (.int .u64 y5)).setCell ⟨gz, 6, none⟩ (.int .u64 y6)).setCell ⟨gz, 7, none⟩ (.int .u64 y7)) gz [.int .u64 y0, .int .u64 y1, .int .u64 y2, .int .u64 y3, .int .u64 y4, .int .u64 y5, .int .u64 y6, .int .u64 y7] := Blk.stored8 GZ _ _ _ _ _ _ _ _
      have hgw : w0.heap.size ≤ gz := by omega
      have NL : Below w0.heap.size w0 ((((((((W.setCell ⟨gz, 0, none⟩ (.int .u64 y0)).setCell ⟨gz, 1, none⟩ (.int .u64 y1)).setCell ⟨gz, 2, none⟩ (.int .u64 y2)).setCell ⟨gz, 3, none⟩ (.int .u64 y3)).setCell ⟨gz, 4, none⟩ (.int .u64 y4)).setCell ⟨gz, 5, none⟩ (.int .u64 y5)).setCell ⟨gz, 6, none⟩ (.int .u64 y6)).setCell ⟨gz, 7, none⟩ (.int .u64 y7)) := ((((((((z5.setCell (p := ⟨gz, 0, none⟩) hgw _).setCell (p := ⟨gz, 1, none⟩) hgw _).setCell (p := ⟨gz, 2, none⟩) hgw _).setCell (p := ⟨gz, 3, none⟩) hgw _).setCell (p := ⟨gz, 4, none⟩) hgw _).setCell (p := ⟨gz, 5, none⟩) hgw _).setCell (p := ⟨gz, 6, none⟩) hgw _).setCell (p := ⟨gz, 7, none⟩) hgw _)
      have HS := hs.eleven l4 l9 e7 hgz NB
      clear GZ NB hs
      go_simp
      exact hK _ NL (fun j v h => VnsL.same h) trivial HS
    | 12, ho =>
      cases ho
      refine wpOp_of rfl rfl ?_
      have f8 : (aq.tmps.getD 26 undef) = .bool f := z6 8 26 (hall { on := 8, ground := Ground.data } (by simp) rfl) rfl
      have hK := fun (v : Value) (W2 : World) hW hT hv (hs : SnsL B4 A3 ao n cap x p q k y0 y1 y2 y3 y4 y5 y6 y7 f (lq.setIfInBounds 12 true) (aq.put (some 8) v) W2) => show (JnsL B4 A3 ao n cap x p q k y0 y1 y2 y3 y4 y5 y6 y7 f w0 a0) (lq.setIfInBounds 12 true) (aq.put (some 8) v) W2 from ⟨hJ2.put hS 12 8 rfl (by omega) (W' := W2) hW hT v hv, hs⟩
      clear ho hall hl hQ
      generalize (JnsL B4 A3 ao n cap x p q k y0 y1 y2 y3 y4 y5 y6 y7 f w0 a0) (lq.setIfInBounds 12 true) = K at hK ⊢
      clear hJ2 hS z1 z2 z3 z4 z6 z7
      go_simp
      exact hK _ _ z5 (fun _ _ h => h) rfl (hs.quiet 12 8 _ (by decide) (by decide))
    | iq + 13, ho => simp at ho
  · intro lq aq W ⟨hJ, hs⟩ hr
    obtain ⟨z1, z2, z3, z4, z5, z6, z7⟩ := hJ
    have hl := listed_of hr [0, 1, 2, 3, 4, 5, 6, 9, 10, 7, 11, 8, 12] [] (by simp) (by kernel_rfl) (by rw [z1]; decide)
    exact hQ aq W z2 z3 (fun e he => z4 e (by simpa using he)) (z6 10 6 (hl 10 (by simp)) rfl) (z7 11 (hl 11 (by simp)) rfl) (z6 12 8 (hl 12 (by simp)) rfl) z5 (by obtain ⟨gz, e1, e2, _, e4⟩ := hs.2.2 (hl 9 (by simp)); exact ⟨gz, e1, by omega, e4 (hl 11 (by simp))⟩)
end Go.Proofs.Ytmjlgmoohpnhfaa

/- The last region of the model's walk to the nearest segment. -/
namespace Go.Proofs.Ytmjlgmoohpnhfaa
open Go.RowKit
def VnsEnd (R : Nat) (k y0 y1 y2 y3 y4 y5 y6 y7 : Int) (w0 : World) : Nat → Value → World → Prop
  | 0, v, _ => v = .int .i64 k
  | 1, v, _ => v = .agg #[.int .u64 y0, .int .u64 y1, .int .u64 y2, .int .u64 y3, .int .u64 y4, .int .u64 y5, .int .u64 y6, .int .u64 y7]
  | 2, v, _ => v = .int .i64 k
  | 3, _, W => Blk W R [.int .u64 y0, .int .u64 y1, .int .u64 y2, .int .u64 y3, .int .u64 y4, .int .u64 y5, .int .u64 y6, .int .u64 y7] ∧ ∀ B w, B ≤ R → Below B w w0 → Below B w W
  | 4, v, _ => v = .bool true
  | _, _, _ => True
theorem nsPutD {R : Nat} {k y0 y1 y2 y3 y4 y5 y6 y7 : Int} {w0 : World} (j : Nat) (v : Value) (h : VnsEnd R k y0 y1 y2 y3 y4 y5 y6 y7 w0 j v w0.drew) : VnsEnd R k y0 y1 y2 y3 y4 y5 y6 y7 w0 j v ((((((((w0.setCell ⟨R, 0, none⟩ (.int .u64 y0)).setCell ⟨R, 1, none⟩ (.int .u64 y1)).setCell ⟨R, 2, none⟩ (.int .u64 y2)).setCell ⟨R, 3, none⟩ (.int .u64 y3)).setCell ⟨R, 4, none⟩ (.int .u64 y4)).setCell ⟨R, 5, none⟩ (.int .u64 y5)).setCell ⟨R, 6, none⟩ (.int .u64 y6)).setCell ⟨R, 7, none⟩ (.int .u64 y7)).drew := by
  match j, h with
  | 0, h => change v = _ at h; change v = _; exact h
  | 1, h => change v = _ at h; change v = _; exact h
  | 2, h => change v = _ at h; change v = _; exact h
  | 3, h =>
    have h1 : Blk w0.drew R [.int .u64 y0, .int .u64 y1, .int .u64 y2, .int .u64 y3, .int .u64 y4, .int .u64 y5, .int .u64 y6, .int .u64 y7] := h.1
    have h2 : ∀ B w, B ≤ R → Below B w w0 → Below B w w0.drew := h.2
    have h3 : Blk w0 R [.int .u64 y0, .int .u64 y1, .int .u64 y2, .int .u64 y3, .int .u64 y4, .int .u64 y5, .int .u64 y6, .int .u64 y7] := h1
    have k1 : Blk ((((((((w0.setCell ⟨R, 0, none⟩ (.int .u64 y0)).setCell ⟨R, 1, none⟩ (.int .u64 y1)).setCell ⟨R, 2, none⟩ (.int .u64 y2)).setCell ⟨R, 3, none⟩ (.int .u64 y3)).setCell ⟨R, 4, none⟩ (.int .u64 y4)).setCell ⟨R, 5, none⟩ (.int .u64 y5)).setCell ⟨R, 6, none⟩ (.int .u64 y6)).setCell ⟨R, 7, none⟩ (.int .u64 y7)) R [.int .u64 y0, .int .u64 y1, .int .u64 y2, .int .u64 y3, .int .u64 y4, .int .u64 y5, .int .u64 y6, .int .u64 y7] := ((((((((h3.setI 0 (by simp) (.int .u64 y0)).setI 1 (by simp) (.int .u64 y1)).setI 2 (by simp) (.int .u64 y2)).setI 3 (by simp) (.int .u64 y3)).setI 4 (by simp) (.int .u64 y4)).setI 5 (by simp) (.int .u64 y5)).setI 6 (by simp) (.int .u64 y6)).setI 7 (by simp) (.int .u64 y7))
    refine ⟨k1.drew, fun B w hB h => ?_⟩
    refine Below.drew ?_
    repeat' (refine Below.setCell ?_ (by exact hB) _)
    exact h
  | 4, h => change v = _ at h; change v = _; exact h
  | j + 5, _ => trivial
def NsJ (R : Nat) (k y0 y1 y2 y3 y4 y5 y6 y7 : Int) (w0 : World) (a0 : Act) (l : Array Bool) (a : Act) (W : World) : Prop := InvQ R [some 55, some 56, some 4, none, some 6] (VnsEnd R k y0 y1 y2 y3 y4 y5 y6 y7 w0) w0 a0 l a W ∧ (l.getD 3 false = false → W = w0.drew) ∧ (l.getD 3 false = true → l.getD 1 false = true)
theorem getD_listed {l : Array Bool} {i : Nat} (h : l.getD i true = false) : l.getD i false = false := by
  rcases Nat.lt_or_ge i l.size with h' | h'
  · simpa [Array.getD, h'] using h
  · simp [Array.getD, Nat.not_lt.2 h'] at h
theorem keep3 {l : Array Bool} {i : Nat} {p : Prop} (hi : i ≠ 3) (h : l.getD 3 false = false → p) : (l.setIfInBounds i true).getD 3 false = false → p := fun h' => h (by rw [getD_set_ne false hi] at h'; exact h')
theorem keep31 {l : Array Bool} {i : Nat} (hi : i ≠ 3) (hi1 : i ≠ 1) (h : l.getD 3 false = true → l.getD 1 false = true) : (l.setIfInBounds i true).getD 3 false = true → (l.setIfInBounds i true).getD 1 false = true := fun h' => by
  rw [getD_set_ne false hi] at h'
  rw [getD_set_ne false hi1]
  exact h h'
theorem getD_put {l : Array Bool} {i : Nat} (hi : i < l.size) : (l.setIfInBounds i true).getD i false = true := by
  simp [Array.getD, hi]
set_option maxRecDepth 100000 in
set_option maxHeartbeats 4000000 in
theorem nsEnd {Q : Exit → Act → World → Prop} {E R : Nat} {k y0 y1 y2 y3 y4 y5 y6 y7 : Int} {w0 : World} {a0 : Act} {idq : Nat} {t0 t1 t2 t3 t4 : TypeId} {q0 q1 q2 q3 q4 : String} (GE : Blk w0 E [.int .u64 y0, .int .u64 y1, .int .u64 y2, .int .u64 y3, .int .u64 y4, .int .u64 y5, .int .u64 y6, .int .u64 y7]) (GR : Blk w0 R [.int .u64 0, .int .u64 0, .int .u64 0, .int .u64 0, .int .u64 0, .int .u64 0, .int .u64 0, .int .u64 0]) (h5 : a0.tmps[5]? = some (.pointer (some ⟨R, 0, none⟩))) (h7 : a0.tmps[7]? = some (.int .i64 k)) (h11 : a0.tmps[11]? = some (.pointer (some ⟨E, 0, none⟩))) (hz : a0.tmps.size = 57)
    (hQ : ∀ aq W, aq.tmps.size = a0.tmps.size → aq.defers = a0.defers → (∀ e, e ∉ ([55, 56, 4, 6] : List Nat) → aq.tmps[e]? = a0.tmps[e]?) → aq.tmps.getD 55 undef = .int .i64 k → aq.tmps.getD 56 undef = .agg #[.int .u64 y0, .int .u64 y1, .int .u64 y2, .int .u64 y3, .int .u64 y4, .int .u64 y5, .int .u64 y6, .int .u64 y7] → aq.tmps.getD 4 undef = .int .i64 k → aq.tmps.getD 6 undef = .bool true → Blk W R [.int .u64 y0, .int .u64 y1, .int .u64 y2, .int .u64 y3, .int .u64 y4, .int .u64 y5, .int .u64 y6, .int .u64 y7] → (∀ B w, B ≤ R → Below B w w0 → Below B w W) → Q .normal aq W) :
    (Code.region idq #[{ dst := some 55, op := Op.move (Operand.tmp 7), type := t0, pos := q0, after := #[], guard := none },
    { dst := some 56, op := Op.load 50 (Operand.tmp 11), type := t1, pos := q1, after := #[{ on := 2, ground := Ground.gcOnly Departure.lateStores }], guard := none },
    { dst := some 4, op := Op.assign (Operand.tmp 55), type := t2, pos := q2, after := #[{ on := 0, ground := Ground.data }, { on := 0, ground := Ground.phase }, { on := 1, ground := Ground.textOnly Departure.lateStores }], guard := none },
    { dst := none, op := Op.store 50 (Operand.tmp 5) (Operand.tmp 56), type := t3, pos := q3, after := #[{ on := 1, ground := Ground.data }, { on := 2, ground := Ground.chain }, { on := 0, ground := Ground.phase }, { on := 1, ground := Ground.phase }, { on := 2, ground := Ground.phase }], guard := none },
    { dst := some 6, op := Op.assign (Operand.const (Value.bool true)), type := t4, pos := q4, after := #[{ on := 3, ground := Ground.chain }, { on := 0, ground := Ground.phase }, { on := 1, ground := Ground.phase }, { on := 2, ground := Ground.phase }, { on := 3, ground := Ground.phase }], guard := none }] true).wp Try.prog Q a0 w0 := by
  have hS : distS [some 55, some 56, some 4, none, some 6] = true := rfl
  refine wp_region_inv (by kernel_rfl) (NsJ R k y0 y1 y2 y3 y4 y5 y6 y7 w0 a0) ⟨⟨rfl, rfl, rfl, fun _ _ => rfl, (Below.refl _ w0).drew, fun j d hj => ?_, fun j hj => ?_⟩, fun _ => rfl, fun h => ?_⟩ ?_ ?_
  · exfalso
    rw [Array.getD_eq_getD_getElem?, Array.getElem?_replicate] at hj
    split at hj <;> simp at hj
  · exfalso
    rw [Array.getD_eq_getD_getElem?, Array.getElem?_replicate] at hj
    split at hj <;> simp at hj
  · exfalso
    rw [Array.getD_eq_getD_getElem?, Array.getElem?_replicate] at h
    split at h <;> simp at h
  · intro lq aq W iq oq ⟨hJ, hw, h31⟩ hl ho hall
    have hJ2 := hJ
    obtain ⟨z1, z2, z3, z4, z5, z6, z7⟩ := hJ2
    have g5 : aq.tmps.getD 5 undef = .pointer (some ⟨R, 0, none⟩) := by rw [Array.getD_eq_getD_getElem?, z4 5 (by decide), h5]; rfl
    have g7 : aq.tmps.getD 7 undef = .int .i64 k := by rw [Array.getD_eq_getD_getElem?, z4 7 (by decide), h7]; rfl
    have g11 : aq.tmps.getD 11 undef = .pointer (some ⟨E, 0, none⟩) := by rw [Array.getD_eq_getD_getElem?, z4 11 (by decide), h11]; rfl
    have hls : lq.size = 5 := by simpa using z1
    match iq, ho with
    | 0, ho =>
      cases ho
      refine wpOp_of rfl rfl ?_
      have hK : ∀ v : Value, (VnsEnd R k y0 y1 y2 y3 y4 y5 y6 y7 w0) 0 v W → NsJ R k y0 y1 y2 y3 y4 y5 y6 y7 w0 a0 (lq.setIfInBounds 0 true) (aq.put (some 55) v) W := fun (v : Value) hv => And.intro (hJ.put hS 0 55 rfl (by omega) (W' := W) z5 (fun _ _ h => h) v hv) (And.intro (keep3 (i := 0) (by decide) hw) (keep31 (i := 0) (by decide) (by decide) h31))
      clear ho hall hl hQ hJ hw h31 z1 z2 z3 z4 z5 z6 z7
      generalize NsJ R k y0 y1 y2 y3 y4 y5 y6 y7 w0 a0 (lq.setIfInBounds 0 true) = K at hK ⊢
      go_simp
      exact hK _ rfl
    | 1, ho =>
      cases ho
      refine wpOp_of rfl rfl ?_
      have hn3 : lq.getD 3 false = false := by
        cases h : lq.getD 3 false
        · rfl
        · have := h31 h
          rw [getD_listed hl] at this
          cases this
      have hW := hw hn3
      subst hW
      have hK : ∀ v : Value, (VnsEnd R k y0 y1 y2 y3 y4 y5 y6 y7 w0) 1 v w0.drew → NsJ R k y0 y1 y2 y3 y4 y5 y6 y7 w0 a0 (lq.setIfInBounds 1 true) (aq.put (some 56) v) w0.drew := fun (v : Value) hv => And.intro (hJ.put hS 1 56 rfl (by omega) (W' := w0.drew) z5 (fun _ _ h => h) v hv) (And.intro (show (lq.setIfInBounds 1 true).getD 3 false = false → w0.drew = w0.drew from fun _ => rfl) (show (lq.setIfInBounds 1 true).getD 3 false = true → (lq.setIfInBounds 1 true).getD 1 false = true from fun _ => getD_put (by omega)))
      have e0 := GE.c 0 rfl; have e1 := GE.c 1 rfl; have e2 := GE.c 2 rfl; have e3 := GE.c 3 rfl; have e4 := GE.c 4 rfl; have e5 := GE.c 5 rfl; have e6 := GE.c 6 rfl; have e7 := GE.c 7 rfl
      clear ho hall hl hQ hJ hw h31 z1 z2 z3 z4 z5 z6 z7
      generalize NsJ R k y0 y1 y2 y3 y4 y5 y6 y7 w0 a0 (lq.setIfInBounds 1 true) = K at hK ⊢
      go_simp
      exact hK _ rfl
    | 2, ho =>
      cases ho
      refine wpOp_of rfl rfl ?_
      have f0 : aq.tmps.getD 55 undef = .int .i64 k := z6 0 55 (hall { on := 0, ground := Ground.phase } (by simp) rfl) rfl
      have hK : ∀ v : Value, (VnsEnd R k y0 y1 y2 y3 y4 y5 y6 y7 w0) 2 v W → NsJ R k y0 y1 y2 y3 y4 y5 y6 y7 w0 a0 (lq.setIfInBounds 2 true) (aq.put (some 4) v) W := fun (v : Value) hv => And.intro (hJ.put hS 2 4 rfl (by omega) (W' := W) z5 (fun _ _ h => h) v hv) (And.intro (keep3 (i := 2) (by decide) hw) (keep31 (i := 2) (by decide) (by decide) h31))
      clear ho hall hl hQ hJ hw h31 z1 z2 z3 z4 z5 z6 z7
      generalize NsJ R k y0 y1 y2 y3 y4 y5 y6 y7 w0 a0 (lq.setIfInBounds 2 true) = K at hK ⊢
      go_simp
      exact hK _ rfl
    | 3, ho =>
      cases ho
      refine wpOp_of rfl rfl ?_
      have l1 : lq.getD 1 false = true := hall { on := 1, ground := Ground.phase } (by simp) rfl
      have f1 : aq.tmps.getD 56 undef = .agg #[.int .u64 y0, .int .u64 y1, .int .u64 y2, .int .u64 y3, .int .u64 y4, .int .u64 y5, .int .u64 y6, .int .u64 y7] := z6 1 56 l1 rfl
      have hW := hw (getD_listed hl)
      subst hW
      have NB0 : Blk ((((((((w0.setCell ⟨R, 0, none⟩ (.int .u64 y0)).setCell ⟨R, 1, none⟩ (.int .u64 y1)).setCell ⟨R, 2, none⟩ (.int .u64 y2)).setCell ⟨R, 3, none⟩ (.int .u64 y3)).setCell ⟨R, 4, none⟩ (.int .u64 y4)).setCell ⟨R, 5, none⟩ (.int .u64 y5)).setCell ⟨R, 6, none⟩ (.int .u64 y6)).setCell ⟨R, 7, none⟩ (.int .u64 y7)) R [.int .u64 y0, .int .u64 y1, .int .u64 y2, .int .u64 y3, .int .u64 y4, .int .u64 y5, .int .u64 y6, .int .u64 y7] := ((((((((GR.setI 0 (by simp) (.int .u64 y0)).setI 1 (by simp) (.int .u64 y1)).setI 2 (by simp) (.int .u64 y2)).setI 3 (by simp) (.int .u64 y3)).setI 4 (by simp) (.int .u64 y4)).setI 5 (by simp) (.int .u64 y5)).setI 6 (by simp) (.int .u64 y6)).setI 7 (by simp) (.int .u64 y7))
      have NB : Blk ((((((((w0.setCell ⟨R, 0, none⟩ (.int .u64 y0)).setCell ⟨R, 1, none⟩ (.int .u64 y1)).setCell ⟨R, 2, none⟩ (.int .u64 y2)).setCell ⟨R, 3, none⟩ (.int .u64 y3)).setCell ⟨R, 4, none⟩ (.int .u64 y4)).setCell ⟨R, 5, none⟩ (.int .u64 y5)).setCell ⟨R, 6, none⟩ (.int .u64 y6)).setCell ⟨R, 7, none⟩ (.int .u64 y7)).drew R [.int .u64 y0, .int .u64 y1, .int .u64 y2, .int .u64 y3, .int .u64 y4, .int .u64 y5, .int .u64 y6, .int .u64 y7] := NB0.drew
      have NL : ∀ B w, B ≤ R → Below B w w0 → Below B w ((((((((w0.setCell ⟨R, 0, none⟩ (.int .u64 y0)).setCell ⟨R, 1, none⟩ (.int .u64 y1)).setCell ⟨R, 2, none⟩ (.int .u64 y2)).setCell ⟨R, 3, none⟩ (.int .u64 y3)).setCell ⟨R, 4, none⟩ (.int .u64 y4)).setCell ⟨R, 5, none⟩ (.int .u64 y5)).setCell ⟨R, 6, none⟩ (.int .u64 y6)).setCell ⟨R, 7, none⟩ (.int .u64 y7)).drew := fun B w hB h => by
        refine Below.drew ?_
        repeat' (refine Below.setCell ?_ (by exact hB) _)
        exact h
      have hK : NsJ R k y0 y1 y2 y3 y4 y5 y6 y7 w0 a0 (lq.setIfInBounds 3 true) aq ((((((((w0.setCell ⟨R, 0, none⟩ (.int .u64 y0)).setCell ⟨R, 1, none⟩ (.int .u64 y1)).setCell ⟨R, 2, none⟩ (.int .u64 y2)).setCell ⟨R, 3, none⟩ (.int .u64 y3)).setCell ⟨R, 4, none⟩ (.int .u64 y4)).setCell ⟨R, 5, none⟩ (.int .u64 y5)).setCell ⟨R, 6, none⟩ (.int .u64 y6)).setCell ⟨R, 7, none⟩ (.int .u64 y7)).drew := And.intro (hJ.world 3 rfl (W' := ((((((((w0.setCell ⟨R, 0, none⟩ (.int .u64 y0)).setCell ⟨R, 1, none⟩ (.int .u64 y1)).setCell ⟨R, 2, none⟩ (.int .u64 y2)).setCell ⟨R, 3, none⟩ (.int .u64 y3)).setCell ⟨R, 4, none⟩ (.int .u64 y4)).setCell ⟨R, 5, none⟩ (.int .u64 y5)).setCell ⟨R, 6, none⟩ (.int .u64 y6)).setCell ⟨R, 7, none⟩ (.int .u64 y7)).drew) (NL R w0 (Nat.le_refl _) (Below.refl _ _)) (fun j v h => nsPutD j v h) ⟨NB, NL⟩) (And.intro (show (lq.setIfInBounds 3 true).getD 3 false = false → ((((((((w0.setCell ⟨R, 0, none⟩ (.int .u64 y0)).setCell ⟨R, 1, none⟩ (.int .u64 y1)).setCell ⟨R, 2, none⟩ (.int .u64 y2)).setCell ⟨R, 3, none⟩ (.int .u64 y3)).setCell ⟨R, 4, none⟩ (.int .u64 y4)).setCell ⟨R, 5, none⟩ (.int .u64 y5)).setCell ⟨R, 6, none⟩ (.int .u64 y6)).setCell ⟨R, 7, none⟩ (.int .u64 y7)).drew = w0.drew from fun h => by rw [getD_put (by omega)] at h; cases h) (show (lq.setIfInBounds 3 true).getD 3 false = true → (lq.setIfInBounds 3 true).getD 1 false = true from fun _ => by rw [getD_set_ne false (by decide)]; exact l1))
      have r0 := GR.c 0 rfl; have s0 := GR.f 0 rfl; have r1 := GR.c 1 rfl; have s1 := GR.f 1 rfl; have r2 := GR.c 2 rfl; have s2 := GR.f 2 rfl; have r3 := GR.c 3 rfl; have s3 := GR.f 3 rfl; have r4 := GR.c 4 rfl; have s4 := GR.f 4 rfl; have r5 := GR.c 5 rfl; have s5 := GR.f 5 rfl; have r6 := GR.c 6 rfl; have s6 := GR.f 6 rfl; have r7 := GR.c 7 rfl; have s7 := GR.f 7 rfl; have rl := GR.lt
      clear ho hall hl hQ hJ hw h31 NB NB0 NL z1 z2 z3 z4 z5 z6 z7
      generalize NsJ R k y0 y1 y2 y3 y4 y5 y6 y7 w0 a0 (lq.setIfInBounds 3 true) = K at hK ⊢
      go_simp
      exact hK
    | 4, ho =>
      cases ho
      refine wpOp_of rfl rfl ?_
      have hK : ∀ v : Value, (VnsEnd R k y0 y1 y2 y3 y4 y5 y6 y7 w0) 4 v W → NsJ R k y0 y1 y2 y3 y4 y5 y6 y7 w0 a0 (lq.setIfInBounds 4 true) (aq.put (some 6) v) W := fun (v : Value) hv => And.intro (hJ.put hS 4 6 rfl (by omega) (W' := W) z5 (fun _ _ h => h) v hv) (And.intro (keep3 (i := 4) (by decide) hw) (keep31 (i := 4) (by decide) (by decide) h31))
      clear ho hall hl hQ hJ hw h31 z1 z2 z3 z4 z5 z6 z7
      generalize NsJ R k y0 y1 y2 y3 y4 y5 y6 y7 w0 a0 (lq.setIfInBounds 4 true) = K at hK ⊢
      go_simp
      exact hK _ rfl
    | iq + 5, ho => simp at ho
  · intro lq aq W ⟨hJ, _, _⟩ hr
    obtain ⟨z1, z2, z3, z4, z5, z6, z7⟩ := hJ
    have hl := listed_of hr [0, 1, 2, 3, 4] [] (by simp) (by kernel_rfl) (by rw [z1]; decide)
    obtain ⟨b1, b2⟩ := z7 3 (hl 3 (by simp)) rfl
    exact hQ aq W z2 z3 (fun e he => z4 e (by simpa using he)) (z6 0 55 (hl 0 (by simp)) rfl) (z6 1 56 (hl 1 (by simp)) rfl) (z6 2 4 (hl 2 (by simp)) rfl) (z6 4 6 (hl 4 (by simp)) rfl) b1 b2
end Go.Proofs.Ytmjlgmoohpnhfaa
