/- Part 13 of the walks that the proof leans on. -/
import Derived.Test.YtjhmacpejfldoaaPart12
import Derived.Test.YtjhmacpejfldoaaPart8
import Derived.Test.YtjhmacpejfldoaaPart11
import Derived.Test.YtjhmacpejfldoaaPart9
import Derived.Test.YtjhmacpejfldoaaPart10
import Derived.Test.YtjhmacpejfldoaaRows
import Derived.ProofKit
import Derived.Lib.SmallJoins
/- The nearest of a row of segments: the program's walk. -/
namespace Go.Proofs.Ytjhmacpejfldoaa
open Go.RowKit
/-- The number, and the two numbers of its distance, of the nearest of the first c. -/
def kN (x : Nat → Int) (p q : Int) (c : Nat) : Int := if c = 0 then 0 else (nsI x p q (c - 1) : Nat)
def kU (x : Nat → Int) (p q : Int) (c : Nat) : Int := if c = 0 then 0 else uAt x p q (nsI x p q (c - 1))
def kV (x : Nat → Int) (p q : Int) (c : Nat) : Int := if c = 0 then 0 else vAt x p q (nsI x p q (c - 1))
/-- One more is shown. -/
theorem k_succ (x : Nat → Int) (p q : Int) (c : Nat) (up : Bool) (h : up = (decide ((c : Int) = 0) || decide (cmpI (uAt x p q c * kV x p q c) (kU x p q c * vAt x p q c) < 0))) :
    cond up (c : Int) (kN x p q c) = kN x p q (c + 1) ∧ cond up (uAt x p q c) (kU x p q c) = kU x p q (c + 1) ∧ cond up (vAt x p q c) (kV x p q c) = kV x p q (c + 1) := by
  have e1 : kN x p q (c + 1) = (nsI x p q c : Nat) := by unfold kN; rw [if_neg (by omega)]; rfl
  have e2 : kU x p q (c + 1) = uAt x p q (nsI x p q c) := by unfold kU; rw [if_neg (by omega)]; rfl
  have e3 : kV x p q (c + 1) = vAt x p q (nsI x p q c) := by unfold kV; rw [if_neg (by omega)]; rfl
  rw [e1, e2, e3]
  rcases Nat.eq_zero_or_pos c with h0 | h0
  · subst h0
    have hu : up = true := by rw [h]; simp
    rw [hu]
    exact ⟨rfl, rfl, rfl⟩
  · have f1 : kN x p q c = (nsI x p q (c - 1) : Nat) := by unfold kN; rw [if_neg (by omega)]
    have f2 : kU x p q c = uAt x p q (nsI x p q (c - 1)) := by unfold kU; rw [if_neg (by omega)]
    have f3 : kV x p q c = vAt x p q (nsI x p q (c - 1)) := by unfold kV; rw [if_neg (by omega)]
    have hn : up = nearer x p q c (nsI x p q (c - 1)) := by
      rw [h, f2, f3, decide_eq_false (show ¬ (c : Int) = 0 by omega), Bool.false_or]
      rfl
    cases hb : nearer x p q c (nsI x p q (c - 1))
    · rw [hn, hb, nsI_off' h0 hb, f1, f2, f3]
      exact ⟨rfl, rfl, rfl⟩
    · rw [hn, hb, nsI_on' h0 hb]
      exact ⟨rfl, rfl, rfl⟩
/-- While segments are shown. -/
structure NwI (w wr : World) (n : Nat) (x : Nat → Int) (p q : Int) (g5 g8 gp gs gl gb c : Nat) : Prop where
  below : Below w.heap.size w wr
  b5 : Blk wr g5 [.int .u64 0, .int .u64 0, .int .u64 0, .int .u64 0, .int .u64 0, .int .u64 0, .int .u64 0, .int .u64 0]
  b8 : Blk wr g8 [.int .u64 (ww3 (kU x p q c)), .int .u64 (ww2 (kU x p q c)), .int .u64 (ww1 (kU x p q c)), .int .u64 (ww0 (kU x p q c)), .int .u64 (ww3 (kV x p q c)), .int .u64 (ww2 (kV x p q c)), .int .u64 (ww1 (kV x p q c)), .int .u64 (ww0 (kV x p q c))]
  bp : Blk wr gp [.int .i64 p, .int .i64 q]
  bs : Blk wr gs [.int .i64 c]
  bl : Blk wr gl [.int .u64 (ww3 (kU x p q c)), .int .u64 (ww2 (kU x p q c)), .int .u64 (ww1 (kU x p q c)), .int .u64 (ww0 (kU x p q c)), .int .u64 (ww3 (kV x p q c)), .int .u64 (ww2 (kV x p q c)), .int .u64 (ww1 (kV x p q c)), .int .u64 (ww0 (kV x p q c))]
  bb : Blk wr gb [.int .i64 (kN x p q c)]
set_option maxRecDepth 100000 in
set_option maxHeartbeats 8000000 in
theorem implNearest_any (ao : Option Addr) (n cap : Nat) (x : Nat → Int) (p q : Int) (w : World) (hS : SegIn w ao n x) : Calls Try.prog 7 #[.slice ao n cap, Sp p q] w (VP (nsV n x p q) w) := by
  have HS : Hid (SegIn w ao n x) := hS
  clear hS
  have HB : Below w.heap.size w ((w.alloc (.cells #[.int .i64 p, .int .i64 q] 26)).alloc (.cells #[.int .u64 0, .int .u64 0, .int .u64 0, .int .u64 0, .int .u64 0, .int .u64 0, .int .u64 0, .int .u64 0] 33)) := ((Below.refl _ _).alloc (Nat.le_refl _) _).alloc (by simp) _
  have XP := (Blk.new w [.int .i64 p, .int .i64 q] 26 rfl).alloc (.cells #[.int .u64 0, .int .u64 0, .int .u64 0, .int .u64 0, .int .u64 0, .int .u64 0, .int .u64 0, .int .u64 0] 33)
  have X5 := Blk.new (w.alloc (.cells #[.int .i64 p, .int .i64 q] 26)) [.int .u64 0, .int .u64 0, .int .u64 0, .int .u64 0, .int .u64 0, .int .u64 0, .int .u64 0, .int .u64 0] 33 (g := w.heap.size + 1) (by simp)
  rw [show ([.int .i64 p, .int .i64 q] : List Value).toArray = #[.int .i64 p, .int .i64 q] from rfl] at XP X5
  rw [show ([.int .u64 0, .int .u64 0, .int .u64 0, .int .u64 0, .int .u64 0, .int .u64 0, .int .u64 0, .int .u64 0] : List Value).toArray = #[.int .u64 0, .int .u64 0, .int .u64 0, .int .u64 0, .int .u64 0, .int .u64 0, .int .u64 0, .int .u64 0] from rfl] at X5
  go_enter Try.func7, Try.ntmps7
  go_wp2_with fail
  generalize ((w.alloc (.cells #[.int .i64 p, .int .i64 q] 26)).alloc (.cells #[.int .u64 0, .int .u64 0, .int .u64 0, .int .u64 0, .int .u64 0, .int .u64 0, .int .u64 0, .int .u64 0] 33)) = W at *
  refine (implSegsFault_any ao n cap x _ (HS.out.step HB)).mono ?_
  rintro e w1 ⟨rfl, hB⟩
  replace HB := HB.trans (hB.mono HB.size)
  replace XP := XP.step hB
  replace X5 := X5.step hB
  clear hB
  by_cases hsg : sgI n x = 0
  · rw [hsg]
    obtain ⟨p0, p1⟩ := XP.cs2
    go_wp2_with fail
    clear p0 p1
    refine (implSpotOk_any p q _ rfl _).mono ?_
    rintro e w2 ⟨rfl, hB⟩
    replace HB := HB.trans (hB.mono HB.size)
    replace XP := XP.step hB
    replace X5 := X5.step hB
    clear hB
    cases hsp : spotOk p q
    · have HO : Hid (nsOk n x p q = false) := by show _ = _; unfold nsOk; rw [hsp]; simp
      clear hsg hsp
      have o0 := X5.c 0 rfl; have r0 := X5.f 0 rfl; have o1 := X5.c 1 rfl; have r1 := X5.f 1 rfl; have o2 := X5.c 2 rfl; have r2 := X5.f 2 rfl; have o3 := X5.c 3 rfl; have r3 := X5.f 3 rfl; have o4 := X5.c 4 rfl; have r4 := X5.f 4 rfl; have o5 := X5.c 5 rfl; have r5 := X5.f 5 rfl; have o6 := X5.c 6 rfl; have r6 := X5.f 6 rfl; have o7 := X5.c 7 rfl; have r7 := X5.f 7 rfl; have ol := X5.lt
      clear X5 XP
      go_wp2
      refine bodyPost_ret (v := .tuple #[.int .i64 0, .agg #[.int .u64 0, .int .u64 0, .int .u64 0, .int .u64 0, .int .u64 0, .int .u64 0, .int .u64 0, .int .u64 0], .bool false]) (by simp [results, Try.results7, go_sem, o0, o1, o2, o3, o4, o5, o6, o7]) rfl ?_
      refine ⟨by unfold nsV; rw [HO.out]; rfl, ?_⟩
      repeat' (refine Below.setCell ?_ (by simp; try omega) _)
      exact HB
    · by_cases hn : n = 0
      · subst hn
        have HO : Hid (nsOk 0 x p q = false) := by show _ = _; unfold nsOk; simp
        clear hsg hsp
        have o0 := X5.c 0 rfl; have r0 := X5.f 0 rfl; have o1 := X5.c 1 rfl; have r1 := X5.f 1 rfl; have o2 := X5.c 2 rfl; have r2 := X5.f 2 rfl; have o3 := X5.c 3 rfl; have r3 := X5.f 3 rfl; have o4 := X5.c 4 rfl; have r4 := X5.f 4 rfl; have o5 := X5.c 5 rfl; have r5 := X5.f 5 rfl; have o6 := X5.c 6 rfl; have r6 := X5.f 6 rfl; have o7 := X5.c 7 rfl; have r7 := X5.f 7 rfl; have ol := X5.lt
        clear X5 XP
        go_wp2
        refine bodyPost_ret (v := .tuple #[.int .i64 0, .agg #[.int .u64 0, .int .u64 0, .int .u64 0, .int .u64 0, .int .u64 0, .int .u64 0, .int .u64 0, .int .u64 0], .bool false]) (by simp [results, Try.results7, go_sem, o0, o1, o2, o3, o4, o5, o6, o7]) rfl ?_
        refine ⟨by unfold nsV; rw [HO.out]; rfl, ?_⟩
        repeat' (refine Below.setCell ?_ (by simp; try omega) _)
        exact HB
      · have HO : Hid (nsOk n x p q = true) := by show _ = _; unfold nsOk; rw [hsp, decide_eq_true hsg, decide_eq_true (by omega)]; rfl
        obtain ⟨h40, hall⟩ := sgI_zero hsg
        have HA : Hid (∀ i, i < n → segOk (x (i * 4)) (x (i * 4 + 1)) (x (i * 4 + 2)) (x (i * 4 + 3)) = true) := hall
        have HP : Hid (spotOk p q = true) := hsp
        have hn0 : ((n : Int) == 0) = false := beq_eq_false_iff_ne.2 (by omega)
        have hn1 : ¬ ((n : Int) = 0) := by omega
        clear hall hsp hsg
        have X8 := Blk.new w2 [.int .u64 0, .int .u64 0, .int .u64 0, .int .u64 0, .int .u64 0, .int .u64 0, .int .u64 0, .int .u64 0] 33 rfl
        rw [show ([.int .u64 0, .int .u64 0, .int .u64 0, .int .u64 0, .int .u64 0, .int .u64 0, .int .u64 0, .int .u64 0] : List Value).toArray = #[.int .u64 0, .int .u64 0, .int .u64 0, .int .u64 0, .int .u64 0, .int .u64 0, .int .u64 0, .int .u64 0] from rfl] at X8
        have hl5 := X5.lt
        replace HB := HB.alloc HB.size (.cells #[.int .u64 0, .int .u64 0, .int .u64 0, .int .u64 0, .int .u64 0, .int .u64 0, .int .u64 0, .int .u64 0] 33)
        replace XP := XP.alloc (.cells #[.int .u64 0, .int .u64 0, .int .u64 0, .int .u64 0, .int .u64 0, .int .u64 0, .int .u64 0, .int .u64 0] 33)
        replace X5 := X5.alloc (.cells #[.int .u64 0, .int .u64 0, .int .u64 0, .int .u64 0, .int .u64 0, .int .u64 0, .int .u64 0, .int .u64 0] 33)
        obtain ⟨p0, p1⟩ := XP.cs2
        go_wp2_with fail
        clear p0 p1 XP
        generalize (w2.alloc (.cells #[.int .u64 0, .int .u64 0, .int .u64 0, .int .u64 0, .int .u64 0, .int .u64 0, .int .u64 0, .int .u64 0] 33)) = W2 at *
        generalize w2.heap.size = g8 at *
        refine (keepNearest_any p q _).mono ?_
        rintro e w3 ⟨rfl, YP, YS, YB, YL, hB⟩
        have hl8 := X8.lt
        replace HB := HB.trans (hB.mono HB.size)
        replace X5 := X5.step hB
        replace X8 := X8.step hB
        clear hB
        have hg5 : w.heap.size ≤ w.heap.size + 1 := by omega
        have hg8 : w.heap.size + 1 < g8 := hl5
        have hgp : g8 < W2.heap.size := hl8
        have hgs : W2.heap.size < W2.heap.size + 1 := by omega
        have hgb : W2.heap.size + 1 < W2.heap.size + 1 + 1 := by omega
        have hgl : W2.heap.size + 1 + 1 < W2.heap.size + 1 + 1 + 1 := by omega
        go_wp2_with fail
        generalize W2.heap.size + 1 + 1 + 1 = gl at *
        generalize W2.heap.size + 1 + 1 = gb at *
        generalize W2.heap.size + 1 = gs at *
        generalize W2.heap.size = gp at *
        generalize w.heap.size + 1 = g5 at *
        have I0 : Hid (NwI w w3 n x p q g5 g8 gp gs gl gb 0) := ⟨HB, X5, X8, YP, YS, YL, YB⟩
        clear HB X5 X8 YP YS YL YB hl5 hl8
        go_loopw [7, 30] (fun v i wr => ∃ c : Nat, c ≤ n ∧ i = .int .i64 c ∧ v = .int .i64 (kN x p q c) ∧ NwI w wr n x p q g5 g8 gp gs gl gb c) (fun _ i _ => n - (intOf i).toNat)
        case atStart => exact ⟨0, Nat.zero_le _, rfl, rfl, I0.out⟩
        case round =>
          clear I0
          obtain ⟨c, hc, rfl, rfl, hI⟩ := hrel
          by_cases hcn : c < n
          · obtain ⟨A, off, hao, hA, hcell⟩ := HS.out.step hI.below c hcn
            subst hao
            have q0 := hcell 0 (by omega); have q1 := hcell 1 (by omega); have q2 := hcell 2 (by omega); have q3 := hcell 3 (by omega)
            simp only [Nat.add_zero] at q0
            have hcI : (c : Int) < n := by omega
            obtain ⟨tu0, tv0, pv0, hnw⟩ := near_nums (HA.out c hcn) HP.out
            have tu : told (uAt x p q c) = true := tu0
            have tv : told (vAt x p q c) = true := tv0
            have pv : 0 < vAt x p q c := pv0
            clear tu0 tv0 pv0
            have hN : ∀ w, Calls Try.prog 9 #[.agg #[.int .i64 (x (c * 4)), .int .i64 (x (c * 4 + 1)), .int .i64 (x (c * 4 + 2)), .int .i64 (x (c * 4 + 3))], .agg #[.int .i64 p, .int .i64 q]] w (VP (.tuple #[.agg #[.int .u64 (ww3 (uAt x p q c)), .int .u64 (ww2 (uAt x p q c)), .int .u64 (ww1 (uAt x p q c)), .int .u64 (ww0 (uAt x p q c)), .int .u64 (ww3 (vAt x p q c)), .int .u64 (ww2 (vAt x p q c)), .int .u64 (ww1 (vAt x p q c)), .int .u64 (ww0 (vAt x p q c))], .bool true]) w) := by
              intro w
              have h := implNear2_det (x (c * 4)) (x (c * 4 + 1)) (x (c * 4 + 2)) (x (c * 4 + 3)) p q w
              rw [show nearV (x (c * 4)) (x (c * 4 + 1)) (x (c * 4 + 2)) (x (c * 4 + 3)) p q = .tuple #[.agg #[.int .u64 (ww3 (uAt x p q c)), .int .u64 (ww2 (uAt x p q c)), .int .u64 (ww1 (uAt x p q c)), .int .u64 (ww0 (uAt x p q c)), .int .u64 (ww3 (vAt x p q c)), .int .u64 (ww2 (vAt x p q c)), .int .u64 (ww1 (vAt x p q c)), .int .u64 (ww0 (vAt x p q c))], .bool true] by unfold nearV; rw [HA.out c hcn, HP.out]; exact hnw] at h
              exact h
            have hO : (c : Int) ≠ 0 → ∀ w, Calls Try.prog 39 #[.agg #[.int .u64 (ww3 (uAt x p q c)), .int .u64 (ww2 (uAt x p q c)), .int .u64 (ww1 (uAt x p q c)), .int .u64 (ww0 (uAt x p q c)), .int .u64 (ww3 (vAt x p q c)), .int .u64 (ww2 (vAt x p q c)), .int .u64 (ww1 (vAt x p q c)), .int .u64 (ww0 (vAt x p q c))], .agg #[.int .u64 (ww3 (kU x p q c)), .int .u64 (ww2 (kU x p q c)), .int .u64 (ww1 (kU x p q c)), .int .u64 (ww0 (kU x p q c)), .int .u64 (ww3 (kV x p q c)), .int .u64 (ww2 (kV x p q c)), .int .u64 (ww1 (kV x p q c)), .int .u64 (ww0 (kV x p q c))]] w (VP (.int .i64 (cmpI (uAt x p q c * kV x p q c) (kU x p q c * vAt x p q c))) w) := by
              intro h0 w
              have hj : nsI x p q (c - 1) < n := by have := nsI_le x p q (c - 1); omega
              obtain ⟨tl, tm, pm, _⟩ := near_nums (HA.out _ hj) HP.out
              have f2 : kU x p q c = uAt x p q (nsI x p q (c - 1)) := by unfold kU; rw [if_neg (by omega)]
              have f3 : kV x p q c = vAt x p q (nsI x p q (c - 1)) := by unfold kV; rw [if_neg (by omega)]
              have tl' : told (kU x p q c) = true := by rw [f2]; exact tl
              have tm' : told (kV x p q c) = true := by rw [f3]; exact tm
              have pm' : 0 < kV x p q c := by rw [f3]; exact pm
              obtain ⟨a3, a2, a1, a0⟩ := ww_words (uAt x p q c)
              obtain ⟨b3, b2, b1, b0⟩ := ww_words (vAt x p q c)
              obtain ⟨c3, c2, c1, c0⟩ := ww_words (kU x p q c)
              obtain ⟨d3, d2, d1, d0⟩ := ww_words (kV x p q c)
              have h := ratOrder_any _ _ _ _ _ _ _ _ _ _ _ _ _ _ _ _ a3 a2 a1 a0 b3 b2 b1 b0 c3 c2 c1 c0 d3 d2 d1 d0 (by rw [ww_sw tv]; exact pv) (by rw [ww_sw tm']; exact pm') w
              rw [ww_sw tu, ww_sw tv, ww_sw tl', ww_sw tm'] at h
              exact h
            obtain ⟨up, hup⟩ : ∃ up, up = (decide ((c : Int) = 0) || decide (cmpI (uAt x p q c * kV x p q c) (kU x p q c * vAt x p q c) < 0)) := ⟨_, rfl⟩
            obtain ⟨s1, s2, s3⟩ := k_succ x p q c up hup
            have CC := fun w XP XS XL XB => near1_any gp gp gs gl gb (x (c * 4)) (x (c * 4 + 1)) (x (c * 4 + 2)) (x (c * 4 + 3)) p q (uAt x p q c) (vAt x p q c) (kU x p q c) (kV x p q c) c (kN x p q c) _ up hN hO (by omega) (by omega) hup w XP XS XL XB (by omega) (by omega) (by omega) (by omega) (by omega) (by omega) (Nat.le_refl _) (by omega) (by omega) (by omega)
            rw [s1, s2, s3] at CC
            clear hN hO hup s1 s2 s3 tu tv pv hnw hcell
            obtain ⟨HB, X5, X8, XP, XS, XL, XB⟩ := hI
            go_wp2_with fail
            refine (CC _ (XP.alloc _) (XS.alloc _) (XL.alloc _) (XB.alloc _)).mono ?_
            rintro e w4 ⟨rfl, YP, YS, YL, YB, hB⟩
            have HB2 : Below w.heap.size w w4 := (HB.alloc HB.size _).trans (hB.mono (by omega))
            have Y5 := (X5.alloc (.cells #[.int .i64 (x (c * 4)), .int .i64 (x (c * 4 + 1)), .int .i64 (x (c * 4 + 2)), .int .i64 (x (c * 4 + 3))] 39)).below hB (by omega)
            have Y8 := (X8.alloc (.cells #[.int .i64 (x (c * 4)), .int .i64 (x (c * 4 + 1)), .int .i64 (x (c * 4 + 2)), .int .i64 (x (c * 4 + 3))] 39)).below hB (by omega)
            have hcs : ((c : Int) + 1) = ((c + 1 : Nat) : Int) := by omega
            rw [hcs] at YS
            clear hB CC HB X5 X8 XP XS XL XB q0 q1 q2 q3 hA hcs
            have o0 := Y8.c 0 rfl; have r0 := Y8.f 0 rfl; have o1 := Y8.c 1 rfl; have r1 := Y8.f 1 rfl; have o2 := Y8.c 2 rfl; have r2 := Y8.f 2 rfl; have o3 := Y8.c 3 rfl; have r3 := Y8.f 3 rfl; have o4 := Y8.c 4 rfl; have r4 := Y8.f 4 rfl; have o5 := Y8.c 5 rfl; have r5 := Y8.f 5 rfl; have o6 := Y8.c 6 rfl; have r6 := Y8.f 6 rfl; have o7 := Y8.c 7 rfl; have r7 := Y8.f 7 rfl; have ol := Y8.lt
            have HN : Hid (NwI w ((((((((w4.setCell ⟨g8, 0, none⟩ (.int .u64 (ww3 (kU x p q (c + 1))))).setCell ⟨g8, 1, none⟩ (.int .u64 (ww2 (kU x p q (c + 1))))).setCell ⟨g8, 2, none⟩ (.int .u64 (ww1 (kU x p q (c + 1))))).setCell ⟨g8, 3, none⟩ (.int .u64 (ww0 (kU x p q (c + 1))))).setCell ⟨g8, 4, none⟩ (.int .u64 (ww3 (kV x p q (c + 1))))).setCell ⟨g8, 5, none⟩ (.int .u64 (ww2 (kV x p q (c + 1))))).setCell ⟨g8, 6, none⟩ (.int .u64 (ww1 (kV x p q (c + 1))))).setCell ⟨g8, 7, none⟩ (.int .u64 (ww0 (kV x p q (c + 1))))) n x p q g5 g8 gp gs gl gb (c + 1)) := by
              refine ⟨?_, Y5.set8 (by omega), Blk.stored8 Y8 _ _ _ _ _ _ _ _, YP.set8 (by omega), YS.set8 (by omega), YL.set8 (by omega), YB.set8 (by omega)⟩
              repeat' (refine Below.setCell ?_ (by simp; omega) _)
              exact HB2
            clear Y5 Y8 YP YS YL YB HB2
            go_wp2
            go_roundw
            case rel => exact ⟨c + 1, by omega, by go_num, rfl, HN.out⟩
            case measure => simp [intOf]; omega
          · obtain rfl : c = n := by omega
            obtain ⟨HB, X5, X8, _, _, _, _⟩ := hI
            go_upto_region 11 with fail
            refine nkE (B4 := w.heap.size) (A5 := g5) (A8 := g8) (k := kN x p q c) (by omega) (by omega) rfl rfl rfl rfl ⟨X8.drew, _, _, _, _, _, _, _, _, X5.drew⟩ ?_
            rintro ⟨tm, df⟩ Wz hz hdf hoff h4 hR h6 hBz _
            have hR : Blk Wz g5 [.int .u64 (ww3 (kU x p q c)), .int .u64 (ww2 (kU x p q c)), .int .u64 (ww1 (kU x p q c)), .int .u64 (ww0 (kU x p q c)), .int .u64 (ww3 (kV x p q c)), .int .u64 (ww2 (kV x p q c)), .int .u64 (ww1 (kV x p q c)), .int .u64 (ww0 (kV x p q c))] := hR
            simp only at hz hdf hoff
            change tm.getD 4 undef = .int .i64 (kN x p q c) at h4
            change tm.getD 6 undef = .bool true at h6
            subst hdf
            have htm := tmps_fold [41, 42, 4, 6] tm _ hz hoff
            simp only [List.foldl, List.setIfInBounds_toArray, List.set_cons_zero, List.set_cons_succ, h4, h6] at htm
            clear hz hoff
            generalize tm.getD 41 undef = s0, tm.getD 42 undef = s1 at htm
            clear h4 h6
            subst htm
            have HBF := HB.trans hBz
            clear X5 X8 HB hBz
            have m0 := hR.c 0 rfl; have m1 := hR.c 1 rfl; have m2 := hR.c 2 rfl; have m3 := hR.c 3 rfl; have m4 := hR.c 4 rfl; have m5 := hR.c 5 rfl; have m6 := hR.c 6 rfl; have m7 := hR.c 7 rfl
            go_wp2
            refine bodyPost_ret (v := .tuple #[.int .i64 (kN x p q c), .agg #[.int .u64 (ww3 (kU x p q c)), .int .u64 (ww2 (kU x p q c)), .int .u64 (ww1 (kU x p q c)), .int .u64 (ww0 (kU x p q c)), .int .u64 (ww3 (kV x p q c)), .int .u64 (ww2 (kV x p q c)), .int .u64 (ww1 (kV x p q c)), .int .u64 (ww0 (kV x p q c))], .bool true]) (by simp [results, Try.results7, go_sem, m0, m1, m2, m3, m4, m5, m6, m7]) rfl ?_
            refine ⟨?_, HBF⟩
            have f1 : kN x p q c = (nsI x p q (c - 1) : Nat) := by unfold kN; rw [if_neg hn]
            have f2 : kU x p q c = uAt x p q (nsI x p q (c - 1)) := by unfold kU; rw [if_neg hn]
            have f3 : kV x p q c = vAt x p q (nsI x p q (c - 1)) := by unfold kV; rw [if_neg hn]
            unfold nsV
            rw [HO.out, f1, f2, f3]
            rfl
  · have HO : Hid (nsOk n x p q = false) := by show _ = _; unfold nsOk; rw [decide_eq_false hsg]; simp
    have hs0 : (sgI n x == 0) = false := beq_eq_false_iff_ne.2 hsg
    generalize sgI n x = sg at *
    have o0 := X5.c 0 rfl; have r0 := X5.f 0 rfl; have o1 := X5.c 1 rfl; have r1 := X5.f 1 rfl; have o2 := X5.c 2 rfl; have r2 := X5.f 2 rfl; have o3 := X5.c 3 rfl; have r3 := X5.f 3 rfl; have o4 := X5.c 4 rfl; have r4 := X5.f 4 rfl; have o5 := X5.c 5 rfl; have r5 := X5.f 5 rfl; have o6 := X5.c 6 rfl; have r6 := X5.f 6 rfl; have o7 := X5.c 7 rfl; have r7 := X5.f 7 rfl; have ol := X5.lt
    clear X5 XP
    go_wp2
    refine bodyPost_ret (v := .tuple #[.int .i64 0, .agg #[.int .u64 0, .int .u64 0, .int .u64 0, .int .u64 0, .int .u64 0, .int .u64 0, .int .u64 0, .int .u64 0], .bool false]) (by simp [results, Try.results7, go_sem, o0, o1, o2, o3, o4, o5, o6, o7]) rfl ?_
    refine ⟨by unfold nsV; rw [HO.out]; rfl, ?_⟩
    repeat' (refine Below.setCell ?_ (by simp; try omega) _)
    exact HB
end Go.Proofs.Ytjhmacpejfldoaa

/- The last region of the model's walk to the nearest segment. -/
namespace Go.Proofs.Ytjhmacpejfldoaa
open Go.RowKit
def VnsEnd (R : Nat) (k y0 y1 y2 y3 y4 y5 y6 y7 : Int) (w0 : World) : Nat → Value → World → Prop
  | 0, v, _ => v = .int .i64 k
  | 1, v, _ => v = .agg #[.int .u64 y0, .int .u64 y1, .int .u64 y2, .int .u64 y3, .int .u64 y4, .int .u64 y5, .int .u64 y6, .int .u64 y7]
  | 2, v, _ => v = .int .i64 k
  | 3, _, W => Blk W R [.int .u64 y0, .int .u64 y1, .int .u64 y2, .int .u64 y3, .int .u64 y4, .int .u64 y5, .int .u64 y6, .int .u64 y7] ∧ ∀ B w, B ≤ R → Below B w w0 → Below B w W
  | 4, v, _ => v = .bool true
  | _, _, _ => True
theorem nsPutD {R : Nat} {k y0 y1 y2 y3 y4 y5 y6 y7 : Int} {w0 : World} (j : Nat) (v : Value) (h : VnsEnd R k y0 y1 y2 y3 y4 y5 y6 y7 w0 j v w0.drew) : VnsEnd R k y0 y1 y2 y3 y4 y5 y6 y7 w0 j v ((((((((w0.setCell ⟨R, 0, none⟩ (.int .u64 y0)).setCell ⟨R, 1, none⟩ (.int .u64 y1)).setCell ⟨R, 2, none⟩ (.int .u64 y2)).setCell ⟨R, 3, none⟩ (.int .u64 y3)).setCell ⟨R, 4, none⟩ (.int .u64 y4)).setCell ⟨R, 5, none⟩ (.int .u64 y5)).setCell ⟨R, 6, none⟩ (.int .u64 y6)).setCell ⟨R, 7, none⟩ (.int .u64 y7)).drew := by
  match j, h with
  | 0, h => change v = _ at h; change v = _; exact h
  | 1, h => change v = _ at h; change v = _; exact h
  | 2, h => change v = _ at h; change v = _; exact h
  | 3, h =>
    have h1 : Blk w0.drew R [.int .u64 y0, .int .u64 y1, .int .u64 y2, .int .u64 y3, .int .u64 y4, .int .u64 y5, .int .u64 y6, .int .u64 y7] := h.1
    have h2 : ∀ B w, B ≤ R → Below B w w0 → Below B w w0.drew := h.2
    have h3 : Blk w0 R [.int .u64 y0, .int .u64 y1, .int .u64 y2, .int .u64 y3, .int .u64 y4, .int .u64 y5, .int .u64 y6, .int .u64 y7] := h1
    have k1 : Blk ((((((((w0.setCell ⟨R, 0, none⟩ (.int .u64 y0)).setCell ⟨R, 1, none⟩ (.int .u64 y1)).setCell ⟨R, 2, none⟩ (.int .u64 y2)).setCell ⟨R, 3, none⟩ (.int .u64 y3)).setCell ⟨R, 4, none⟩ (.int .u64 y4)).setCell ⟨R, 5, none⟩ (.int .u64 y5)).setCell ⟨R, 6, none⟩ (.int .u64 y6)).setCell ⟨R, 7, none⟩ (.int .u64 y7)) R [.int .u64 y0, .int .u64 y1, .int .u64 y2, .int .u64 y3, .int .u64 y4, .int .u64 y5, .int .u64 y6, .int .u64 y7] := ((((((((h3.setI 0 (by simp) (.int .u64 y0)).setI 1 (by simp) (.int .u64 y1)).setI 2 (by simp) (.int .u64 y2)).setI 3 (by simp) (.int .u64 y3)).setI 4 (by simp) (.int .u64 y4)).setI 5 (by simp) (.int .u64 y5)).setI 6 (by simp) (.int .u64 y6)).setI 7 (by simp) (.int .u64 y7))
    refine ⟨k1.drew, fun B w hB h => ?_⟩
    refine Below.drew ?_
    repeat' (refine Below.setCell ?_ (by exact hB) _)
    exact h
  | 4, h => change v = _ at h; change v = _; exact h
  | j + 5, _ => trivial
def NsJ (R : Nat) (k y0 y1 y2 y3 y4 y5 y6 y7 : Int) (w0 : World) (a0 : Act) (l : Array Bool) (a : Act) (W : World) : Prop := InvQ R [some 55, some 56, some 4, none, some 6] (VnsEnd R k y0 y1 y2 y3 y4 y5 y6 y7 w0) w0 a0 l a W ∧ (l.getD 3 false = false → W = w0.drew) ∧ (l.getD 3 false = true → l.getD 1 false = true)
theorem getD_listed {l : Array Bool} {i : Nat} (h : l.getD i true = false) : l.getD i false = false := by
  rcases Nat.lt_or_ge i l.size with h' | h'
  · simpa [Array.getD, h'] using h
  · simp [Array.getD, Nat.not_lt.2 h'] at h
theorem keep3 {l : Array Bool} {i : Nat} {p : Prop} (hi : i ≠ 3) (h : l.getD 3 false = false → p) : (l.setIfInBounds i true).getD 3 false = false → p := fun h' => h (by rw [getD_set_ne false hi] at h'; exact h')
theorem keep31 {l : Array Bool} {i : Nat} (hi : i ≠ 3) (hi1 : i ≠ 1) (h : l.getD 3 false = true → l.getD 1 false = true) : (l.setIfInBounds i true).getD 3 false = true → (l.setIfInBounds i true).getD 1 false = true := fun h' => by
  rw [getD_set_ne false hi] at h'
  rw [getD_set_ne false hi1]
  exact h h'
theorem getD_put {l : Array Bool} {i : Nat} (hi : i < l.size) : (l.setIfInBounds i true).getD i false = true := by
  simp [Array.getD, hi]
set_option maxRecDepth 100000 in
set_option maxHeartbeats 4000000 in
theorem nsEnd {Q : Exit → Act → World → Prop} {E R : Nat} {k y0 y1 y2 y3 y4 y5 y6 y7 : Int} {w0 : World} {a0 : Act} {idq : Nat} {t0 t1 t2 t3 t4 : TypeId} {q0 q1 q2 q3 q4 : String} (GE : Blk w0 E [.int .u64 y0, .int .u64 y1, .int .u64 y2, .int .u64 y3, .int .u64 y4, .int .u64 y5, .int .u64 y6, .int .u64 y7]) (GR : Blk w0 R [.int .u64 0, .int .u64 0, .int .u64 0, .int .u64 0, .int .u64 0, .int .u64 0, .int .u64 0, .int .u64 0]) (h5 : a0.tmps[5]? = some (.pointer (some ⟨R, 0, none⟩))) (h7 : a0.tmps[7]? = some (.int .i64 k)) (h11 : a0.tmps[11]? = some (.pointer (some ⟨E, 0, none⟩))) (hz : a0.tmps.size = 57)
    (hQ : ∀ aq W, aq.tmps.size = a0.tmps.size → aq.defers = a0.defers → (∀ e, e ∉ ([55, 56, 4, 6] : List Nat) → aq.tmps[e]? = a0.tmps[e]?) → aq.tmps.getD 55 undef = .int .i64 k → aq.tmps.getD 56 undef = .agg #[.int .u64 y0, .int .u64 y1, .int .u64 y2, .int .u64 y3, .int .u64 y4, .int .u64 y5, .int .u64 y6, .int .u64 y7] → aq.tmps.getD 4 undef = .int .i64 k → aq.tmps.getD 6 undef = .bool true → Blk W R [.int .u64 y0, .int .u64 y1, .int .u64 y2, .int .u64 y3, .int .u64 y4, .int .u64 y5, .int .u64 y6, .int .u64 y7] → (∀ B w, B ≤ R → Below B w w0 → Below B w W) → Q .normal aq W) :
    (Code.region idq #[{ dst := some 55, op := Op.move (Operand.tmp 7), type := t0, pos := q0, after := #[], guard := none },
    { dst := some 56, op := Op.load 33 (Operand.tmp 11), type := t1, pos := q1, after := #[{ on := 2, ground := Ground.gcOnly Departure.lateStores }], guard := none },
    { dst := some 4, op := Op.assign (Operand.tmp 55), type := t2, pos := q2, after := #[{ on := 0, ground := Ground.data }, { on := 0, ground := Ground.phase }, { on := 1, ground := Ground.textOnly Departure.lateStores }], guard := none },
    { dst := none, op := Op.store 33 (Operand.tmp 5) (Operand.tmp 56), type := t3, pos := q3, after := #[{ on := 1, ground := Ground.data }, { on := 2, ground := Ground.chain }, { on := 0, ground := Ground.phase }, { on := 1, ground := Ground.phase }, { on := 2, ground := Ground.phase }], guard := none },
    { dst := some 6, op := Op.assign (Operand.const (Value.bool true)), type := t4, pos := q4, after := #[{ on := 3, ground := Ground.chain }, { on := 0, ground := Ground.phase }, { on := 1, ground := Ground.phase }, { on := 2, ground := Ground.phase }, { on := 3, ground := Ground.phase }], guard := none }] true).wp Try.prog Q a0 w0 := by
  have hS : distS [some 55, some 56, some 4, none, some 6] = true := rfl
  refine wp_region_inv (by kernel_rfl) (NsJ R k y0 y1 y2 y3 y4 y5 y6 y7 w0 a0) ⟨⟨rfl, rfl, rfl, fun _ _ => rfl, (Below.refl _ w0).drew, fun j d hj => ?_, fun j hj => ?_⟩, fun _ => rfl, fun h => ?_⟩ ?_ ?_
  · exfalso
    rw [Array.getD_eq_getD_getElem?, Array.getElem?_replicate] at hj
    split at hj <;> simp at hj
  · exfalso
    rw [Array.getD_eq_getD_getElem?, Array.getElem?_replicate] at hj
    split at hj <;> simp at hj
  · exfalso
    rw [Array.getD_eq_getD_getElem?, Array.getElem?_replicate] at h
    split at h <;> simp at h
  · intro lq aq W iq oq ⟨hJ, hw, h31⟩ hl ho hall
    have hJ2 := hJ
    obtain ⟨z1, z2, z3, z4, z5, z6, z7⟩ := hJ2
    have g5 : aq.tmps.getD 5 undef = .pointer (some ⟨R, 0, none⟩) := by rw [Array.getD_eq_getD_getElem?, z4 5 (by decide), h5]; rfl
    have g7 : aq.tmps.getD 7 undef = .int .i64 k := by rw [Array.getD_eq_getD_getElem?, z4 7 (by decide), h7]; rfl
    have g11 : aq.tmps.getD 11 undef = .pointer (some ⟨E, 0, none⟩) := by rw [Array.getD_eq_getD_getElem?, z4 11 (by decide), h11]; rfl
    have hls : lq.size = 5 := by simpa using z1
    match iq, ho with
    | 0, ho =>
      cases ho
      refine wpOp_of rfl rfl ?_
      have hK : ∀ v : Value, (VnsEnd R k y0 y1 y2 y3 y4 y5 y6 y7 w0) 0 v W → NsJ R k y0 y1 y2 y3 y4 y5 y6 y7 w0 a0 (lq.setIfInBounds 0 true) (aq.put (some 55) v) W := fun (v : Value) hv => And.intro (hJ.put hS 0 55 rfl (by omega) (W' := W) z5 (fun _ _ h => h) v hv) (And.intro (keep3 (i := 0) (by decide) hw) (keep31 (i := 0) (by decide) (by decide) h31))
      clear ho hall hl hQ hJ hw h31 z1 z2 z3 z4 z5 z6 z7
      generalize NsJ R k y0 y1 y2 y3 y4 y5 y6 y7 w0 a0 (lq.setIfInBounds 0 true) = K at hK ⊢
      go_simp
      exact hK _ rfl
    | 1, ho =>
      cases ho
      refine wpOp_of rfl rfl ?_
      have hn3 : lq.getD 3 false = false := by
        cases h : lq.getD 3 false
        · rfl
        · have := h31 h
          rw [getD_listed hl] at this
          cases this
      have hW := hw hn3
      subst hW
      have hK : ∀ v : Value, (VnsEnd R k y0 y1 y2 y3 y4 y5 y6 y7 w0) 1 v w0.drew → NsJ R k y0 y1 y2 y3 y4 y5 y6 y7 w0 a0 (lq.setIfInBounds 1 true) (aq.put (some 56) v) w0.drew := fun (v : Value) hv => And.intro (hJ.put hS 1 56 rfl (by omega) (W' := w0.drew) z5 (fun _ _ h => h) v hv) (And.intro (show (lq.setIfInBounds 1 true).getD 3 false = false → w0.drew = w0.drew from fun _ => rfl) (show (lq.setIfInBounds 1 true).getD 3 false = true → (lq.setIfInBounds 1 true).getD 1 false = true from fun _ => getD_put (by omega)))
      have e0 := GE.c 0 rfl; have e1 := GE.c 1 rfl; have e2 := GE.c 2 rfl; have e3 := GE.c 3 rfl; have e4 := GE.c 4 rfl; have e5 := GE.c 5 rfl; have e6 := GE.c 6 rfl; have e7 := GE.c 7 rfl
      clear ho hall hl hQ hJ hw h31 z1 z2 z3 z4 z5 z6 z7
      generalize NsJ R k y0 y1 y2 y3 y4 y5 y6 y7 w0 a0 (lq.setIfInBounds 1 true) = K at hK ⊢
      go_simp
      exact hK _ rfl
    | 2, ho =>
      cases ho
      refine wpOp_of rfl rfl ?_
      have f0 : aq.tmps.getD 55 undef = .int .i64 k := z6 0 55 (hall { on := 0, ground := Ground.phase } (by simp) rfl) rfl
      have hK : ∀ v : Value, (VnsEnd R k y0 y1 y2 y3 y4 y5 y6 y7 w0) 2 v W → NsJ R k y0 y1 y2 y3 y4 y5 y6 y7 w0 a0 (lq.setIfInBounds 2 true) (aq.put (some 4) v) W := fun (v : Value) hv => And.intro (hJ.put hS 2 4 rfl (by omega) (W' := W) z5 (fun _ _ h => h) v hv) (And.intro (keep3 (i := 2) (by decide) hw) (keep31 (i := 2) (by decide) (by decide) h31))
      clear ho hall hl hQ hJ hw h31 z1 z2 z3 z4 z5 z6 z7
      generalize NsJ R k y0 y1 y2 y3 y4 y5 y6 y7 w0 a0 (lq.setIfInBounds 2 true) = K at hK ⊢
      go_simp
      exact hK _ rfl
    | 3, ho =>
      cases ho
      refine wpOp_of rfl rfl ?_
      have l1 : lq.getD 1 false = true := hall { on := 1, ground := Ground.phase } (by simp) rfl
      have f1 : aq.tmps.getD 56 undef = .agg #[.int .u64 y0, .int .u64 y1, .int .u64 y2, .int .u64 y3, .int .u64 y4, .int .u64 y5, .int .u64 y6, .int .u64 y7] := z6 1 56 l1 rfl
      have hW := hw (getD_listed hl)
      subst hW
      have NB0 : Blk ((((((((w0.setCell ⟨R, 0, none⟩ (.int .u64 y0)).setCell ⟨R, 1, none⟩ (.int .u64 y1)).setCell ⟨R, 2, none⟩ (.int .u64 y2)).setCell ⟨R, 3, none⟩ (.int .u64 y3)).setCell ⟨R, 4, none⟩ (.int .u64 y4)).setCell ⟨R, 5, none⟩ (.int .u64 y5)).setCell ⟨R, 6, none⟩ (.int .u64 y6)).setCell ⟨R, 7, none⟩ (.int .u64 y7)) R [.int .u64 y0, .int .u64 y1, .int .u64 y2, .int .u64 y3, .int .u64 y4, .int .u64 y5, .int .u64 y6, .int .u64 y7] := ((((((((GR.setI 0 (by simp) (.int .u64 y0)).setI 1 (by simp) (.int .u64 y1)).setI 2 (by simp) (.int .u64 y2)).setI 3 (by simp) (.int .u64 y3)).setI 4 (by simp) (.int .u64 y4)).setI 5 (by simp) (.int .u64 y5)).setI 6 (by simp) (.int .u64 y6)).setI 7 (by simp) (.int .u64 y7))
      have NB : Blk ((((((((w0.setCell ⟨R, 0, none⟩ (.int .u64 y0)).setCell ⟨R, 1, none⟩ (.int .u64 y1)).setCell ⟨R, 2, none⟩ (.int .u64 y2)).setCell ⟨R, 3, none⟩ (.int .u64 y3)).setCell ⟨R, 4, none⟩ (.int .u64 y4)).setCell ⟨R, 5, none⟩ (.int .u64 y5)).setCell ⟨R, 6, none⟩ (.int .u64 y6)).setCell ⟨R, 7, none⟩ (.int .u64 y7)).drew R [.int .u64 y0, .int .u64 y1, .int .u64 y2, .int .u64 y3, .int .u64 y4, .int .u64 y5, .int .u64 y6, .int .u64 y7] := NB0.drew
      have NL : ∀ B w, B ≤ R → Below B w w0 → Below B w ((((((((w0.setCell ⟨R, 0, none⟩ (.int .u64 y0)).setCell ⟨R, 1, none⟩ (.int .u64 y1)).setCell ⟨R, 2, none⟩ (.int .u64 y2)).setCell ⟨R, 3, none⟩ (.int .u64 y3)).setCell ⟨R, 4, none⟩ (.int .u64 y4)).setCell ⟨R, 5, none⟩ (.int .u64 y5)).setCell ⟨R, 6, none⟩ (.int .u64 y6)).setCell ⟨R, 7, none⟩ (.int .u64 y7)).drew := fun B w hB h => by
        refine Below.drew ?_
        repeat' (refine Below.setCell ?_ (by exact hB) _)
        exact h
      have hK : NsJ R k y0 y1 y2 y3 y4 y5 y6 y7 w0 a0 (lq.setIfInBounds 3 true) aq ((((((((w0.setCell ⟨R, 0, none⟩ (.int .u64 y0)).setCell ⟨R, 1, none⟩ (.int .u64 y1)).setCell ⟨R, 2, none⟩ (.int .u64 y2)).setCell ⟨R, 3, none⟩ (.int .u64 y3)).setCell ⟨R, 4, none⟩ (.int .u64 y4)).setCell ⟨R, 5, none⟩ (.int .u64 y5)).setCell ⟨R, 6, none⟩ (.int .u64 y6)).setCell ⟨R, 7, none⟩ (.int .u64 y7)).drew := And.intro (hJ.world 3 rfl (W' := ((((((((w0.setCell ⟨R, 0, none⟩ (.int .u64 y0)).setCell ⟨R, 1, none⟩ (.int .u64 y1)).setCell ⟨R, 2, none⟩ (.int .u64 y2)).setCell ⟨R, 3, none⟩ (.int .u64 y3)).setCell ⟨R, 4, none⟩ (.int .u64 y4)).setCell ⟨R, 5, none⟩ (.int .u64 y5)).setCell ⟨R, 6, none⟩ (.int .u64 y6)).setCell ⟨R, 7, none⟩ (.int .u64 y7)).drew) (NL R w0 (Nat.le_refl _) (Below.refl _ _)) (fun j v h => nsPutD j v h) ⟨NB, NL⟩) (And.intro (show (lq.setIfInBounds 3 true).getD 3 false = false → ((((((((w0.setCell ⟨R, 0, none⟩ (.int .u64 y0)).setCell ⟨R, 1, none⟩ (.int .u64 y1)).setCell ⟨R, 2, none⟩ (.int .u64 y2)).setCell ⟨R, 3, none⟩ (.int .u64 y3)).setCell ⟨R, 4, none⟩ (.int .u64 y4)).setCell ⟨R, 5, none⟩ (.int .u64 y5)).setCell ⟨R, 6, none⟩ (.int .u64 y6)).setCell ⟨R, 7, none⟩ (.int .u64 y7)).drew = w0.drew from fun h => by rw [getD_put (by omega)] at h; cases h) (show (lq.setIfInBounds 3 true).getD 3 false = true → (lq.setIfInBounds 3 true).getD 1 false = true from fun _ => by rw [getD_set_ne false (by decide)]; exact l1))
      have r0 := GR.c 0 rfl; have s0 := GR.f 0 rfl; have r1 := GR.c 1 rfl; have s1 := GR.f 1 rfl; have r2 := GR.c 2 rfl; have s2 := GR.f 2 rfl; have r3 := GR.c 3 rfl; have s3 := GR.f 3 rfl; have r4 := GR.c 4 rfl; have s4 := GR.f 4 rfl; have r5 := GR.c 5 rfl; have s5 := GR.f 5 rfl; have r6 := GR.c 6 rfl; have s6 := GR.f 6 rfl; have r7 := GR.c 7 rfl; have s7 := GR.f 7 rfl; have rl := GR.lt
      clear ho hall hl hQ hJ hw h31 NB NB0 NL z1 z2 z3 z4 z5 z6 z7
      generalize NsJ R k y0 y1 y2 y3 y4 y5 y6 y7 w0 a0 (lq.setIfInBounds 3 true) = K at hK ⊢
      go_simp
      exact hK
    | 4, ho =>
      cases ho
      refine wpOp_of rfl rfl ?_
      have hK : ∀ v : Value, (VnsEnd R k y0 y1 y2 y3 y4 y5 y6 y7 w0) 4 v W → NsJ R k y0 y1 y2 y3 y4 y5 y6 y7 w0 a0 (lq.setIfInBounds 4 true) (aq.put (some 6) v) W := fun (v : Value) hv => And.intro (hJ.put hS 4 6 rfl (by omega) (W' := W) z5 (fun _ _ h => h) v hv) (And.intro (keep3 (i := 4) (by decide) hw) (keep31 (i := 4) (by decide) (by decide) h31))
      clear ho hall hl hQ hJ hw h31 z1 z2 z3 z4 z5 z6 z7
      generalize NsJ R k y0 y1 y2 y3 y4 y5 y6 y7 w0 a0 (lq.setIfInBounds 4 true) = K at hK ⊢
      go_simp
      exact hK _ rfl
    | iq + 5, ho => simp at ho
  · intro lq aq W ⟨hJ, _, _⟩ hr
    obtain ⟨z1, z2, z3, z4, z5, z6, z7⟩ := hJ
    have hl := listed_of hr [0, 1, 2, 3, 4] [] (by simp) (by kernel_rfl) (by rw [z1]; decide)
    obtain ⟨b1, b2⟩ := z7 3 (hl 3 (by simp)) rfl
    exact hQ aq W z2 z3 (fun e he => z4 e (by simpa using he)) (z6 0 55 (hl 0 (by simp)) rfl) (z6 1 56 (hl 1 (by simp)) rfl) (z6 2 4 (hl 2 (by simp)) rfl) (z6 4 6 (hl 4 (by simp)) rfl) b1 b2
end Go.Proofs.Ytjhmacpejfldoaa

/- The nearest of a row of segments: the model's walk. -/
namespace Go.Proofs.Ytjhmacpejfldoaa
open Go.RowKit
set_option maxRecDepth 100000 in
set_option maxHeartbeats 4000000 in
theorem specNearest_any (ao : Option Addr) (n cap : Nat) (x : Nat → Int) (p q : Int) (w : World) (hS : SegIn w ao n x) : Calls Try.prog 8 #[.slice ao n cap, Sp p q] w (VP (nsV n x p q) w) := by
  have T0 := ns_start p q w 26 33 [.int .u64 0, .int .u64 0, .int .u64 0, .int .u64 0, .int .u64 0, .int .u64 0, .int .u64 0, .int .u64 0]
  have HS : Hid (SegIn w ao n x) := hS
  clear hS
  go_enter Try.func8, Try.ntmps8
  go_wp2_with fail
  generalize ((w.alloc (.cells #[.int .i64 p, .int .i64 q] 26)).alloc (.cells _ 33)) = W at *
  refine (l7Ok_any ao n cap x _ (HS.out.step T0.below)).mono ?_
  rintro e w1 ⟨rfl, hB⟩
  replace T0 := T0.step hB
  clear hB
  by_cases hsg : sgI n x = 0
  · rw [decide_eq_true hsg]
    have X0 : Blk _ w.heap.size _ := T0.b 0 rfl; have a0 := X0.c 0 rfl; have a1 := X0.c 1 rfl
    go_wp2_with fail
    refine (specSpotOk_any p q _ rfl _).mono ?_
    rintro e w2 ⟨rfl, hB⟩
    clear X0 a0 a1
    replace T0 := T0.step hB
    clear hB
    cases hsp : spotOk p q
    · have HO : Hid (nsOk n x p q = false) := by show _ = _; unfold nsOk; rw [hsp]; simp
      clear hsg hsp
      have o0 := (T0.b 1 rfl).c 0 rfl; have r0 := (T0.b 1 rfl).f 0 rfl; have o1 := (T0.b 1 rfl).c 1 rfl; have r1 := (T0.b 1 rfl).f 1 rfl; have o2 := (T0.b 1 rfl).c 2 rfl; have r2 := (T0.b 1 rfl).f 2 rfl; have o3 := (T0.b 1 rfl).c 3 rfl; have r3 := (T0.b 1 rfl).f 3 rfl; have o4 := (T0.b 1 rfl).c 4 rfl; have r4 := (T0.b 1 rfl).f 4 rfl; have o5 := (T0.b 1 rfl).c 5 rfl; have r5 := (T0.b 1 rfl).f 5 rfl; have o6 := (T0.b 1 rfl).c 6 rfl; have r6 := (T0.b 1 rfl).f 6 rfl; have o7 := (T0.b 1 rfl).c 7 rfl; have r7 := (T0.b 1 rfl).f 7 rfl; have olt := (T0.b 1 rfl).lt
      have HB := T0.below
      clear T0
      go_wp2
      refine bodyPost_ret (v := .tuple #[.int .i64 0, .agg #[.int .u64 0, .int .u64 0, .int .u64 0, .int .u64 0, .int .u64 0, .int .u64 0, .int .u64 0, .int .u64 0], .bool false]) (by simp [results, Try.results8, go_sem, o0, o1, o2, o3, o4, o5, o6, o7]) rfl ?_
      refine ⟨by unfold nsV; rw [HO.out]; rfl, ?_⟩
      repeat' (refine Below.setCell ?_ (by simp; try omega) _)
      exact HB
    · by_cases hn : n = 0
      · subst hn
        have HO : Hid (nsOk 0 x p q = false) := by show _ = _; unfold nsOk; simp
        clear hsg hsp
        have o0 := (T0.b 1 rfl).c 0 rfl; have r0 := (T0.b 1 rfl).f 0 rfl; have o1 := (T0.b 1 rfl).c 1 rfl; have r1 := (T0.b 1 rfl).f 1 rfl; have o2 := (T0.b 1 rfl).c 2 rfl; have r2 := (T0.b 1 rfl).f 2 rfl; have o3 := (T0.b 1 rfl).c 3 rfl; have r3 := (T0.b 1 rfl).f 3 rfl; have o4 := (T0.b 1 rfl).c 4 rfl; have r4 := (T0.b 1 rfl).f 4 rfl; have o5 := (T0.b 1 rfl).c 5 rfl; have r5 := (T0.b 1 rfl).f 5 rfl; have o6 := (T0.b 1 rfl).c 6 rfl; have r6 := (T0.b 1 rfl).f 6 rfl; have o7 := (T0.b 1 rfl).c 7 rfl; have r7 := (T0.b 1 rfl).f 7 rfl; have olt := (T0.b 1 rfl).lt
        have HB := T0.below
        clear T0
        go_wp2
        refine bodyPost_ret (v := .tuple #[.int .i64 0, .agg #[.int .u64 0, .int .u64 0, .int .u64 0, .int .u64 0, .int .u64 0, .int .u64 0, .int .u64 0, .int .u64 0], .bool false]) (by simp [results, Try.results8, go_sem, o0, o1, o2, o3, o4, o5, o6, o7]) rfl ?_
        refine ⟨by unfold nsV; rw [HO.out]; rfl, ?_⟩
        repeat' (refine Below.setCell ?_ (by simp; try omega) _)
        exact HB
      · have HO : Hid (nsOk n x p q = true) := by show _ = _; unfold nsOk; rw [hsp, decide_eq_true hsg, decide_eq_true (by omega)]; rfl
        obtain ⟨h40, hall⟩ := sgI_zero hsg
        have HA : Hid (∀ i, i < n → segOk (x (i * 4)) (x (i * 4 + 1)) (x (i * 4 + 2)) (x (i * 4 + 3)) = true) := hall
        have HP : Hid (spotOk p q = true) := hsp
        have hnI : (n : Int) ≤ 40 := by omega
        have hn0 : (n : Int) ≠ 0 := by omega
        have hn1 : (0 : Int) < n := by omega
        have hn2 : 0 < n := by omega
        have hn3 : (0 : Int) ≤ n := by omega
        clear hall hsp hsg
        obtain ⟨A, off, rfl, hA, hcell⟩ := HS.out 0 (by omega)
        have HBw := T0.below
        have e0 : ∀ o, w2.cell? ⟨A, o, none⟩ = w.cell? ⟨A, o, none⟩ := fun o => HBw.cell (p := ⟨A, o, none⟩) hA
        have q0 := (e0 _).trans (hcell 0 (by omega)); have q1 := (e0 _).trans (hcell 1 (by omega)); have q2 := (e0 _).trans (hcell 2 (by omega)); have q3 := (e0 _).trans (hcell 3 (by omega))
        simp only [Nat.zero_mul, Nat.add_zero, Nat.zero_add] at q0 q1 q2 q3
        have hA' : A < w2.heap.size := Nat.lt_of_lt_of_le hA HBw.size
        have X0 : Blk _ w.heap.size _ := T0.b 0 rfl; have a0 := X0.c 0 rfl; have a1 := X0.c 1 rfl
        have KS : (fun w' => w'.cell? ⟨A, off, none⟩ = some (.int .i64 (x 0)) ∧ w'.cell? ⟨A, off + 1, none⟩ = some (.int .i64 (x 1)) ∧ w'.cell? ⟨A, off + 2, none⟩ = some (.int .i64 (x 2)) ∧ w'.cell? ⟨A, off + 3, none⟩ = some (.int .i64 (x 3)) ∧ w'.cell? ⟨w.heap.size, 0, none⟩ = some (.int .i64 p) ∧ w'.cell? ⟨w.heap.size, 1, none⟩ = some (.int .i64 q)) w2 := ⟨q0, q1, q2, q3, a0, a1⟩
        have HK : ∀ w', Below w2.heap.size w2 w' → (fun w' => w'.cell? ⟨A, off, none⟩ = some (.int .i64 (x 0)) ∧ w'.cell? ⟨A, off + 1, none⟩ = some (.int .i64 (x 1)) ∧ w'.cell? ⟨A, off + 2, none⟩ = some (.int .i64 (x 2)) ∧ w'.cell? ⟨A, off + 3, none⟩ = some (.int .i64 (x 3)) ∧ w'.cell? ⟨w.heap.size, 0, none⟩ = some (.int .i64 p) ∧ w'.cell? ⟨w.heap.size, 1, none⟩ = some (.int .i64 q)) w' := fun w' hB => ⟨(hB.cell (p := ⟨A, _, none⟩) hA').trans q0, (hB.cell (p := ⟨A, _, none⟩) hA').trans q1, (hB.cell (p := ⟨A, _, none⟩) hA').trans q2, (hB.cell (p := ⟨A, _, none⟩) hA').trans q3, (X0.step hB).c 0 rfl, (X0.step hB).c 1 rfl⟩
        have NB := l4Near2_nums (a := x 0) (b := x 1) (c := x 2) (d := x 3) (x := p) (y := q) (HA.out 0 (by omega)) HP.out
        have HTT : Hid (ArgsB w w2 [[.int .i64 p, .int .i64 q], [.int .u64 0, .int .u64 0, .int .u64 0, .int .u64 0, .int .u64 0, .int .u64 0, .int .u64 0, .int .u64 0]]) := T0
        have H0 : Below w2.heap.size w2 w2 := Below.refl _ _
        clear X0 a0 a1 hA hA' e0 hcell T0 HBw
        go_upto_region 4 with fail
        go_region_held3 (fun w' => w'.cell? ⟨A, off, none⟩ = some (.int .i64 (x 0)) ∧ w'.cell? ⟨A, off + 1, none⟩ = some (.int .i64 (x 1)) ∧ w'.cell? ⟨A, off + 2, none⟩ = some (.int .i64 (x 2)) ∧ w'.cell? ⟨A, off + 3, none⟩ = some (.int .i64 (x 3)) ∧ w'.cell? ⟨w.heap.size, 0, none⟩ = some (.int .i64 p) ∧ w'.cell? ⟨w.heap.size, 1, none⟩ = some (.int .i64 q)) (first | (exact KS) | (exact HK _ hB1) | (exact HK _ (H0.drew.alloc (Nat.le_refl _) _)) | (exact HK _ (H0.alloc (Nat.le_refl _) _).drew) | (exact HK _ (hB1.alloc hB1.size _)) | (exact HK _ ((((hB1.setCell (Nat.le_refl _) _).setCell (Nat.le_refl _) _).setCell (Nat.le_refl _) _).setCell (Nat.le_refl _) _)) | (exact HK _ (((((hB1.alloc hs3 _).setCell hs3 _).setCell hs3 _).setCell hs3 _).setCell hs3 _)) | (trace_state; fail))
            (first
              | (go_at_call 27; refine (NB _).mono ?_; rintro e w3 ⟨s1, o1, n1, c1, d1, s2, o2, n2, c2, d2, rfl, N1, N2, hB⟩
                 first
                   | (have hB1 : Below w2.heap.size w2 w3 := H0.drew.trans (hB.mono H0.drew.size); have hs3 := hB1.size; clear hB)
                   | (have hB1 : Below w2.heap.size w2 w3 := (H0.alloc (Nat.le_refl _) _).drew.trans (hB.mono (by simp))
                      have ZB : Blk w3 w2.heap.size [.bool false, .slice none 0 0, .bool false, .slice none 0 0] := (Blk.new w2 [.bool false, .slice none 0 0, .bool false, .slice none 0 0] 66 rfl).drew.step hB
                      have z0 := ZB.c 0 rfl; have y0 := ZB.f 0 rfl; have z1 := ZB.c 1 rfl; have y1 := ZB.f 1 rfl; have z2 := ZB.c 2 rfl; have y2 := ZB.f 2 rfl; have z3 := ZB.c 3 rfl; have y3 := ZB.f 3 rfl; have zlt := ZB.lt
                      have hs3 := hB1.size; clear hB)))
        all_goals go_upto_region 5 with fail
        all_goals have hsw : w.heap.size + 2 ≤ w2.heap.size := (HTT.out.b 1 rfl).lt
        all_goals clear KS HK NB
        · have FI : FarIs _ w3.heap.size (uAt x p q 0) (vAt x p q 0) := far_new (T := 66) N1 N2
          have TA : ArgsB w (w3.alloc (.cells #[.bool s1, .slice o1 n1 c1, .bool s2, .slice o2 n2 c2] 66)) [[.int .i64 p, .int .i64 q], [.int .u64 0, .int .u64 0, .int .u64 0, .int .u64 0, .int .u64 0, .int .u64 0, .int .u64 0, .int .u64 0]] := (HTT.out.step hB1).alloc _
          have hF : w.heap.size + 2 ≤ w3.heap.size := by omega
          generalize (w3.alloc (.cells #[.bool s1, .slice o1 n1 c1, .bool s2, .slice o2 n2 c2] 66)) = W4 at *
          generalize w3.heap.size = F at *
          clear N1 N2 hB1 hs3
          go_wp2_with fail
          go_loopw [7, 9] (fun o i wr => ∃ k : Nat, 1 ≤ k ∧ k ≤ n ∧ i = .int .i64 k ∧ o = .int .i64 ((nsI x p q (k - 1)) : Nat) ∧ FarIs wr F (uAt x p q (nsI x p q (k - 1))) (vAt x p q (nsI x p q (k - 1))) ∧ ArgsB w wr [[.int .i64 p, .int .i64 q], [.int .u64 0, .int .u64 0, .int .u64 0, .int .u64 0, .int .u64 0, .int .u64 0, .int .u64 0, .int .u64 0]]) (fun _ i _ => n - (intOf i).toNat)
          case atStart => exact ⟨1, by omega, by omega, rfl, rfl, FI, TA⟩
          case round =>
            clear FI TA
            obtain ⟨k, hk1, hk, rfl, rfl, FI, T0⟩ := hrel
            have HBw := T0.below
            by_cases hkn : k < n
            · obtain ⟨A', off', hao, hA, hcell⟩ := HS.out k hkn
              cases hao
              have e0 : ∀ o, wr.cell? ⟨A, o, none⟩ = w.cell? ⟨A, o, none⟩ := fun o => HBw.cell (p := ⟨A, o, none⟩) hA
              have q0 := (e0 _).trans (hcell 0 (by omega)); have q1 := (e0 _).trans (hcell 1 (by omega)); have q2 := (e0 _).trans (hcell 2 (by omega)); have q3 := (e0 _).trans (hcell 3 (by omega))
              simp only [Nat.add_zero] at q0
              have hkI : (k : Int) < n := by omega
              have hk0 : (0 : Int) ≤ k := by omega
              have hA' : A < wr.heap.size := Nat.lt_of_lt_of_le hA HBw.size
              have X0 : Blk _ w.heap.size _ := T0.b 0 rfl; have a0 := X0.c 0 rfl; have a1 := X0.c 1 rfl
              have KS : (fun w' => w'.cell? ⟨A, off + k * 4, none⟩ = some (.int .i64 (x (k * 4))) ∧ w'.cell? ⟨A, off + k * 4 + 1, none⟩ = some (.int .i64 (x (k * 4 + 1))) ∧ w'.cell? ⟨A, off + k * 4 + 2, none⟩ = some (.int .i64 (x (k * 4 + 2))) ∧ w'.cell? ⟨A, off + k * 4 + 3, none⟩ = some (.int .i64 (x (k * 4 + 3))) ∧ w'.cell? ⟨w.heap.size, 0, none⟩ = some (.int .i64 p) ∧ w'.cell? ⟨w.heap.size, 1, none⟩ = some (.int .i64 q)) wr := ⟨q0, q1, q2, q3, a0, a1⟩
              have HK : ∀ w', Below wr.heap.size wr w' → (fun w' => w'.cell? ⟨A, off + k * 4, none⟩ = some (.int .i64 (x (k * 4))) ∧ w'.cell? ⟨A, off + k * 4 + 1, none⟩ = some (.int .i64 (x (k * 4 + 1))) ∧ w'.cell? ⟨A, off + k * 4 + 2, none⟩ = some (.int .i64 (x (k * 4 + 2))) ∧ w'.cell? ⟨A, off + k * 4 + 3, none⟩ = some (.int .i64 (x (k * 4 + 3))) ∧ w'.cell? ⟨w.heap.size, 0, none⟩ = some (.int .i64 p) ∧ w'.cell? ⟨w.heap.size, 1, none⟩ = some (.int .i64 q)) w' := fun w' hB => ⟨(hB.cell (p := ⟨A, _, none⟩) hA').trans q0, (hB.cell (p := ⟨A, _, none⟩) hA').trans q1, (hB.cell (p := ⟨A, _, none⟩) hA').trans q2, (hB.cell (p := ⟨A, _, none⟩) hA').trans q3, (X0.step hB).c 0 rfl, (X0.step hB).c 1 rfl⟩
              have NB : ∀ w, Calls _ _ _ w (NumsP 8 (uAt x p q k) (vAt x p q k) w) := l4Near2_nums (a := x (k * 4)) (b := x (k * 4 + 1)) (c := x (k * 4 + 2)) (d := x (k * 4 + 3)) (x := p) (y := q) (HA.out k (by omega)) HP.out
              have HTT : Hid (ArgsB w wr [[.int .i64 p, .int .i64 q], [.int .u64 0, .int .u64 0, .int .u64 0, .int .u64 0, .int .u64 0, .int .u64 0, .int .u64 0, .int .u64 0]]) := T0
              have HFI : Hid (FarIs wr F (uAt x p q (nsI x p q (k - 1))) (vAt x p q (nsI x p q (k - 1)))) := FI
              have H0 : Below wr.heap.size wr wr := Below.refl _ _
              have hFr : F < wr.heap.size := by obtain ⟨_, _, _, _, _, _, _, _, _, _, G, _⟩ := FI; exact G.lt
              clear X0 a0 a1 hA hA' e0 hcell T0 HBw FI q0 q1 q2 q3
              go_upto_region 8 with fail
              go_region_held3 (fun w' => w'.cell? ⟨A, off + k * 4, none⟩ = some (.int .i64 (x (k * 4))) ∧ w'.cell? ⟨A, off + k * 4 + 1, none⟩ = some (.int .i64 (x (k * 4 + 1))) ∧ w'.cell? ⟨A, off + k * 4 + 2, none⟩ = some (.int .i64 (x (k * 4 + 2))) ∧ w'.cell? ⟨A, off + k * 4 + 3, none⟩ = some (.int .i64 (x (k * 4 + 3))) ∧ w'.cell? ⟨w.heap.size, 0, none⟩ = some (.int .i64 p) ∧ w'.cell? ⟨w.heap.size, 1, none⟩ = some (.int .i64 q)) (first | (exact KS) | (exact HK _ hB1) | (exact HK _ (H0.drew.alloc (Nat.le_refl _) _)) | (exact HK _ (H0.alloc (Nat.le_refl _) _).drew) | (exact HK _ (hB1.alloc hB1.size _)) | (exact HK _ ((((hB1.setCell (Nat.le_refl _) _).setCell (Nat.le_refl _) _).setCell (Nat.le_refl _) _).setCell (Nat.le_refl _) _)) | (exact HK _ (((((hB1.alloc hs3 _).setCell hs3 _).setCell hs3 _).setCell hs3 _).setCell hs3 _)))
                  (first
                    | (go_at_call 27; refine (NB _).mono ?_; rintro e w3 ⟨s1, o1, n1, c1, d1, s2, o2, n2, c2, d2, rfl, N1, N2, hB⟩
                       first
                         | (have hB1 : Below wr.heap.size wr w3 := H0.drew.trans (hB.mono H0.drew.size); have hs3 := hB1.size; clear hB)
                         | (have hB1 : Below wr.heap.size wr w3 := (H0.alloc (Nat.le_refl _) _).drew.trans (hB.mono (by simp))
                            have ZB : Blk w3 wr.heap.size [.bool false, .slice none 0 0, .bool false, .slice none 0 0] := (Blk.new wr [.bool false, .slice none 0 0, .bool false, .slice none 0 0] 66 rfl).drew.step hB
                            have z0 := ZB.c 0 rfl; have y0 := ZB.f 0 rfl; have z1 := ZB.c 1 rfl; have y1 := ZB.f 1 rfl; have z2 := ZB.c 2 rfl; have y2 := ZB.f 2 rfl; have z3 := ZB.c 3 rfl; have y3 := ZB.f 3 rfl; have zlt := ZB.lt
                            have hs3 := hB1.size; clear hB)))
              all_goals go_upto_region 9 with fail
              all_goals have hsr : w.heap.size + 2 ≤ wr.heap.size := by omega
              all_goals clear KS HK NB
              · have FD : FarIs _ w3.heap.size (uAt x p q k) (vAt x p q k) := far_new (T := 66) N1 N2
                have T5 : ArgsB w (w3.alloc (.cells #[.bool s1, .slice o1 n1 c1, .bool s2, .slice o2 n2 c2] 66)) [[.int .i64 p, .int .i64 q], [.int .u64 0, .int .u64 0, .int .u64 0, .int .u64 0, .int .u64 0, .int .u64 0, .int .u64 0, .int .u64 0]] := (HTT.out.step hB1).alloc _
                have FO := (HFI.out.step hB1).step ((Below.refl _ w3).alloc (Nat.le_refl _) (.cells #[.bool s1, .slice o1 n1 c1, .bool s2, .slice o2 n2 c2] 66))
                generalize (w3.alloc (.cells #[.bool s1, .slice o1 n1 c1, .bool s2, .slice o2 n2 c2] 66)) = W5 at *
                have hDF : F ≠ w3.heap.size := by omega
                generalize w3.heap.size = D at *
                clear N1 N2 hB1 HTT HFI H0
                obtain ⟨s1, o1, n1, c1, d1, s2, o2, n2, c2, d2, GD, M1, M2⟩ := FD
                obtain ⟨s3, o3, n3, c3, d3, s4, o4, n4, c4, d4, GF, M3, M4⟩ := FO
                have gd0 := GD.c 0 rfl; have gd1 := GD.c 1 rfl; have gd2 := GD.c 2 rfl; have gd3 := GD.c 3 rfl; have gdlt := GD.lt; have gf0 := GF.c 0 rfl; have gf1 := GF.c 1 rfl; have gf2 := GF.c 2 rfl; have gf3 := GF.c 3 rfl; have gflt := GF.lt
                go_wp2_with fail
                refine (l2Cmp_any s1 o1 n1 c1 d1 s2 o2 n2 c2 d2 s3 o3 n3 c3 d3 s4 o4 n4 c4 d4 _ _ _ _ _ M1 M2 M3 M4).mono ?_
                rintro e w6 ⟨rfl, hB⟩
                have hne : nearer x p q k (nsI x p q (k - 1)) = decide (cmpI (uAt x p q k * vAt x p q (nsI x p q (k - 1))) (uAt x p q (nsI x p q (k - 1)) * vAt x p q k) < 0) := rfl
                generalize cmpI (uAt x p q k * vAt x p q (nsI x p q (k - 1))) (uAt x p q (nsI x p q (k - 1)) * vAt x p q k) = o at *
                have GD6 := GD.step hB; have GF6 := GF.step hB; have K1 := M1.below hB; have K2 := M2.below hB; have K3 := M3.below hB; have K4 := M4.below hB; have T6 := T5.step hB
                clear GD GF M1 M2 M3 M4 T5 hB gd0 gd1 gd2 gd3 gdlt gf0 gf1 gf2 gf3 gflt
                by_cases ho : o < 0
                · have HI : Hid (nsI x p q k = k) := nsI_on' hk1 (by rw [hne]; exact decide_eq_true ho)
                  clear hne
                  have gd0 := GD6.c 0 rfl; have gd1 := GD6.c 1 rfl; have gd2 := GD6.c 2 rfl; have gd3 := GD6.c 3 rfl; have gdlt := GD6.lt; have gf0 := GF6.c 0 rfl; have gff0 := GF6.f 0 rfl; have gf1 := GF6.c 1 rfl; have gff1 := GF6.f 1 rfl; have gf2 := GF6.c 2 rfl; have gff2 := GF6.f 2 rfl; have gf3 := GF6.c 3 rfl; have gff3 := GF6.f 3 rfl; have gflt := GF6.lt
                  have FN : Hid (FarIs _ F (uAt x p q k) (vAt x p q k)) := far_put GF6 K1 K2
                  have TN : Hid (ArgsB w _ [[.int .i64 p, .int .i64 q], [.int .u64 0, .int .u64 0, .int .u64 0, .int .u64 0, .int .u64 0, .int .u64 0, .int .u64 0, .int .u64 0]]) := args_far T6 (((((Below.refl (w.heap.size + 2) w6).setCell (p := ⟨F, 0, none⟩) hF (.bool s1)).setCell (p := ⟨F, 1, none⟩) hF (.slice o1 n1 c1)).setCell (p := ⟨F, 2, none⟩) hF (.bool s2)).setCell (p := ⟨F, 3, none⟩) hF (.slice o2 n2 c2))
                  clear GD6 GF6 K1 K2 K3 K4 T6
                  go_wp2
                  go_roundw
                  case rel => exact ⟨k + 1, by omega, by omega, by go_num, by rw [Nat.add_sub_cancel, HI.out], by rw [Nat.add_sub_cancel, HI.out]; exact FN.out, TN.out⟩
                  case measure => simp [intOf]; omega
                · have HI : Hid (nsI x p q k = (nsI x p q (k - 1))) := nsI_off' hk1 (by rw [hne]; exact decide_eq_false ho)
                  clear hne
                  have FN : Hid (FarIs w6 F (uAt x p q (nsI x p q (k - 1))) (vAt x p q (nsI x p q (k - 1)))) := ⟨s3, o3, n3, c3, d3, s4, o4, n4, c4, d4, GF6, K3, K4⟩
                  have TN : Hid (ArgsB w w6 [[.int .i64 p, .int .i64 q], [.int .u64 0, .int .u64 0, .int .u64 0, .int .u64 0, .int .u64 0, .int .u64 0, .int .u64 0, .int .u64 0]]) := T6
                  clear GD6 GF6 K1 K2 K3 K4 T6
                  go_wp2
                  go_roundw
                  case rel => exact ⟨k + 1, by omega, by omega, by go_num, by rw [Nat.add_sub_cancel, HI.out], by rw [Nat.add_sub_cancel, HI.out]; exact FN.out, TN.out⟩
                  case measure => simp [intOf]; omega
          
              · have FD := far_put (X := uAt x p q k) (Y := vAt x p q k) ZB N1 N2
                have FO := (HFI.out.step hB1).put (v0 := .bool s1) (v1 := .slice o1 n1 c1) (v2 := .bool s2) (v3 := .slice o2 n2 c2) (by omega) ZB
                have T5 := args_far (HTT.out.step hB1) (((((Below.refl (w.heap.size + 2) w3).setCell (p := ⟨wr.heap.size, 0, none⟩) hsr (.bool s1)).setCell (p := ⟨wr.heap.size, 1, none⟩) hsr (.slice o1 n1 c1)).setCell (p := ⟨wr.heap.size, 2, none⟩) hsr (.bool s2)).setCell (p := ⟨wr.heap.size, 3, none⟩) hsr (.slice o2 n2 c2))
                clear z0 y0 z1 y1 z2 y2 z3 y3 zlt ZB
                generalize ((((w3.setCell ⟨wr.heap.size, 0, none⟩ (.bool s1)).setCell ⟨wr.heap.size, 1, none⟩ (.slice o1 n1 c1)).setCell ⟨wr.heap.size, 2, none⟩ (.bool s2)).setCell ⟨wr.heap.size, 3, none⟩ (.slice o2 n2 c2)) = W5 at *
                have hDF : F ≠ wr.heap.size := by omega
                generalize wr.heap.size = D at *
                clear N1 N2 hB1 HTT HFI H0
                obtain ⟨s1, o1, n1, c1, d1, s2, o2, n2, c2, d2, GD, M1, M2⟩ := FD
                obtain ⟨s3, o3, n3, c3, d3, s4, o4, n4, c4, d4, GF, M3, M4⟩ := FO
                have gd0 := GD.c 0 rfl; have gd1 := GD.c 1 rfl; have gd2 := GD.c 2 rfl; have gd3 := GD.c 3 rfl; have gdlt := GD.lt; have gf0 := GF.c 0 rfl; have gf1 := GF.c 1 rfl; have gf2 := GF.c 2 rfl; have gf3 := GF.c 3 rfl; have gflt := GF.lt
                go_wp2_with fail
                refine (l2Cmp_any s1 o1 n1 c1 d1 s2 o2 n2 c2 d2 s3 o3 n3 c3 d3 s4 o4 n4 c4 d4 _ _ _ _ _ M1 M2 M3 M4).mono ?_
                rintro e w6 ⟨rfl, hB⟩
                have hne : nearer x p q k (nsI x p q (k - 1)) = decide (cmpI (uAt x p q k * vAt x p q (nsI x p q (k - 1))) (uAt x p q (nsI x p q (k - 1)) * vAt x p q k) < 0) := rfl
                generalize cmpI (uAt x p q k * vAt x p q (nsI x p q (k - 1))) (uAt x p q (nsI x p q (k - 1)) * vAt x p q k) = o at *
                have GD6 := GD.step hB; have GF6 := GF.step hB; have K1 := M1.below hB; have K2 := M2.below hB; have K3 := M3.below hB; have K4 := M4.below hB; have T6 := T5.step hB
                clear GD GF M1 M2 M3 M4 T5 hB gd0 gd1 gd2 gd3 gdlt gf0 gf1 gf2 gf3 gflt
                by_cases ho : o < 0
                · have HI : Hid (nsI x p q k = k) := nsI_on' hk1 (by rw [hne]; exact decide_eq_true ho)
                  clear hne
                  have gd0 := GD6.c 0 rfl; have gd1 := GD6.c 1 rfl; have gd2 := GD6.c 2 rfl; have gd3 := GD6.c 3 rfl; have gdlt := GD6.lt; have gf0 := GF6.c 0 rfl; have gff0 := GF6.f 0 rfl; have gf1 := GF6.c 1 rfl; have gff1 := GF6.f 1 rfl; have gf2 := GF6.c 2 rfl; have gff2 := GF6.f 2 rfl; have gf3 := GF6.c 3 rfl; have gff3 := GF6.f 3 rfl; have gflt := GF6.lt
                  have FN : Hid (FarIs _ F (uAt x p q k) (vAt x p q k)) := far_put GF6 K1 K2
                  have TN : Hid (ArgsB w _ [[.int .i64 p, .int .i64 q], [.int .u64 0, .int .u64 0, .int .u64 0, .int .u64 0, .int .u64 0, .int .u64 0, .int .u64 0, .int .u64 0]]) := args_far T6 (((((Below.refl (w.heap.size + 2) w6).setCell (p := ⟨F, 0, none⟩) hF (.bool s1)).setCell (p := ⟨F, 1, none⟩) hF (.slice o1 n1 c1)).setCell (p := ⟨F, 2, none⟩) hF (.bool s2)).setCell (p := ⟨F, 3, none⟩) hF (.slice o2 n2 c2))
                  clear GD6 GF6 K1 K2 K3 K4 T6
                  go_wp2
                  go_roundw
                  case rel => exact ⟨k + 1, by omega, by omega, by go_num, by rw [Nat.add_sub_cancel, HI.out], by rw [Nat.add_sub_cancel, HI.out]; exact FN.out, TN.out⟩
                  case measure => simp [intOf]; omega
                · have HI : Hid (nsI x p q k = (nsI x p q (k - 1))) := nsI_off' hk1 (by rw [hne]; exact decide_eq_false ho)
                  clear hne
                  have FN : Hid (FarIs w6 F (uAt x p q (nsI x p q (k - 1))) (vAt x p q (nsI x p q (k - 1)))) := ⟨s3, o3, n3, c3, d3, s4, o4, n4, c4, d4, GF6, K3, K4⟩
                  have TN : Hid (ArgsB w w6 [[.int .i64 p, .int .i64 q], [.int .u64 0, .int .u64 0, .int .u64 0, .int .u64 0, .int .u64 0, .int .u64 0, .int .u64 0, .int .u64 0]]) := T6
                  clear GD6 GF6 K1 K2 K3 K4 T6
                  go_wp2
                  go_roundw
                  case rel => exact ⟨k + 1, by omega, by omega, by go_num, by rw [Nat.add_sub_cancel, HI.out], by rw [Nat.add_sub_cancel, HI.out]; exact FN.out, TN.out⟩
                  case measure => simp [intOf]; omega
          
            · obtain rfl : k = n := by omega
              obtain ⟨s3, o3, n3, c3, d3, s4, o4, n4, c4, d4, GF, M3, M4⟩ := FI
              have hi : (nsI x p q (k - 1)) < k := by have := nsI_le x p q (k - 1); omega
              obtain ⟨t1, t2, _, _⟩ := near_nums (HA.out _ hi) HP.out
              have R := l2Ratio_any s3 o3 n3 c3 d3 s4 o4 n4 c4 d4 _ _ 8 (by omega) wr M3 M4
              have hr : rtV (uAt x p q (nsI x p q (k - 1))) (vAt x p q (nsI x p q (k - 1))) = .tuple #[.agg #[.int .u64 (ww3 (uAt x p q (nsI x p q (k - 1)))), .int .u64 (ww2 (uAt x p q (nsI x p q (k - 1)))), .int .u64 (ww1 (uAt x p q (nsI x p q (k - 1)))), .int .u64 (ww0 (uAt x p q (nsI x p q (k - 1)))), .int .u64 (ww3 (vAt x p q (nsI x p q (k - 1)))), .int .u64 (ww2 (vAt x p q (nsI x p q (k - 1)))), .int .u64 (ww1 (vAt x p q (nsI x p q (k - 1)))), .int .u64 (ww0 (vAt x p q (nsI x p q (k - 1))))], .bool true] := by unfold rtV; rw [if_pos ⟨t1, t2⟩]
              rw [hr] at R
              have HV : Hid (nsV k x p q = .tuple #[.int .i64 ((nsI x p q (k - 1)) : Nat), .agg #[.int .u64 (ww3 (uAt x p q (nsI x p q (k - 1)))), .int .u64 (ww2 (uAt x p q (nsI x p q (k - 1)))), .int .u64 (ww1 (uAt x p q (nsI x p q (k - 1)))), .int .u64 (ww0 (uAt x p q (nsI x p q (k - 1)))), .int .u64 (ww3 (vAt x p q (nsI x p q (k - 1)))), .int .u64 (ww2 (vAt x p q (nsI x p q (k - 1)))), .int .u64 (ww1 (vAt x p q (nsI x p q (k - 1)))), .int .u64 (ww0 (vAt x p q (nsI x p q (k - 1))))], .bool true]) := by show _ = _; unfold nsV; rw [HO.out]; rfl
              clear hr t1 t2 M3 M4 HA HP HS HTT H0
              generalize ww3 (uAt x p q (nsI x p q (k - 1))) = z0 at *; generalize ww2 (uAt x p q (nsI x p q (k - 1))) = z1 at *; generalize ww1 (uAt x p q (nsI x p q (k - 1))) = z2 at *; generalize ww0 (uAt x p q (nsI x p q (k - 1))) = z3 at *; generalize ww3 (vAt x p q (nsI x p q (k - 1))) = z4 at *; generalize ww2 (vAt x p q (nsI x p q (k - 1))) = z5 at *; generalize ww1 (vAt x p q (nsI x p q (k - 1))) = z6 at *; generalize ww0 (vAt x p q (nsI x p q (k - 1))) = z7 at *
              have gf0 := GF.c 0 rfl; have gf1 := GF.c 1 rfl; have gf2 := GF.c 2 rfl; have gf3 := GF.c 3 rfl; have gflt := GF.lt
              clear GF
              go_wp2_with fail
              refine R.mono ?_
              rintro e w4 ⟨rfl, hB⟩
              replace T0 := T0.step hB
              clear hB R gf0 gf1 gf2 gf3 gflt HBw
              go_upto_region 13 with fail
              have XA : Blk (w4.alloc (.cells #[.int .u64 z0, .int .u64 z1, .int .u64 z2, .int .u64 z3, .int .u64 z4, .int .u64 z5, .int .u64 z6, .int .u64 z7] 33)) w4.heap.size [.int .u64 z0, .int .u64 z1, .int .u64 z2, .int .u64 z3, .int .u64 z4, .int .u64 z5, .int .u64 z6, .int .u64 z7] := Blk.new w4 _ _ rfl
              have hEn : w4.heap.size ≠ w.heap.size + 1 := by have := (T0.b 1 rfl).lt; omega
              replace T0 := T0.alloc (.cells #[.int .u64 z0, .int .u64 z1, .int .u64 z2, .int .u64 z3, .int .u64 z4, .int .u64 z5, .int .u64 z6, .int .u64 z7] 33)
              generalize (w4.alloc (.cells #[.int .u64 z0, .int .u64 z1, .int .u64 z2, .int .u64 z3, .int .u64 z4, .int .u64 z5, .int .u64 z6, .int .u64 z7] 33)) = W7 at *
              generalize w4.heap.size = E at *
              have GR : Blk W7 (w.heap.size + 1) [.int .u64 0, .int .u64 0, .int .u64 0, .int .u64 0, .int .u64 0, .int .u64 0, .int .u64 0, .int .u64 0] := T0.b 1 rfl
              have HB := T0.below
              clear T0
              refine nsEnd (k := (((nsI x p q (k - 1)) : Nat) : Int)) XA GR rfl rfl rfl rfl ?_
              rintro ⟨tm, df⟩ Wz hz hdf hoff x55 x56 x4 x6 GB FL
              simp only at hz hdf hoff x55 x56 x4 x6
              subst hdf
              have htm := tmps_fold [55, 56, 4, 6] tm _ hz hoff
              simp only [List.foldl, List.setIfInBounds_toArray, List.set_cons_zero, List.set_cons_succ, x55, x56, x4, x6] at htm
              clear hz hoff x55 x56 x4 x6 XA GR
              subst htm
              have HBF := FL w.heap.size w (by omega) HB
              clear FL HB
              go_wp2
              have g0 := GB.c 0 rfl; have g1 := GB.c 1 rfl; have g2 := GB.c 2 rfl; have g3 := GB.c 3 rfl; have g4 := GB.c 4 rfl; have g5 := GB.c 5 rfl; have g6 := GB.c 6 rfl; have g7 := GB.c 7 rfl
              refine bodyPost_ret (v := .tuple #[.int .i64 ((nsI x p q (k - 1)) : Nat), .agg #[.int .u64 z0, .int .u64 z1, .int .u64 z2, .int .u64 z3, .int .u64 z4, .int .u64 z5, .int .u64 z6, .int .u64 z7], .bool true]) (by simp [results, Try.results8, go_sem, g0, g1, g2, g3, g4, g5, g6, g7]) rfl ?_
              exact ⟨by rw [HV.out], HBF⟩
        · have FI := far_put (X := uAt x p q 0) (Y := vAt x p q 0) ZB N1 N2
          have TA := args_far (HTT.out.step hB1) (((((Below.refl (w.heap.size + 2) w3).setCell (p := ⟨w2.heap.size, 0, none⟩) hsw (.bool s1)).setCell (p := ⟨w2.heap.size, 1, none⟩) hsw (.slice o1 n1 c1)).setCell (p := ⟨w2.heap.size, 2, none⟩) hsw (.bool s2)).setCell (p := ⟨w2.heap.size, 3, none⟩) hsw (.slice o2 n2 c2))
          have hF : w.heap.size + 2 ≤ w2.heap.size := hsw
          clear z0 y0 z1 y1 z2 y2 z3 y3 zlt ZB
          generalize ((((w3.setCell ⟨w2.heap.size, 0, none⟩ (.bool s1)).setCell ⟨w2.heap.size, 1, none⟩ (.slice o1 n1 c1)).setCell ⟨w2.heap.size, 2, none⟩ (.bool s2)).setCell ⟨w2.heap.size, 3, none⟩ (.slice o2 n2 c2)) = W4 at *
          generalize w2.heap.size = F at *
          clear N1 N2 hB1 hs3
          go_wp2_with fail
          go_loopw [7, 9] (fun o i wr => ∃ k : Nat, 1 ≤ k ∧ k ≤ n ∧ i = .int .i64 k ∧ o = .int .i64 ((nsI x p q (k - 1)) : Nat) ∧ FarIs wr F (uAt x p q (nsI x p q (k - 1))) (vAt x p q (nsI x p q (k - 1))) ∧ ArgsB w wr [[.int .i64 p, .int .i64 q], [.int .u64 0, .int .u64 0, .int .u64 0, .int .u64 0, .int .u64 0, .int .u64 0, .int .u64 0, .int .u64 0]]) (fun _ i _ => n - (intOf i).toNat)
          case atStart => exact ⟨1, by omega, by omega, rfl, rfl, FI, TA⟩
          case round =>
            clear FI TA
            obtain ⟨k, hk1, hk, rfl, rfl, FI, T0⟩ := hrel
            have HBw := T0.below
            by_cases hkn : k < n
            · obtain ⟨A', off', hao, hA, hcell⟩ := HS.out k hkn
              cases hao
              have e0 : ∀ o, wr.cell? ⟨A, o, none⟩ = w.cell? ⟨A, o, none⟩ := fun o => HBw.cell (p := ⟨A, o, none⟩) hA
              have q0 := (e0 _).trans (hcell 0 (by omega)); have q1 := (e0 _).trans (hcell 1 (by omega)); have q2 := (e0 _).trans (hcell 2 (by omega)); have q3 := (e0 _).trans (hcell 3 (by omega))
              simp only [Nat.add_zero] at q0
              have hkI : (k : Int) < n := by omega
              have hk0 : (0 : Int) ≤ k := by omega
              have hA' : A < wr.heap.size := Nat.lt_of_lt_of_le hA HBw.size
              have X0 : Blk _ w.heap.size _ := T0.b 0 rfl; have a0 := X0.c 0 rfl; have a1 := X0.c 1 rfl
              have KS : (fun w' => w'.cell? ⟨A, off + k * 4, none⟩ = some (.int .i64 (x (k * 4))) ∧ w'.cell? ⟨A, off + k * 4 + 1, none⟩ = some (.int .i64 (x (k * 4 + 1))) ∧ w'.cell? ⟨A, off + k * 4 + 2, none⟩ = some (.int .i64 (x (k * 4 + 2))) ∧ w'.cell? ⟨A, off + k * 4 + 3, none⟩ = some (.int .i64 (x (k * 4 + 3))) ∧ w'.cell? ⟨w.heap.size, 0, none⟩ = some (.int .i64 p) ∧ w'.cell? ⟨w.heap.size, 1, none⟩ = some (.int .i64 q)) wr := ⟨q0, q1, q2, q3, a0, a1⟩
              have HK : ∀ w', Below wr.heap.size wr w' → (fun w' => w'.cell? ⟨A, off + k * 4, none⟩ = some (.int .i64 (x (k * 4))) ∧ w'.cell? ⟨A, off + k * 4 + 1, none⟩ = some (.int .i64 (x (k * 4 + 1))) ∧ w'.cell? ⟨A, off + k * 4 + 2, none⟩ = some (.int .i64 (x (k * 4 + 2))) ∧ w'.cell? ⟨A, off + k * 4 + 3, none⟩ = some (.int .i64 (x (k * 4 + 3))) ∧ w'.cell? ⟨w.heap.size, 0, none⟩ = some (.int .i64 p) ∧ w'.cell? ⟨w.heap.size, 1, none⟩ = some (.int .i64 q)) w' := fun w' hB => ⟨(hB.cell (p := ⟨A, _, none⟩) hA').trans q0, (hB.cell (p := ⟨A, _, none⟩) hA').trans q1, (hB.cell (p := ⟨A, _, none⟩) hA').trans q2, (hB.cell (p := ⟨A, _, none⟩) hA').trans q3, (X0.step hB).c 0 rfl, (X0.step hB).c 1 rfl⟩
              have NB : ∀ w, Calls _ _ _ w (NumsP 8 (uAt x p q k) (vAt x p q k) w) := l4Near2_nums (a := x (k * 4)) (b := x (k * 4 + 1)) (c := x (k * 4 + 2)) (d := x (k * 4 + 3)) (x := p) (y := q) (HA.out k (by omega)) HP.out
              have HTT : Hid (ArgsB w wr [[.int .i64 p, .int .i64 q], [.int .u64 0, .int .u64 0, .int .u64 0, .int .u64 0, .int .u64 0, .int .u64 0, .int .u64 0, .int .u64 0]]) := T0
              have HFI : Hid (FarIs wr F (uAt x p q (nsI x p q (k - 1))) (vAt x p q (nsI x p q (k - 1)))) := FI
              have H0 : Below wr.heap.size wr wr := Below.refl _ _
              have hFr : F < wr.heap.size := by obtain ⟨_, _, _, _, _, _, _, _, _, _, G, _⟩ := FI; exact G.lt
              clear X0 a0 a1 hA hA' e0 hcell T0 HBw FI q0 q1 q2 q3
              go_upto_region 8 with fail
              go_region_held3 (fun w' => w'.cell? ⟨A, off + k * 4, none⟩ = some (.int .i64 (x (k * 4))) ∧ w'.cell? ⟨A, off + k * 4 + 1, none⟩ = some (.int .i64 (x (k * 4 + 1))) ∧ w'.cell? ⟨A, off + k * 4 + 2, none⟩ = some (.int .i64 (x (k * 4 + 2))) ∧ w'.cell? ⟨A, off + k * 4 + 3, none⟩ = some (.int .i64 (x (k * 4 + 3))) ∧ w'.cell? ⟨w.heap.size, 0, none⟩ = some (.int .i64 p) ∧ w'.cell? ⟨w.heap.size, 1, none⟩ = some (.int .i64 q)) (first | (exact KS) | (exact HK _ hB1) | (exact HK _ (H0.drew.alloc (Nat.le_refl _) _)) | (exact HK _ (H0.alloc (Nat.le_refl _) _).drew) | (exact HK _ (hB1.alloc hB1.size _)) | (exact HK _ ((((hB1.setCell (Nat.le_refl _) _).setCell (Nat.le_refl _) _).setCell (Nat.le_refl _) _).setCell (Nat.le_refl _) _)) | (exact HK _ (((((hB1.alloc hs3 _).setCell hs3 _).setCell hs3 _).setCell hs3 _).setCell hs3 _)))
                  (first
                    | (go_at_call 27; refine (NB _).mono ?_; rintro e w3 ⟨s1, o1, n1, c1, d1, s2, o2, n2, c2, d2, rfl, N1, N2, hB⟩
                       first
                         | (have hB1 : Below wr.heap.size wr w3 := H0.drew.trans (hB.mono H0.drew.size); have hs3 := hB1.size; clear hB)
                         | (have hB1 : Below wr.heap.size wr w3 := (H0.alloc (Nat.le_refl _) _).drew.trans (hB.mono (by simp))
                            have ZB : Blk w3 wr.heap.size [.bool false, .slice none 0 0, .bool false, .slice none 0 0] := (Blk.new wr [.bool false, .slice none 0 0, .bool false, .slice none 0 0] 66 rfl).drew.step hB
                            have z0 := ZB.c 0 rfl; have y0 := ZB.f 0 rfl; have z1 := ZB.c 1 rfl; have y1 := ZB.f 1 rfl; have z2 := ZB.c 2 rfl; have y2 := ZB.f 2 rfl; have z3 := ZB.c 3 rfl; have y3 := ZB.f 3 rfl; have zlt := ZB.lt
                            have hs3 := hB1.size; clear hB)))
              all_goals go_upto_region 9 with fail
              all_goals have hsr : w.heap.size + 2 ≤ wr.heap.size := by omega
              all_goals clear KS HK NB
              · have FD : FarIs _ w3.heap.size (uAt x p q k) (vAt x p q k) := far_new (T := 66) N1 N2
                have T5 : ArgsB w (w3.alloc (.cells #[.bool s1, .slice o1 n1 c1, .bool s2, .slice o2 n2 c2] 66)) [[.int .i64 p, .int .i64 q], [.int .u64 0, .int .u64 0, .int .u64 0, .int .u64 0, .int .u64 0, .int .u64 0, .int .u64 0, .int .u64 0]] := (HTT.out.step hB1).alloc _
                have FO := (HFI.out.step hB1).step ((Below.refl _ w3).alloc (Nat.le_refl _) (.cells #[.bool s1, .slice o1 n1 c1, .bool s2, .slice o2 n2 c2] 66))
                generalize (w3.alloc (.cells #[.bool s1, .slice o1 n1 c1, .bool s2, .slice o2 n2 c2] 66)) = W5 at *
                have hDF : F ≠ w3.heap.size := by omega
                generalize w3.heap.size = D at *
                clear N1 N2 hB1 HTT HFI H0
                obtain ⟨s1, o1, n1, c1, d1, s2, o2, n2, c2, d2, GD, M1, M2⟩ := FD
                obtain ⟨s3, o3, n3, c3, d3, s4, o4, n4, c4, d4, GF, M3, M4⟩ := FO
                have gd0 := GD.c 0 rfl; have gd1 := GD.c 1 rfl; have gd2 := GD.c 2 rfl; have gd3 := GD.c 3 rfl; have gdlt := GD.lt; have gf0 := GF.c 0 rfl; have gf1 := GF.c 1 rfl; have gf2 := GF.c 2 rfl; have gf3 := GF.c 3 rfl; have gflt := GF.lt
                go_wp2_with fail
                refine (l2Cmp_any s1 o1 n1 c1 d1 s2 o2 n2 c2 d2 s3 o3 n3 c3 d3 s4 o4 n4 c4 d4 _ _ _ _ _ M1 M2 M3 M4).mono ?_
                rintro e w6 ⟨rfl, hB⟩
                have hne : nearer x p q k (nsI x p q (k - 1)) = decide (cmpI (uAt x p q k * vAt x p q (nsI x p q (k - 1))) (uAt x p q (nsI x p q (k - 1)) * vAt x p q k) < 0) := rfl
                generalize cmpI (uAt x p q k * vAt x p q (nsI x p q (k - 1))) (uAt x p q (nsI x p q (k - 1)) * vAt x p q k) = o at *
                have GD6 := GD.step hB; have GF6 := GF.step hB; have K1 := M1.below hB; have K2 := M2.below hB; have K3 := M3.below hB; have K4 := M4.below hB; have T6 := T5.step hB
                clear GD GF M1 M2 M3 M4 T5 hB gd0 gd1 gd2 gd3 gdlt gf0 gf1 gf2 gf3 gflt
                by_cases ho : o < 0
                · have HI : Hid (nsI x p q k = k) := nsI_on' hk1 (by rw [hne]; exact decide_eq_true ho)
                  clear hne
                  have gd0 := GD6.c 0 rfl; have gd1 := GD6.c 1 rfl; have gd2 := GD6.c 2 rfl; have gd3 := GD6.c 3 rfl; have gdlt := GD6.lt; have gf0 := GF6.c 0 rfl; have gff0 := GF6.f 0 rfl; have gf1 := GF6.c 1 rfl; have gff1 := GF6.f 1 rfl; have gf2 := GF6.c 2 rfl; have gff2 := GF6.f 2 rfl; have gf3 := GF6.c 3 rfl; have gff3 := GF6.f 3 rfl; have gflt := GF6.lt
                  have FN : Hid (FarIs _ F (uAt x p q k) (vAt x p q k)) := far_put GF6 K1 K2
                  have TN : Hid (ArgsB w _ [[.int .i64 p, .int .i64 q], [.int .u64 0, .int .u64 0, .int .u64 0, .int .u64 0, .int .u64 0, .int .u64 0, .int .u64 0, .int .u64 0]]) := args_far T6 (((((Below.refl (w.heap.size + 2) w6).setCell (p := ⟨F, 0, none⟩) hF (.bool s1)).setCell (p := ⟨F, 1, none⟩) hF (.slice o1 n1 c1)).setCell (p := ⟨F, 2, none⟩) hF (.bool s2)).setCell (p := ⟨F, 3, none⟩) hF (.slice o2 n2 c2))
                  clear GD6 GF6 K1 K2 K3 K4 T6
                  go_wp2
                  go_roundw
                  case rel => exact ⟨k + 1, by omega, by omega, by go_num, by rw [Nat.add_sub_cancel, HI.out], by rw [Nat.add_sub_cancel, HI.out]; exact FN.out, TN.out⟩
                  case measure => simp [intOf]; omega
                · have HI : Hid (nsI x p q k = (nsI x p q (k - 1))) := nsI_off' hk1 (by rw [hne]; exact decide_eq_false ho)
                  clear hne
                  have FN : Hid (FarIs w6 F (uAt x p q (nsI x p q (k - 1))) (vAt x p q (nsI x p q (k - 1)))) := ⟨s3, o3, n3, c3, d3, s4, o4, n4, c4, d4, GF6, K3, K4⟩
                  have TN : Hid (ArgsB w w6 [[.int .i64 p, .int .i64 q], [.int .u64 0, .int .u64 0, .int .u64 0, .int .u64 0, .int .u64 0, .int .u64 0, .int .u64 0, .int .u64 0]]) := T6
                  clear GD6 GF6 K1 K2 K3 K4 T6
                  go_wp2
                  go_roundw
                  case rel => exact ⟨k + 1, by omega, by omega, by go_num, by rw [Nat.add_sub_cancel, HI.out], by rw [Nat.add_sub_cancel, HI.out]; exact FN.out, TN.out⟩
                  case measure => simp [intOf]; omega
          
              · have FD := far_put (X := uAt x p q k) (Y := vAt x p q k) ZB N1 N2
                have FO := (HFI.out.step hB1).put (v0 := .bool s1) (v1 := .slice o1 n1 c1) (v2 := .bool s2) (v3 := .slice o2 n2 c2) (by omega) ZB
                have T5 := args_far (HTT.out.step hB1) (((((Below.refl (w.heap.size + 2) w3).setCell (p := ⟨wr.heap.size, 0, none⟩) hsr (.bool s1)).setCell (p := ⟨wr.heap.size, 1, none⟩) hsr (.slice o1 n1 c1)).setCell (p := ⟨wr.heap.size, 2, none⟩) hsr (.bool s2)).setCell (p := ⟨wr.heap.size, 3, none⟩) hsr (.slice o2 n2 c2))
                clear z0 y0 z1 y1 z2 y2 z3 y3 zlt ZB
                generalize ((((w3.setCell ⟨wr.heap.size, 0, none⟩ (.bool s1)).setCell ⟨wr.heap.size, 1, none⟩ (.slice o1 n1 c1)).setCell ⟨wr.heap.size, 2, none⟩ (.bool s2)).setCell ⟨wr.heap.size, 3, none⟩ (.slice o2 n2 c2)) = W5 at *
                have hDF : F ≠ wr.heap.size := by omega
                generalize wr.heap.size = D at *
                clear N1 N2 hB1 HTT HFI H0
                obtain ⟨s1, o1, n1, c1, d1, s2, o2, n2, c2, d2, GD, M1, M2⟩ := FD
                obtain ⟨s3, o3, n3, c3, d3, s4, o4, n4, c4, d4, GF, M3, M4⟩ := FO
                have gd0 := GD.c 0 rfl; have gd1 := GD.c 1 rfl; have gd2 := GD.c 2 rfl; have gd3 := GD.c 3 rfl; have gdlt := GD.lt; have gf0 := GF.c 0 rfl; have gf1 := GF.c 1 rfl; have gf2 := GF.c 2 rfl; have gf3 := GF.c 3 rfl; have gflt := GF.lt
                go_wp2_with fail
                refine (l2Cmp_any s1 o1 n1 c1 d1 s2 o2 n2 c2 d2 s3 o3 n3 c3 d3 s4 o4 n4 c4 d4 _ _ _ _ _ M1 M2 M3 M4).mono ?_
                rintro e w6 ⟨rfl, hB⟩
                have hne : nearer x p q k (nsI x p q (k - 1)) = decide (cmpI (uAt x p q k * vAt x p q (nsI x p q (k - 1))) (uAt x p q (nsI x p q (k - 1)) * vAt x p q k) < 0) := rfl
                generalize cmpI (uAt x p q k * vAt x p q (nsI x p q (k - 1))) (uAt x p q (nsI x p q (k - 1)) * vAt x p q k) = o at *
                have GD6 := GD.step hB; have GF6 := GF.step hB; have K1 := M1.below hB; have K2 := M2.below hB; have K3 := M3.below hB; have K4 := M4.below hB; have T6 := T5.step hB
                clear GD GF M1 M2 M3 M4 T5 hB gd0 gd1 gd2 gd3 gdlt gf0 gf1 gf2 gf3 gflt
                by_cases ho : o < 0
                · have HI : Hid (nsI x p q k = k) := nsI_on' hk1 (by rw [hne]; exact decide_eq_true ho)
                  clear hne
                  have gd0 := GD6.c 0 rfl; have gd1 := GD6.c 1 rfl; have gd2 := GD6.c 2 rfl; have gd3 := GD6.c 3 rfl; have gdlt := GD6.lt; have gf0 := GF6.c 0 rfl; have gff0 := GF6.f 0 rfl; have gf1 := GF6.c 1 rfl; have gff1 := GF6.f 1 rfl; have gf2 := GF6.c 2 rfl; have gff2 := GF6.f 2 rfl; have gf3 := GF6.c 3 rfl; have gff3 := GF6.f 3 rfl; have gflt := GF6.lt
                  have FN : Hid (FarIs _ F (uAt x p q k) (vAt x p q k)) := far_put GF6 K1 K2
                  have TN : Hid (ArgsB w _ [[.int .i64 p, .int .i64 q], [.int .u64 0, .int .u64 0, .int .u64 0, .int .u64 0, .int .u64 0, .int .u64 0, .int .u64 0, .int .u64 0]]) := args_far T6 (((((Below.refl (w.heap.size + 2) w6).setCell (p := ⟨F, 0, none⟩) hF (.bool s1)).setCell (p := ⟨F, 1, none⟩) hF (.slice o1 n1 c1)).setCell (p := ⟨F, 2, none⟩) hF (.bool s2)).setCell (p := ⟨F, 3, none⟩) hF (.slice o2 n2 c2))
                  clear GD6 GF6 K1 K2 K3 K4 T6
                  go_wp2
                  go_roundw
                  case rel => exact ⟨k + 1, by omega, by omega, by go_num, by rw [Nat.add_sub_cancel, HI.out], by rw [Nat.add_sub_cancel, HI.out]; exact FN.out, TN.out⟩
                  case measure => simp [intOf]; omega
                · have HI : Hid (nsI x p q k = (nsI x p q (k - 1))) := nsI_off' hk1 (by rw [hne]; exact decide_eq_false ho)
                  clear hne
                  have FN : Hid (FarIs w6 F (uAt x p q (nsI x p q (k - 1))) (vAt x p q (nsI x p q (k - 1)))) := ⟨s3, o3, n3, c3, d3, s4, o4, n4, c4, d4, GF6, K3, K4⟩
                  have TN : Hid (ArgsB w w6 [[.int .i64 p, .int .i64 q], [.int .u64 0, .int .u64 0, .int .u64 0, .int .u64 0, .int .u64 0, .int .u64 0, .int .u64 0, .int .u64 0]]) := T6
                  clear GD6 GF6 K1 K2 K3 K4 T6
                  go_wp2
                  go_roundw
                  case rel => exact ⟨k + 1, by omega, by omega, by go_num, by rw [Nat.add_sub_cancel, HI.out], by rw [Nat.add_sub_cancel, HI.out]; exact FN.out, TN.out⟩
                  case measure => simp [intOf]; omega
          
            · obtain rfl : k = n := by omega
              obtain ⟨s3, o3, n3, c3, d3, s4, o4, n4, c4, d4, GF, M3, M4⟩ := FI
              have hi : (nsI x p q (k - 1)) < k := by have := nsI_le x p q (k - 1); omega
              obtain ⟨t1, t2, _, _⟩ := near_nums (HA.out _ hi) HP.out
              have R := l2Ratio_any s3 o3 n3 c3 d3 s4 o4 n4 c4 d4 _ _ 8 (by omega) wr M3 M4
              have hr : rtV (uAt x p q (nsI x p q (k - 1))) (vAt x p q (nsI x p q (k - 1))) = .tuple #[.agg #[.int .u64 (ww3 (uAt x p q (nsI x p q (k - 1)))), .int .u64 (ww2 (uAt x p q (nsI x p q (k - 1)))), .int .u64 (ww1 (uAt x p q (nsI x p q (k - 1)))), .int .u64 (ww0 (uAt x p q (nsI x p q (k - 1)))), .int .u64 (ww3 (vAt x p q (nsI x p q (k - 1)))), .int .u64 (ww2 (vAt x p q (nsI x p q (k - 1)))), .int .u64 (ww1 (vAt x p q (nsI x p q (k - 1)))), .int .u64 (ww0 (vAt x p q (nsI x p q (k - 1))))], .bool true] := by unfold rtV; rw [if_pos ⟨t1, t2⟩]
              rw [hr] at R
              have HV : Hid (nsV k x p q = .tuple #[.int .i64 ((nsI x p q (k - 1)) : Nat), .agg #[.int .u64 (ww3 (uAt x p q (nsI x p q (k - 1)))), .int .u64 (ww2 (uAt x p q (nsI x p q (k - 1)))), .int .u64 (ww1 (uAt x p q (nsI x p q (k - 1)))), .int .u64 (ww0 (uAt x p q (nsI x p q (k - 1)))), .int .u64 (ww3 (vAt x p q (nsI x p q (k - 1)))), .int .u64 (ww2 (vAt x p q (nsI x p q (k - 1)))), .int .u64 (ww1 (vAt x p q (nsI x p q (k - 1)))), .int .u64 (ww0 (vAt x p q (nsI x p q (k - 1))))], .bool true]) := by show _ = _; unfold nsV; rw [HO.out]; rfl
              clear hr t1 t2 M3 M4 HA HP HS HTT H0
              generalize ww3 (uAt x p q (nsI x p q (k - 1))) = z0 at *; generalize ww2 (uAt x p q (nsI x p q (k - 1))) = z1 at *; generalize ww1 (uAt x p q (nsI x p q (k - 1))) = z2 at *; generalize ww0 (uAt x p q (nsI x p q (k - 1))) = z3 at *; generalize ww3 (vAt x p q (nsI x p q (k - 1))) = z4 at *; generalize ww2 (vAt x p q (nsI x p q (k - 1))) = z5 at *; generalize ww1 (vAt x p q (nsI x p q (k - 1))) = z6 at *; generalize ww0 (vAt x p q (nsI x p q (k - 1))) = z7 at *
              have gf0 := GF.c 0 rfl; have gf1 := GF.c 1 rfl; have gf2 := GF.c 2 rfl; have gf3 := GF.c 3 rfl; have gflt := GF.lt
              clear GF
              go_wp2_with fail
              refine R.mono ?_
              rintro e w4 ⟨rfl, hB⟩
              replace T0 := T0.step hB
              clear hB R gf0 gf1 gf2 gf3 gflt HBw
              go_upto_region 13 with fail
              have XA : Blk (w4.alloc (.cells #[.int .u64 z0, .int .u64 z1, .int .u64 z2, .int .u64 z3, .int .u64 z4, .int .u64 z5, .int .u64 z6, .int .u64 z7] 33)) w4.heap.size [.int .u64 z0, .int .u64 z1, .int .u64 z2, .int .u64 z3, .int .u64 z4, .int .u64 z5, .int .u64 z6, .int .u64 z7] := Blk.new w4 _ _ rfl
              have hEn : w4.heap.size ≠ w.heap.size + 1 := by have := (T0.b 1 rfl).lt; omega
              replace T0 := T0.alloc (.cells #[.int .u64 z0, .int .u64 z1, .int .u64 z2, .int .u64 z3, .int .u64 z4, .int .u64 z5, .int .u64 z6, .int .u64 z7] 33)
              generalize (w4.alloc (.cells #[.int .u64 z0, .int .u64 z1, .int .u64 z2, .int .u64 z3, .int .u64 z4, .int .u64 z5, .int .u64 z6, .int .u64 z7] 33)) = W7 at *
              generalize w4.heap.size = E at *
              have GR : Blk W7 (w.heap.size + 1) [.int .u64 0, .int .u64 0, .int .u64 0, .int .u64 0, .int .u64 0, .int .u64 0, .int .u64 0, .int .u64 0] := T0.b 1 rfl
              have HB := T0.below
              clear T0
              refine nsEnd (k := (((nsI x p q (k - 1)) : Nat) : Int)) XA GR rfl rfl rfl rfl ?_
              rintro ⟨tm, df⟩ Wz hz hdf hoff x55 x56 x4 x6 GB FL
              simp only at hz hdf hoff x55 x56 x4 x6
              subst hdf
              have htm := tmps_fold [55, 56, 4, 6] tm _ hz hoff
              simp only [List.foldl, List.setIfInBounds_toArray, List.set_cons_zero, List.set_cons_succ, x55, x56, x4, x6] at htm
              clear hz hoff x55 x56 x4 x6 XA GR
              subst htm
              have HBF := FL w.heap.size w (by omega) HB
              clear FL HB
              go_wp2
              have g0 := GB.c 0 rfl; have g1 := GB.c 1 rfl; have g2 := GB.c 2 rfl; have g3 := GB.c 3 rfl; have g4 := GB.c 4 rfl; have g5 := GB.c 5 rfl; have g6 := GB.c 6 rfl; have g7 := GB.c 7 rfl
              refine bodyPost_ret (v := .tuple #[.int .i64 ((nsI x p q (k - 1)) : Nat), .agg #[.int .u64 z0, .int .u64 z1, .int .u64 z2, .int .u64 z3, .int .u64 z4, .int .u64 z5, .int .u64 z6, .int .u64 z7], .bool true]) (by simp [results, Try.results8, go_sem, g0, g1, g2, g3, g4, g5, g6, g7]) rfl ?_
              exact ⟨by rw [HV.out], HBF⟩
  · have HO : Hid (nsOk n x p q = false) := by show _ = _; unfold nsOk; rw [decide_eq_false hsg]; rfl
    rw [decide_eq_false hsg]
    clear hsg
    have o0 := (T0.b 1 rfl).c 0 rfl; have r0 := (T0.b 1 rfl).f 0 rfl; have o1 := (T0.b 1 rfl).c 1 rfl; have r1 := (T0.b 1 rfl).f 1 rfl; have o2 := (T0.b 1 rfl).c 2 rfl; have r2 := (T0.b 1 rfl).f 2 rfl; have o3 := (T0.b 1 rfl).c 3 rfl; have r3 := (T0.b 1 rfl).f 3 rfl; have o4 := (T0.b 1 rfl).c 4 rfl; have r4 := (T0.b 1 rfl).f 4 rfl; have o5 := (T0.b 1 rfl).c 5 rfl; have r5 := (T0.b 1 rfl).f 5 rfl; have o6 := (T0.b 1 rfl).c 6 rfl; have r6 := (T0.b 1 rfl).f 6 rfl; have o7 := (T0.b 1 rfl).c 7 rfl; have r7 := (T0.b 1 rfl).f 7 rfl; have olt := (T0.b 1 rfl).lt
    have HB := T0.below
    clear T0
    go_wp2
    refine bodyPost_ret (v := .tuple #[.int .i64 0, .agg #[.int .u64 0, .int .u64 0, .int .u64 0, .int .u64 0, .int .u64 0, .int .u64 0, .int .u64 0, .int .u64 0], .bool false]) (by simp [results, Try.results8, go_sem, o0, o1, o2, o3, o4, o5, o6, o7]) rfl ?_
    refine ⟨by unfold nsV; rw [HO.out]; rfl, ?_⟩
    repeat' (refine Below.setCell ?_ (by simp; try omega) _)
    exact HB
end Go.Proofs.Ytjhmacpejfldoaa

/- None is nearer than the nearest: the law over drawn ones. -/
namespace Go.Proofs.Ytjhmacpejfldoaa
open Go.RowKit
theorem bigN_any (ao : Option Addr) (n cap : Nat) (w : World) (z : Bool) (hz : decide (1048576 < n) = z) : Calls Try.prog 5 #[.slice ao n cap] w (BoolP z w) := by
  subst hz
  go_enter Try.func5, Try.ntmps5
  go_wp2
  go_ret
  exact ⟨by simp; try omega, Below.refl _ _⟩
set_option maxRecDepth 100000 in
set_option maxHeartbeats 8000000 in
theorem lawNearest_any (ao : Option Addr) (n cap : Nat) (cs : List Int) (w : World) (h : n ≤ 1048576 → Code w ao n cs) : Calls Try.prog 3 #[.slice ao n cap] w (BoolP true w) := by
  by_cases hn : 1048576 < n
  · go_enter Try.func3, Try.ntmps3
    go_wp2_with fail
    refine (bigN_any ao n cap _ true (by simpa using hn)).mono ?_
    rintro e w1 ⟨rfl, hB⟩
    clear h
    go_wp2
    go_ret
    exact ⟨rfl, hB⟩
  · have hc := h (by omega)
    clear h
    go_enter Try.func3, Try.ntmps3
    go_wp2_with fail
    refine (bigN_any ao n cap _ false (by simpa using hn)).mono ?_
    rintro e w1 ⟨rfl, HB⟩
    replace hc := hc.below HB
    go_wp2_with fail
    refine (drawNearest_any ao n cap cs _ hc).mono ?_
    rintro e w2 ⟨v, m, ls, p, q, rfl, hm, O, ip, iq, hB⟩
    replace HB := HB.trans (hB.mono HB.size)
    clear hB hc hn ip iq
    obtain ⟨ro, rcap, rfl, HS⟩ := O.in
    clear O
    generalize (fun i => ls.getD i 0) = x at HS
    obtain ⟨k, U, V, f, hv, tU, tV, hf⟩ := nsV_told m x p q
    have EQ := eqRtU U V tU tV
    have e0 : (k != k) = false := by simp
    have e1 : (f != f) = false := by simp
    have X4 := Blk.new w2 [.int .i64 p, .int .i64 q] 26 rfl
    rw [show ([.int .i64 p, .int .i64 q] : List Value).toArray = #[.int .i64 p, .int .i64 q] from rfl] at X4
    have ha : Below w2.heap.size w2 (w2.alloc (.cells #[.int .i64 p, .int .i64 q] 26)) := (Below.refl _ _).alloc (Nat.le_refl _) _
    replace HB := HB.trans (ha.mono HB.size)
    replace HS := HS.step ha
    clear ha
    go_upto_region 4 with fail
    revert X4 HB HS
    generalize (w2.alloc (.cells #[.int .i64 p, .int .i64 q] 26)) = W2
    generalize w2.heap.size = A4
    intro X4 HB HS
    have CI := fun w h => implNearest_any ro m rcap x p q w h
    have CS := fun w h => specNearest_any ro m rcap x p q w h
    rw [hv] at CI CS
    obtain ⟨p0, p1⟩ := X4.cs2
    go_wp2_with fail
    clear p0 p1
    refine (CI _ HS).mono ?_
    rintro e w4 ⟨rfl, hB⟩
    replace HB := HB.trans (hB.mono HB.size)
    replace HS := HS.step hB
    replace X4 := X4.step hB
    clear hB
    have X6 := Blk.new w4 [.int .u64 (ww3 U), .int .u64 (ww2 U), .int .u64 (ww1 U), .int .u64 (ww0 U), .int .u64 (ww3 V), .int .u64 (ww2 V), .int .u64 (ww1 V), .int .u64 (ww0 V)] 33 rfl
    rw [show ([.int .u64 (ww3 U), .int .u64 (ww2 U), .int .u64 (ww1 U), .int .u64 (ww0 U), .int .u64 (ww3 V), .int .u64 (ww2 V), .int .u64 (ww1 V), .int .u64 (ww0 V)] : List Value).toArray = #[.int .u64 (ww3 U), .int .u64 (ww2 U), .int .u64 (ww1 U), .int .u64 (ww0 U), .int .u64 (ww3 V), .int .u64 (ww2 V), .int .u64 (ww1 V), .int .u64 (ww0 V)] from rfl] at X6
    have ha : Below w4.heap.size w4 (w4.alloc (.cells #[.int .u64 (ww3 U), .int .u64 (ww2 U), .int .u64 (ww1 U), .int .u64 (ww0 U), .int .u64 (ww3 V), .int .u64 (ww2 V), .int .u64 (ww1 V), .int .u64 (ww0 V)] 33)) := (Below.refl _ _).alloc (Nat.le_refl _) _
    replace HB := HB.trans (ha.mono HB.size)
    replace HS := HS.step ha
    replace X4 := X4.alloc (.cells #[.int .u64 (ww3 U), .int .u64 (ww2 U), .int .u64 (ww1 U), .int .u64 (ww0 U), .int .u64 (ww3 V), .int .u64 (ww2 V), .int .u64 (ww1 V), .int .u64 (ww0 V)] 33)
    clear ha
    go_upto_region 5 with fail
    revert X4 X6 HB HS
    generalize (w4.alloc (.cells #[.int .u64 (ww3 U), .int .u64 (ww2 U), .int .u64 (ww1 U), .int .u64 (ww0 U), .int .u64 (ww3 V), .int .u64 (ww2 V), .int .u64 (ww1 V), .int .u64 (ww0 V)] 33)) = W4
    generalize w4.heap.size = A6
    intro X6 HB HS X4
    obtain ⟨p0, p1⟩ := X4.cs2
    go_wp2_with fail
    clear p0 p1
    refine (CS _ HS).mono ?_
    rintro e w5 ⟨rfl, hB⟩
    replace HB := HB.trans (hB.mono HB.size)
    replace HS := HS.step hB
    replace X4 := X4.step hB
    replace X6 := X6.step hB
    clear hB
    have X9 := Blk.new w5 [.int .u64 (ww3 U), .int .u64 (ww2 U), .int .u64 (ww1 U), .int .u64 (ww0 U), .int .u64 (ww3 V), .int .u64 (ww2 V), .int .u64 (ww1 V), .int .u64 (ww0 V)] 33 rfl
    rw [show ([.int .u64 (ww3 U), .int .u64 (ww2 U), .int .u64 (ww1 U), .int .u64 (ww0 U), .int .u64 (ww3 V), .int .u64 (ww2 V), .int .u64 (ww1 V), .int .u64 (ww0 V)] : List Value).toArray = #[.int .u64 (ww3 U), .int .u64 (ww2 U), .int .u64 (ww1 U), .int .u64 (ww0 U), .int .u64 (ww3 V), .int .u64 (ww2 V), .int .u64 (ww1 V), .int .u64 (ww0 V)] from rfl] at X9
    have ha : Below w5.heap.size w5 (w5.alloc (.cells #[.int .u64 (ww3 U), .int .u64 (ww2 U), .int .u64 (ww1 U), .int .u64 (ww0 U), .int .u64 (ww3 V), .int .u64 (ww2 V), .int .u64 (ww1 V), .int .u64 (ww0 V)] 33)) := (Below.refl _ _).alloc (Nat.le_refl _) _
    replace HB := HB.trans (ha.mono HB.size)
    replace HS := HS.step ha
    replace X4 := X4.alloc (.cells #[.int .u64 (ww3 U), .int .u64 (ww2 U), .int .u64 (ww1 U), .int .u64 (ww0 U), .int .u64 (ww3 V), .int .u64 (ww2 V), .int .u64 (ww1 V), .int .u64 (ww0 V)] 33)
    replace X6 := X6.alloc (.cells #[.int .u64 (ww3 U), .int .u64 (ww2 U), .int .u64 (ww1 U), .int .u64 (ww0 U), .int .u64 (ww3 V), .int .u64 (ww2 V), .int .u64 (ww1 V), .int .u64 (ww0 V)] 33)
    clear ha
    clear CI CS hv
    go_upto_region 6 with fail
    revert X4 X6 X9 HB HS
    generalize (w5.alloc (.cells #[.int .u64 (ww3 U), .int .u64 (ww2 U), .int .u64 (ww1 U), .int .u64 (ww0 U), .int .u64 (ww3 V), .int .u64 (ww2 V), .int .u64 (ww1 V), .int .u64 (ww0 V)] 33)) = W5
    generalize w5.heap.size = A9
    intro X9 HB HS X4 X6
    obtain ⟨c0, c1, c2, c3, c4, c5, c6, c7⟩ := X6.cs8
    obtain ⟨d0, d1, d2, d3, d4, d5, d6, d7⟩ := X9.cs8
    cases f
    · go_wp2
      go_ret
      exact ⟨rfl, HB⟩
    · obtain ⟨hok, hk, hU, hV⟩ := hf rfl
      have hkm := ns_lt hok
      have hR : ∀ i, i < m → ¬ 0 < cmpI (U * vAt x p q i) (uAt x p q i * V) ∧ (cmpI (U * vAt x p q i) (uAt x p q i * V) = 0 → ¬ (i : Int) < k) := fun i hi => by rw [hU, hV, hk]; exact ns_round hok hi
      have hNr := fun (i : Nat) (hi : i < m) => (near_at hok hi).2.2.2.2
      have hCm : ∀ i, i < m → ∀ w, Calls Try.prog 10 #[.agg #[.int .u64 (ww3 U), .int .u64 (ww2 U), .int .u64 (ww1 U), .int .u64 (ww0 U), .int .u64 (ww3 V), .int .u64 (ww2 V), .int .u64 (ww1 V), .int .u64 (ww0 V)], .agg #[.int .u64 (ww3 (uAt x p q i)), .int .u64 (ww2 (uAt x p q i)), .int .u64 (ww1 (uAt x p q i)), .int .u64 (ww0 (uAt x p q i)), .int .u64 (ww3 (vAt x p q i)), .int .u64 (ww2 (vAt x p q i)), .int .u64 (ww1 (vAt x p q i)), .int .u64 (ww0 (vAt x p q i))]] w (VP (.tuple #[.int .i64 (cmpI (U * vAt x p q i) (uAt x p q i * V)), .bool true]) w) := fun i hi w => by rw [hU, hV]; exact cmp_at hok hkm hi w
      have hEk : ∀ i : Nat, (i : Int) = k → uAt x p q i = U ∧ vAt x p q i = V := fun i hi => by
        obtain rfl : i = nsI x p q (m - 1) := by omega
        exact ⟨hU.symm, hV.symm⟩
      clear hkm hk hU hV
      have hm1 : (m : Int) ≤ 6 := by omega
      clear hf hok e1
      go_upto_region 8 with fail
      clear c0 c1 c2 c3 c4 c5 c6 c7 d0 d1 d2 d3 d4 d5 d6 d7 X9
      go_wp2_with fail
      go_loopw [11] (fun i wr => ∃ j : Nat, j ≤ m ∧ i = .int .i64 j ∧ Below W5.heap.size W5 wr) (fun i _ => m - (intOf i).toNat)
      case atStart => exact ⟨0, by omega, rfl, Below.refl _ _⟩
      case round =>
        obtain ⟨j, hjm, rfl, hB⟩ := hrel
        replace HB := HB.trans (hB.mono HB.size)
        replace HS := HS.step hB
        replace X4 := X4.step hB
        replace X6 := X6.step hB
        by_cases hj : j < m
        · have hjI : (j : Int) < (m : Int) := by omega
          obtain ⟨A, off, hro, hA, hcs⟩ := HS j hj
          subst hro
          obtain ⟨r1, r2⟩ := hR j hj
          have NV := implNear2_det (x (j * 4)) (x (j * 4 + 1)) (x (j * 4 + 2)) (x (j * 4 + 3)) p q
          rw [hNr j hj] at NV
          have CM := hCm j hj
          have b0 := hcs 0 (by decide); have b1 := hcs 1 (by decide); have b2 := hcs 2 (by decide); have b3 := hcs 3 (by decide)
          clear hR hNr hCm hcs
          go_upto_region 11 with fail
          refine neL (B4 := wr.heap.size) (A4 := A4) (A := A) (off := off) (n := m) (cap := rcap) (jx := j) (a := x (j * 4)) (b := x (j * 4 + 1)) (c := x (j * 4 + 2)) (d := x (j * 4 + 3)) (p := p) (q := q) (y0 := ww3 (uAt x p q j)) (y1 := ww2 (uAt x p q j)) (y2 := ww1 (uAt x p q j)) (y3 := ww0 (uAt x p q j)) (y4 := ww3 (vAt x p q j)) (y5 := ww2 (vAt x p q j)) (y6 := ww1 (vAt x p q j)) (y7 := ww0 (vAt x p q j)) rfl hjI NV rfl rfl rfl b0 hA b1 hA b2 hA b3 hA (X4.c 0 rfl) X4.lt (X4.c 1 rfl) X4.lt rfl ?_
          rintro ⟨tm, df⟩ W6 hz hdf hoff h10 h13 hBz ⟨gz, h12, hgz, GZ⟩
          simp only at hz hdf hoff
          change tm.getD 13 undef = .bool true at h13
          change tm.getD 12 undef = .pointer (some ⟨gz, 0, none⟩) at h12
          subst hdf
          have htm := tmps_fold [74, 75, 76, 77, 78, 79, 73, 80, 81, 12, 13] tm _ hz hoff
          simp only [List.foldl, List.setIfInBounds_toArray, List.set_cons_zero, List.set_cons_succ, h12, h13] at htm
          clear hz hoff
          generalize tm.getD 74 undef = s0, tm.getD 75 undef = s1, tm.getD 76 undef = s2, tm.getD 77 undef = s3, tm.getD 78 undef = s4, tm.getD 79 undef = s5, tm.getD 73 undef = s6, tm.getD 80 undef = s7, tm.getD 81 undef = s8 at htm
          clear h12 h13
          subst htm
          replace HB := HB.trans (hBz.mono HB.size)
          replace hB := hB.trans (hBz.mono hB.size)
          replace X6 := X6.step hBz
          clear hBz h10 hgz HS X4 b0 b1 b2 b3 NV hA
          obtain ⟨c0, c1, c2, c3, c4, c5, c6, c7⟩ := X6.cs8
          obtain ⟨d0, d1, d2, d3, d4, d5, d6, d7⟩ := GZ.cs8
          go_wp2_with fail
          clear c0 c1 c2 c3 c4 c5 c6 c7 d0 d1 d2 d3 d4 d5 d6 d7
          refine (CM _).mono ?_
          rintro e w7 ⟨rfl, hB7⟩
          replace HB := HB.trans (hB7.mono HB.size)
          replace hB := hB.trans (hB7.mono hB.size)
          replace X6 := X6.step hB7
          replace GZ := GZ.step hB7
          clear hB7 CM
          generalize hC : cmpI (U * vAt x p q j) (uAt x p q j * V) = C at *
          obtain ⟨c0, c1, c2, c3, c4, c5, c6, c7⟩ := X6.cs8
          obtain ⟨d0, d1, d2, d3, d4, d5, d6, d7⟩ := GZ.cs8
          clear X6 GZ hC
          by_cases hC0 : C = 0
          · have r3 := r2 hC0
            have r4 : (C == 0) = true := beq_iff_eq.2 hC0
            clear r2 hC0
            by_cases hjk : (j : Int) = k
            · have q1 : ((j : Int) == k) = true := by simp [hjk]
              obtain ⟨e1, e2⟩ := hEk j hjk
              rw [e1] at d0 d1 d2 d3
              rw [e2] at d4 d5 d6 d7
              clear hjk e1 e2 hEk
              go_wp2
              go_roundw
              case rel => exact ⟨j + 1, by omega, by go_num, hB⟩
              case measure => simp [intOf]; omega
            · have q1 : ((j : Int) == k) = false := beq_eq_false_iff_ne.2 hjk
              clear hEk
              go_wp2
              go_roundw
              case rel => exact ⟨j + 1, by omega, by go_num, hB⟩
              case measure => simp [intOf]; omega
          · have r3 : (C == 0) = false := beq_eq_false_iff_ne.2 hC0
            clear r2
            by_cases hjk : (j : Int) = k
            · have q1 : ((j : Int) == k) = true := by simp [hjk]
              obtain ⟨e1, e2⟩ := hEk j hjk
              rw [e1] at d0 d1 d2 d3
              rw [e2] at d4 d5 d6 d7
              clear hjk e1 e2 hEk
              go_wp2
              go_roundw
              case rel => exact ⟨j + 1, by omega, by go_num, hB⟩
              case measure => simp [intOf]; omega
            · have q1 : ((j : Int) == k) = false := beq_eq_false_iff_ne.2 hjk
              clear hEk
              go_wp2
              go_roundw
              case rel => exact ⟨j + 1, by omega, by go_num, hB⟩
              case measure => simp [intOf]; omega
        · obtain rfl : j = m := by omega
          clear hR hNr hCm hEk X4 X6 HS
          go_wp2
          go_ret
          exact ⟨rfl, HB⟩
end Go.Proofs.Ytjhmacpejfldoaa

/- What the row of a law asks of the program as a whole, each by itself. -/
namespace Go.Proofs.Ytjhmacpejfldoaa
open Go.ChangeShapes Go.WideShapes Go.ChangeAt Go.RowKit Go.Joins
theorem jn_laid : laidOutB Try.pinned.checked.prog = true := by kernel_rfl
theorem jn_maps : mapsRowed Try.pinned.checked.prog = true := by kernel_rfl
theorem jn_enter : Try.pinned.checked.prog.mayEnter = true := by kernel_rfl
theorem jn_heard : Try.pinned.checked.prog.stopsHeard = true := by kernel_rfl
end Go.Proofs.Ytjhmacpejfldoaa
