/- Part 12 of the walks that the proof leans on. -/
import Derived.Test.YtmjlgmoohpnhfaaPart9
import Derived.Test.YtmjlgmoohpnhfaaPart11
import Derived.Test.YtmjlgmoohpnhfaaPart7
import Derived.SizedLaws
import Derived.Deep.Slices
import Derived.Test.YtmjlgmoohpnhfaaRows
import Derived.ProofKit
import Derived.Lib.SmallJoins
/- The nearest of a row of segments: the model's walk. -/
namespace Go.Proofs.Ytmjlgmoohpnhfaa
open Go.RowKit
set_option maxRecDepth 100000 in
set_option maxHeartbeats 4000000 in
theorem specNearest_any (ao : Option Addr) (n cap : Nat) (x : Nat → Int) (p q : Int) (w : World) (hS : SegIn w ao n x) : Calls Try.prog 23 #[.slice ao n cap, Sp p q] w (VP (nsV n x p q) w) := by
  have T0 := ns_start p q w 55 50 [.int .u64 0, .int .u64 0, .int .u64 0, .int .u64 0, .int .u64 0, .int .u64 0, .int .u64 0, .int .u64 0]
  have HS : Hid (SegIn w ao n x) := hS
  clear hS
  go_enter Try.func23, Try.ntmps23
  go_wp2_with fail
  generalize ((w.alloc (.cells #[.int .i64 p, .int .i64 q] 55)).alloc (.cells _ 50)) = W at *
  refine (l7Ok_any ao n cap x _ (HS.out.step T0.below)).mono ?_
  rintro e w1 ⟨rfl, hB⟩
  replace T0 := T0.step hB
  clear hB
  by_cases hsg : sgI n x = 0
  · rw [decide_eq_true hsg]
    have X0 : Blk _ w.heap.size _ := T0.b 0 rfl; have a0 := X0.c 0 rfl; have a1 := X0.c 1 rfl
    go_wp2_with fail
    refine (specSpotOk_any p q _ rfl _).mono ?_
    rintro e w2 ⟨rfl, hB⟩
    clear X0 a0 a1
    replace T0 := T0.step hB
    clear hB
    cases hsp : spotOk p q
    · have HO : Hid (nsOk n x p q = false) := by show _ = _; unfold nsOk; rw [hsp]; simp
      clear hsg hsp
      have o0 := (T0.b 1 rfl).c 0 rfl; have r0 := (T0.b 1 rfl).f 0 rfl; have o1 := (T0.b 1 rfl).c 1 rfl; have r1 := (T0.b 1 rfl).f 1 rfl; have o2 := (T0.b 1 rfl).c 2 rfl; have r2 := (T0.b 1 rfl).f 2 rfl; have o3 := (T0.b 1 rfl).c 3 rfl; have r3 := (T0.b 1 rfl).f 3 rfl; have o4 := (T0.b 1 rfl).c 4 rfl; have r4 := (T0.b 1 rfl).f 4 rfl; have o5 := (T0.b 1 rfl).c 5 rfl; have r5 := (T0.b 1 rfl).f 5 rfl; have o6 := (T0.b 1 rfl).c 6 rfl; have r6 := (T0.b 1 rfl).f 6 rfl; have o7 := (T0.b 1 rfl).c 7 rfl; have r7 := (T0.b 1 rfl).f 7 rfl; have olt := (T0.b 1 rfl).lt
      have HB := T0.below
      clear T0
      go_wp2
      refine bodyPost_ret (v := .tuple #[.int .i64 0, .agg #[.int .u64 0, .int .u64 0, .int .u64 0, .int .u64 0, .int .u64 0, .int .u64 0, .int .u64 0, .int .u64 0], .bool false]) (by simp [results, Try.results23, go_sem, o0, o1, o2, o3, o4, o5, o6, o7]) rfl ?_
      refine ⟨by unfold nsV; rw [HO.out]; rfl, ?_⟩
      repeat' (refine Below.setCell ?_ (by simp; try omega) _)
      exact HB
    · by_cases hn : n = 0
      · subst hn
        have HO : Hid (nsOk 0 x p q = false) := by show _ = _; unfold nsOk; simp
        clear hsg hsp
        have o0 := (T0.b 1 rfl).c 0 rfl; have r0 := (T0.b 1 rfl).f 0 rfl; have o1 := (T0.b 1 rfl).c 1 rfl; have r1 := (T0.b 1 rfl).f 1 rfl; have o2 := (T0.b 1 rfl).c 2 rfl; have r2 := (T0.b 1 rfl).f 2 rfl; have o3 := (T0.b 1 rfl).c 3 rfl; have r3 := (T0.b 1 rfl).f 3 rfl; have o4 := (T0.b 1 rfl).c 4 rfl; have r4 := (T0.b 1 rfl).f 4 rfl; have o5 := (T0.b 1 rfl).c 5 rfl; have r5 := (T0.b 1 rfl).f 5 rfl; have o6 := (T0.b 1 rfl).c 6 rfl; have r6 := (T0.b 1 rfl).f 6 rfl; have o7 := (T0.b 1 rfl).c 7 rfl; have r7 := (T0.b 1 rfl).f 7 rfl; have olt := (T0.b 1 rfl).lt
        have HB := T0.below
        clear T0
        go_wp2
        refine bodyPost_ret (v := .tuple #[.int .i64 0, .agg #[.int .u64 0, .int .u64 0, .int .u64 0, .int .u64 0, .int .u64 0, .int .u64 0, .int .u64 0, .int .u64 0], .bool false]) (by simp [results, Try.results23, go_sem, o0, o1, o2, o3, o4, o5, o6, o7]) rfl ?_
        refine ⟨by unfold nsV; rw [HO.out]; rfl, ?_⟩
        repeat' (refine Below.setCell ?_ (by simp; try omega) _)
        exact HB
      · have HO : Hid (nsOk n x p q = true) := by show _ = _; unfold nsOk; rw [hsp, decide_eq_true hsg, decide_eq_true (by omega)]; rfl
        obtain ⟨h40, hall⟩ := sgI_zero hsg
        have HA : Hid (∀ i, i < n → segOk (x (i * 4)) (x (i * 4 + 1)) (x (i * 4 + 2)) (x (i * 4 + 3)) = true) := hall
        have HP : Hid (spotOk p q = true) := hsp
        have hnI : (n : Int) ≤ 40 := by omega
        have hn0 : (n : Int) ≠ 0 := by omega
        have hn1 : (0 : Int) < n := by omega
        have hn2 : 0 < n := by omega
        have hn3 : (0 : Int) ≤ n := by omega
        clear hall hsp hsg
        obtain ⟨A, off, rfl, hA, hcell⟩ := HS.out 0 (by omega)
        have HBw := T0.below
        have e0 : ∀ o, w2.cell? ⟨A, o, none⟩ = w.cell? ⟨A, o, none⟩ := fun o => HBw.cell (p := ⟨A, o, none⟩) hA
        have q0 := (e0 _).trans (hcell 0 (by omega)); have q1 := (e0 _).trans (hcell 1 (by omega)); have q2 := (e0 _).trans (hcell 2 (by omega)); have q3 := (e0 _).trans (hcell 3 (by omega))
        simp only [Nat.zero_mul, Nat.add_zero, Nat.zero_add] at q0 q1 q2 q3
        have hA' : A < w2.heap.size := Nat.lt_of_lt_of_le hA HBw.size
        have X0 : Blk _ w.heap.size _ := T0.b 0 rfl; have a0 := X0.c 0 rfl; have a1 := X0.c 1 rfl
        have KS : (fun w' => w'.cell? ⟨A, off, none⟩ = some (.int .i64 (x 0)) ∧ w'.cell? ⟨A, off + 1, none⟩ = some (.int .i64 (x 1)) ∧ w'.cell? ⟨A, off + 2, none⟩ = some (.int .i64 (x 2)) ∧ w'.cell? ⟨A, off + 3, none⟩ = some (.int .i64 (x 3)) ∧ w'.cell? ⟨w.heap.size, 0, none⟩ = some (.int .i64 p) ∧ w'.cell? ⟨w.heap.size, 1, none⟩ = some (.int .i64 q)) w2 := ⟨q0, q1, q2, q3, a0, a1⟩
        have HK : ∀ w', Below w2.heap.size w2 w' → (fun w' => w'.cell? ⟨A, off, none⟩ = some (.int .i64 (x 0)) ∧ w'.cell? ⟨A, off + 1, none⟩ = some (.int .i64 (x 1)) ∧ w'.cell? ⟨A, off + 2, none⟩ = some (.int .i64 (x 2)) ∧ w'.cell? ⟨A, off + 3, none⟩ = some (.int .i64 (x 3)) ∧ w'.cell? ⟨w.heap.size, 0, none⟩ = some (.int .i64 p) ∧ w'.cell? ⟨w.heap.size, 1, none⟩ = some (.int .i64 q)) w' := fun w' hB => ⟨(hB.cell (p := ⟨A, _, none⟩) hA').trans q0, (hB.cell (p := ⟨A, _, none⟩) hA').trans q1, (hB.cell (p := ⟨A, _, none⟩) hA').trans q2, (hB.cell (p := ⟨A, _, none⟩) hA').trans q3, (X0.step hB).c 0 rfl, (X0.step hB).c 1 rfl⟩
        have NB := l4Near2_nums (a := x 0) (b := x 1) (c := x 2) (d := x 3) (x := p) (y := q) (HA.out 0 (by omega)) HP.out
        have HTT : Hid (ArgsB w w2 [[.int .i64 p, .int .i64 q], [.int .u64 0, .int .u64 0, .int .u64 0, .int .u64 0, .int .u64 0, .int .u64 0, .int .u64 0, .int .u64 0]]) := T0
        have H0 : Below w2.heap.size w2 w2 := Below.refl _ _
        clear X0 a0 a1 hA hA' e0 hcell T0 HBw
        go_upto_region 4 with fail
        go_region_held3 (fun w' => w'.cell? ⟨A, off, none⟩ = some (.int .i64 (x 0)) ∧ w'.cell? ⟨A, off + 1, none⟩ = some (.int .i64 (x 1)) ∧ w'.cell? ⟨A, off + 2, none⟩ = some (.int .i64 (x 2)) ∧ w'.cell? ⟨A, off + 3, none⟩ = some (.int .i64 (x 3)) ∧ w'.cell? ⟨w.heap.size, 0, none⟩ = some (.int .i64 p) ∧ w'.cell? ⟨w.heap.size, 1, none⟩ = some (.int .i64 q)) (first | (exact KS) | (exact HK _ hB1) | (exact HK _ (H0.drew.alloc (Nat.le_refl _) _)) | (exact HK _ (H0.alloc (Nat.le_refl _) _).drew) | (exact HK _ (hB1.alloc hB1.size _)) | (exact HK _ ((((hB1.setCell (Nat.le_refl _) _).setCell (Nat.le_refl _) _).setCell (Nat.le_refl _) _).setCell (Nat.le_refl _) _)) | (exact HK _ (((((hB1.alloc hs3 _).setCell hs3 _).setCell hs3 _).setCell hs3 _).setCell hs3 _)) | (trace_state; fail))
            (first
              | (go_at_call 59; refine (NB _).mono ?_; rintro e w3 ⟨s1, o1, n1, c1, d1, s2, o2, n2, c2, d2, rfl, N1, N2, hB⟩
                 first
                   | (have hB1 : Below w2.heap.size w2 w3 := H0.drew.trans (hB.mono H0.drew.size); have hs3 := hB1.size; clear hB)
                   | (have hB1 : Below w2.heap.size w2 w3 := (H0.alloc (Nat.le_refl _) _).drew.trans (hB.mono (by simp))
                      have ZB : Blk w3 w2.heap.size [.bool false, .slice none 0 0, .bool false, .slice none 0 0] := (Blk.new w2 [.bool false, .slice none 0 0, .bool false, .slice none 0 0] 100 rfl).drew.step hB
                      have z0 := ZB.c 0 rfl; have y0 := ZB.f 0 rfl; have z1 := ZB.c 1 rfl; have y1 := ZB.f 1 rfl; have z2 := ZB.c 2 rfl; have y2 := ZB.f 2 rfl; have z3 := ZB.c 3 rfl; have y3 := ZB.f 3 rfl; have zlt := ZB.lt
                      have hs3 := hB1.size; clear hB)))
        all_goals go_upto_region 5 with fail
        all_goals have hsw : w.heap.size + 2 ≤ w2.heap.size := (HTT.out.b 1 rfl).lt
        all_goals clear KS HK NB
        · have FI : FarIs _ w3.heap.size (uAt x p q 0) (vAt x p q 0) := far_new (T := 100) N1 N2
          have TA : ArgsB w (w3.alloc (.cells #[.bool s1, .slice o1 n1 c1, .bool s2, .slice o2 n2 c2] 100)) [[.int .i64 p, .int .i64 q], [.int .u64 0, .int .u64 0, .int .u64 0, .int .u64 0, .int .u64 0, .int .u64 0, .int .u64 0, .int .u64 0]] := (HTT.out.step hB1).alloc _
          have hF : w.heap.size + 2 ≤ w3.heap.size := by omega
          generalize (w3.alloc (.cells #[.bool s1, .slice o1 n1 c1, .bool s2, .slice o2 n2 c2] 100)) = W4 at *
          generalize w3.heap.size = F at *
          clear N1 N2 hB1 hs3
          go_wp2_with fail
          go_loopw [7, 9] (fun o i wr => ∃ k : Nat, 1 ≤ k ∧ k ≤ n ∧ i = .int .i64 k ∧ o = .int .i64 ((nsI x p q (k - 1)) : Nat) ∧ FarIs wr F (uAt x p q (nsI x p q (k - 1))) (vAt x p q (nsI x p q (k - 1))) ∧ ArgsB w wr [[.int .i64 p, .int .i64 q], [.int .u64 0, .int .u64 0, .int .u64 0, .int .u64 0, .int .u64 0, .int .u64 0, .int .u64 0, .int .u64 0]]) (fun _ i _ => n - (intOf i).toNat)
          case atStart => exact ⟨1, by omega, by omega, rfl, rfl, FI, TA⟩
          case round =>
            clear FI TA
            obtain ⟨k, hk1, hk, rfl, rfl, FI, T0⟩ := hrel
            have HBw := T0.below
            by_cases hkn : k < n
            · obtain ⟨A', off', hao, hA, hcell⟩ := HS.out k hkn
              cases hao
              have e0 : ∀ o, wr.cell? ⟨A, o, none⟩ = w.cell? ⟨A, o, none⟩ := fun o => HBw.cell (p := ⟨A, o, none⟩) hA
              have q0 := (e0 _).trans (hcell 0 (by omega)); have q1 := (e0 _).trans (hcell 1 (by omega)); have q2 := (e0 _).trans (hcell 2 (by omega)); have q3 := (e0 _).trans (hcell 3 (by omega))
              simp only [Nat.add_zero] at q0
              have hkI : (k : Int) < n := by omega
              have hk0 : (0 : Int) ≤ k := by omega
              have hA' : A < wr.heap.size := Nat.lt_of_lt_of_le hA HBw.size
              have X0 : Blk _ w.heap.size _ := T0.b 0 rfl; have a0 := X0.c 0 rfl; have a1 := X0.c 1 rfl
              have KS : (fun w' => w'.cell? ⟨A, off + k * 4, none⟩ = some (.int .i64 (x (k * 4))) ∧ w'.cell? ⟨A, off + k * 4 + 1, none⟩ = some (.int .i64 (x (k * 4 + 1))) ∧ w'.cell? ⟨A, off + k * 4 + 2, none⟩ = some (.int .i64 (x (k * 4 + 2))) ∧ w'.cell? ⟨A, off + k * 4 + 3, none⟩ = some (.int .i64 (x (k * 4 + 3))) ∧ w'.cell? ⟨w.heap.size, 0, none⟩ = some (.int .i64 p) ∧ w'.cell? ⟨w.heap.size, 1, none⟩ = some (.int .i64 q)) wr := ⟨q0, q1, q2, q3, a0, a1⟩
              have HK : ∀ w', Below wr.heap.size wr w' → (fun w' => w'.cell? ⟨A, off + k * 4, none⟩ = some (.int .i64 (x (k * 4))) ∧ w'.cell? ⟨A, off + k * 4 + 1, none⟩ = some (.int .i64 (x (k * 4 + 1))) ∧ w'.cell? ⟨A, off + k * 4 + 2, none⟩ = some (.int .i64 (x (k * 4 + 2))) ∧ w'.cell? ⟨A, off + k * 4 + 3, none⟩ = some (.int .i64 (x (k * 4 + 3))) ∧ w'.cell? ⟨w.heap.size, 0, none⟩ = some (.int .i64 p) ∧ w'.cell? ⟨w.heap.size, 1, none⟩ = some (.int .i64 q)) w' := fun w' hB => ⟨(hB.cell (p := ⟨A, _, none⟩) hA').trans q0, (hB.cell (p := ⟨A, _, none⟩) hA').trans q1, (hB.cell (p := ⟨A, _, none⟩) hA').trans q2, (hB.cell (p := ⟨A, _, none⟩) hA').trans q3, (X0.step hB).c 0 rfl, (X0.step hB).c 1 rfl⟩
              have NB : ∀ w, Calls _ _ _ w (NumsP 8 (uAt x p q k) (vAt x p q k) w) := l4Near2_nums (a := x (k * 4)) (b := x (k * 4 + 1)) (c := x (k * 4 + 2)) (d := x (k * 4 + 3)) (x := p) (y := q) (HA.out k (by omega)) HP.out
              have HTT : Hid (ArgsB w wr [[.int .i64 p, .int .i64 q], [.int .u64 0, .int .u64 0, .int .u64 0, .int .u64 0, .int .u64 0, .int .u64 0, .int .u64 0, .int .u64 0]]) := T0
              have HFI : Hid (FarIs wr F (uAt x p q (nsI x p q (k - 1))) (vAt x p q (nsI x p q (k - 1)))) := FI
              have H0 : Below wr.heap.size wr wr := Below.refl _ _
              have hFr : F < wr.heap.size := by obtain ⟨_, _, _, _, _, _, _, _, _, _, G, _⟩ := FI; exact G.lt
              clear X0 a0 a1 hA hA' e0 hcell T0 HBw FI q0 q1 q2 q3
              go_upto_region 8 with fail
              go_region_held3 (fun w' => w'.cell? ⟨A, off + k * 4, none⟩ = some (.int .i64 (x (k * 4))) ∧ w'.cell? ⟨A, off + k * 4 + 1, none⟩ = some (.int .i64 (x (k * 4 + 1))) ∧ w'.cell? ⟨A, off + k * 4 + 2, none⟩ = some (.int .i64 (x (k * 4 + 2))) ∧ w'.cell? ⟨A, off + k * 4 + 3, none⟩ = some (.int .i64 (x (k * 4 + 3))) ∧ w'.cell? ⟨w.heap.size, 0, none⟩ = some (.int .i64 p) ∧ w'.cell? ⟨w.heap.size, 1, none⟩ = some (.int .i64 q)) (first | (exact KS) | (exact HK _ hB1) | (exact HK _ (H0.drew.alloc (Nat.le_refl _) _)) | (exact HK _ (H0.alloc (Nat.le_refl _) _).drew) | (exact HK _ (hB1.alloc hB1.size _)) | (exact HK _ ((((hB1.setCell (Nat.le_refl _) _).setCell (Nat.le_refl _) _).setCell (Nat.le_refl _) _).setCell (Nat.le_refl _) _)) | (exact HK _ (((((hB1.alloc hs3 _).setCell hs3 _).setCell hs3 _).setCell hs3 _).setCell hs3 _)))
                  (first
                    | (go_at_call 59; refine (NB _).mono ?_; rintro e w3 ⟨s1, o1, n1, c1, d1, s2, o2, n2, c2, d2, rfl, N1, N2, hB⟩
                       first
                         | (have hB1 : Below wr.heap.size wr w3 := H0.drew.trans (hB.mono H0.drew.size); have hs3 := hB1.size; clear hB)
                         | (have hB1 : Below wr.heap.size wr w3 := (H0.alloc (Nat.le_refl _) _).drew.trans (hB.mono (by simp))
                            have ZB : Blk w3 wr.heap.size [.bool false, .slice none 0 0, .bool false, .slice none 0 0] := (Blk.new wr [.bool false, .slice none 0 0, .bool false, .slice none 0 0] 100 rfl).drew.step hB
                            have z0 := ZB.c 0 rfl; have y0 := ZB.f 0 rfl; have z1 := ZB.c 1 rfl; have y1 := ZB.f 1 rfl; have z2 := ZB.c 2 rfl; have y2 := ZB.f 2 rfl; have z3 := ZB.c 3 rfl; have y3 := ZB.f 3 rfl; have zlt := ZB.lt
                            have hs3 := hB1.size; clear hB)))
              all_goals go_upto_region 9 with fail
              all_goals have hsr : w.heap.size + 2 ≤ wr.heap.size := by omega
              all_goals clear KS HK NB
              · have FD : FarIs _ w3.heap.size (uAt x p q k) (vAt x p q k) := far_new (T := 100) N1 N2
                have T5 : ArgsB w (w3.alloc (.cells #[.bool s1, .slice o1 n1 c1, .bool s2, .slice o2 n2 c2] 100)) [[.int .i64 p, .int .i64 q], [.int .u64 0, .int .u64 0, .int .u64 0, .int .u64 0, .int .u64 0, .int .u64 0, .int .u64 0, .int .u64 0]] := (HTT.out.step hB1).alloc _
                have FO := (HFI.out.step hB1).step ((Below.refl _ w3).alloc (Nat.le_refl _) (.cells #[.bool s1, .slice o1 n1 c1, .bool s2, .slice o2 n2 c2] 100))
                generalize (w3.alloc (.cells #[.bool s1, .slice o1 n1 c1, .bool s2, .slice o2 n2 c2] 100)) = W5 at *
                have hDF : F ≠ w3.heap.size := by omega
                generalize w3.heap.size = D at *
                clear N1 N2 hB1 HTT HFI H0
                obtain ⟨s1, o1, n1, c1, d1, s2, o2, n2, c2, d2, GD, M1, M2⟩ := FD
                obtain ⟨s3, o3, n3, c3, d3, s4, o4, n4, c4, d4, GF, M3, M4⟩ := FO
                have gd0 := GD.c 0 rfl; have gd1 := GD.c 1 rfl; have gd2 := GD.c 2 rfl; have gd3 := GD.c 3 rfl; have gdlt := GD.lt; have gf0 := GF.c 0 rfl; have gf1 := GF.c 1 rfl; have gf2 := GF.c 2 rfl; have gf3 := GF.c 3 rfl; have gflt := GF.lt
                go_wp2_with fail
                refine (l2Cmp_any s1 o1 n1 c1 d1 s2 o2 n2 c2 d2 s3 o3 n3 c3 d3 s4 o4 n4 c4 d4 _ _ _ _ _ M1 M2 M3 M4).mono ?_
                rintro e w6 ⟨rfl, hB⟩
                have hne : nearer x p q k (nsI x p q (k - 1)) = decide (cmpI (uAt x p q k * vAt x p q (nsI x p q (k - 1))) (uAt x p q (nsI x p q (k - 1)) * vAt x p q k) < 0) := rfl
                generalize cmpI (uAt x p q k * vAt x p q (nsI x p q (k - 1))) (uAt x p q (nsI x p q (k - 1)) * vAt x p q k) = o at *
                have GD6 := GD.step hB; have GF6 := GF.step hB; have K1 := M1.below hB; have K2 := M2.below hB; have K3 := M3.below hB; have K4 := M4.below hB; have T6 := T5.step hB
                clear GD GF M1 M2 M3 M4 T5 hB gd0 gd1 gd2 gd3 gdlt gf0 gf1 gf2 gf3 gflt
                by_cases ho : o < 0
                · have HI : Hid (nsI x p q k = k) := nsI_on' hk1 (by rw [hne]; exact decide_eq_true ho)
                  clear hne
                  have gd0 := GD6.c 0 rfl; have gd1 := GD6.c 1 rfl; have gd2 := GD6.c 2 rfl; have gd3 := GD6.c 3 rfl; have gdlt := GD6.lt; have gf0 := GF6.c 0 rfl; have gff0 := GF6.f 0 rfl; have gf1 := GF6.c 1 rfl; have gff1 := GF6.f 1 rfl; have gf2 := GF6.c 2 rfl; have gff2 := GF6.f 2 rfl; have gf3 := GF6.c 3 rfl; have gff3 := GF6.f 3 rfl; have gflt := GF6.lt
                  have FN : Hid (FarIs _ F (uAt x p q k) (vAt x p q k)) := far_put GF6 K1 K2
                  have TN : Hid (ArgsB w _ [[.int .i64 p, .int .i64 q], [.int .u64 0, .int .u64 0, .int .u64 0, .int .u64 0, .int .u64 0, .int .u64 0, .int .u64 0, .int .u64 0]]) := args_far T6 (((((Below.refl (w.heap.size + 2) w6).setCell (p := ⟨F, 0, none⟩) hF (.bool s1)).setCell (p := ⟨F, 1, none⟩) hF (.slice o1 n1 c1)).setCell (p := ⟨F, 2, none⟩) hF (.bool s2)).setCell (p := ⟨F, 3, none⟩) hF (.slice o2 n2 c2))
                  clear GD6 GF6 K1 K2 K3 K4 T6
                  go_wp2
                  go_roundw
                  case rel => exact ⟨k + 1, by omega, by omega, by go_num, by rw [Nat.add_sub_cancel, HI.out], by rw [Nat.add_sub_cancel, HI.out]; exact FN.out, TN.out⟩
                  case measure => simp [intOf]; omega
                · have HI : Hid (nsI x p q k = (nsI x p q (k - 1))) := nsI_off' hk1 (by rw [hne]; exact decide_eq_false ho)
                  clear hne
                  have FN : Hid (FarIs w6 F (uAt x p q (nsI x p q (k - 1))) (vAt x p q (nsI x p q (k - 1)))) := ⟨s3, o3, n3, c3, d3, s4, o4, n4, c4, d4, GF6, K3, K4⟩
                  have TN : Hid (ArgsB w w6 [[.int .i64 p, .int .i64 q], [.int .u64 0, .int .u64 0, .int .u64 0, .int .u64 0, .int .u64 0, .int .u64 0, .int .u64 0, .int .u64 0]]) := T6
                  clear GD6 GF6 K1 K2 K3 K4 T6
                  go_wp2
                  go_roundw
                  case rel => exact ⟨k + 1, by omega, by omega, by go_num, by rw [Nat.add_sub_cancel, HI.out], by rw [Nat.add_sub_cancel, HI.out]; exact FN.out, TN.out⟩
                  case measure => simp [intOf]; omega
          
              · have FD := far_put (X := uAt x p q k) (Y := vAt x p q k) ZB N1 N2
                have FO := (HFI.out.step hB1).put (v0 := .bool s1) (v1 := .slice o1 n1 c1) (v2 := .bool s2) (v3 := .slice o2 n2 c2) (by omega) ZB
                have T5 := args_far (HTT.out.step hB1) (((((Below.refl (w.heap.size + 2) w3).setCell (p := ⟨wr.heap.size, 0, none⟩) hsr (.bool s1)).setCell (p := ⟨wr.heap.size, 1, none⟩) hsr (.slice o1 n1 c1)).setCell (p := ⟨wr.heap.size, 2, none⟩) hsr (.bool s2)).setCell (p := ⟨wr.heap.size, 3, none⟩) hsr (.slice o2 n2 c2))
                clear z0 y0 z1 y1 z2 y2 z3 y3 zlt ZB
                generalize ((((w3.setCell ⟨wr.heap.size, 0, none⟩ (.bool s1)).setCell ⟨wr.heap.size, 1, none⟩ (.slice o1 n1 c1)).setCell ⟨wr.heap.size, 2, none⟩ (.bool s2)).setCell ⟨wr.heap.size, 3, none⟩ (.slice o2 n2 c2)) = W5 at *
                have hDF : F ≠ wr.heap.size := by omega
                generalize wr.heap.size = D at *
                clear N1 N2 hB1 HTT HFI H0
                obtain ⟨s1, o1, n1, c1, d1, s2, o2, n2, c2, d2, GD, M1, M2⟩ := FD
                obtain ⟨s3, o3, n3, c3, d3, s4, o4, n4, c4, d4, GF, M3, M4⟩ := FO
                have gd0 := GD.c 0 rfl; have gd1 := GD.c 1 rfl; have gd2 := GD.c 2 rfl; have gd3 := GD.c 3 rfl; have gdlt := GD.lt; have gf0 := GF.c 0 rfl; have gf1 := GF.c 1 rfl; have gf2 := GF.c 2 rfl; have gf3 := GF.c 3 rfl; have gflt := GF.lt
                go_wp2_with fail
                refine (l2Cmp_any s1 o1 n1 c1 d1 s2 o2 n2 c2 d2 s3 o3 n3 c3 d3 s4 o4 n4 c4 d4 _ _ _ _ _ M1 M2 M3 M4).mono ?_
                rintro e w6 ⟨rfl, hB⟩
                have hne : nearer x p q k (nsI x p q (k - 1)) = decide (cmpI (uAt x p q k * vAt x p q (nsI x p q (k - 1))) (uAt x p q (nsI x p q (k - 1)) * vAt x p q k) < 0) := rfl
                generalize cmpI (uAt x p q k * vAt x p q (nsI x p q (k - 1))) (uAt x p q (nsI x p q (k - 1)) * vAt x p q k) = o at *
                have GD6 := GD.step hB; have GF6 := GF.step hB; have K1 := M1.below hB; have K2 := M2.below hB; have K3 := M3.below hB; have K4 := M4.below hB; have T6 := T5.step hB
                clear GD GF M1 M2 M3 M4 T5 hB gd0 gd1 gd2 gd3 gdlt gf0 gf1 gf2 gf3 gflt
                by_cases ho : o < 0
                · have HI : Hid (nsI x p q k = k) := nsI_on' hk1 (by rw [hne]; exact decide_eq_true ho)
                  clear hne
                  have gd0 := GD6.c 0 rfl; have gd1 := GD6.c 1 rfl; have gd2 := GD6.c 2 rfl; have gd3 := GD6.c 3 rfl; have gdlt := GD6.lt; have gf0 := GF6.c 0 rfl; have gff0 := GF6.f 0 rfl; have gf1 := GF6.c 1 rfl; have gff1 := GF6.f 1 rfl; have gf2 := GF6.c 2 rfl; have gff2 := GF6.f 2 rfl; have gf3 := GF6.c 3 rfl; have gff3 := GF6.f 3 rfl; have gflt := GF6.lt
                  have FN : Hid (FarIs _ F (uAt x p q k) (vAt x p q k)) := far_put GF6 K1 K2
                  have TN : Hid (ArgsB w _ [[.int .i64 p, .int .i64 q], [.int .u64 0, .int .u64 0, .int .u64 0, .int .u64 0, .int .u64 0, .int .u64 0, .int .u64 0, .int .u64 0]]) := args_far T6 (((((Below.refl (w.heap.size + 2) w6).setCell (p := ⟨F, 0, none⟩) hF (.bool s1)).setCell (p := ⟨F, 1, none⟩) hF (.slice o1 n1 c1)).setCell (p := ⟨F, 2, none⟩) hF (.bool s2)).setCell (p := ⟨F, 3, none⟩) hF (.slice o2 n2 c2))
                  clear GD6 GF6 K1 K2 K3 K4 T6
                  go_wp2
                  go_roundw
                  case rel => exact ⟨k + 1, by omega, by omega, by go_num, by rw [Nat.add_sub_cancel, HI.out], by rw [Nat.add_sub_cancel, HI.out]; exact FN.out, TN.out⟩
                  case measure => simp [intOf]; omega
                · have HI : Hid (nsI x p q k = (nsI x p q (k - 1))) := nsI_off' hk1 (by rw [hne]; exact decide_eq_false ho)
                  clear hne
                  have FN : Hid (FarIs w6 F (uAt x p q (nsI x p q (k - 1))) (vAt x p q (nsI x p q (k - 1)))) := ⟨s3, o3, n3, c3, d3, s4, o4, n4, c4, d4, GF6, K3, K4⟩
                  have TN : Hid (ArgsB w w6 [[.int .i64 p, .int .i64 q], [.int .u64 0, .int .u64 0, .int .u64 0, .int .u64 0, .int .u64 0, .int .u64 0, .int .u64 0, .int .u64 0]]) := T6
                  clear GD6 GF6 K1 K2 K3 K4 T6
                  go_wp2
                  go_roundw
                  case rel => exact ⟨k + 1, by omega, by omega, by go_num, by rw [Nat.add_sub_cancel, HI.out], by rw [Nat.add_sub_cancel, HI.out]; exact FN.out, TN.out⟩
                  case measure => simp [intOf]; omega
          
            · obtain rfl : k = n := by omega
              obtain ⟨s3, o3, n3, c3, d3, s4, o4, n4, c4, d4, GF, M3, M4⟩ := FI
              have hi : (nsI x p q (k - 1)) < k := by have := nsI_le x p q (k - 1); omega
              obtain ⟨t1, t2, _, _⟩ := near_nums (HA.out _ hi) HP.out
              have R := l2Ratio_any s3 o3 n3 c3 d3 s4 o4 n4 c4 d4 _ _ 8 (by omega) wr M3 M4
              have hr : rtV (uAt x p q (nsI x p q (k - 1))) (vAt x p q (nsI x p q (k - 1))) = .tuple #[.agg #[.int .u64 (ww3 (uAt x p q (nsI x p q (k - 1)))), .int .u64 (ww2 (uAt x p q (nsI x p q (k - 1)))), .int .u64 (ww1 (uAt x p q (nsI x p q (k - 1)))), .int .u64 (ww0 (uAt x p q (nsI x p q (k - 1)))), .int .u64 (ww3 (vAt x p q (nsI x p q (k - 1)))), .int .u64 (ww2 (vAt x p q (nsI x p q (k - 1)))), .int .u64 (ww1 (vAt x p q (nsI x p q (k - 1)))), .int .u64 (ww0 (vAt x p q (nsI x p q (k - 1))))], .bool true] := by unfold rtV; rw [if_pos ⟨t1, t2⟩]
              rw [hr] at R
              have HV : Hid (nsV k x p q = .tuple #[.int .i64 ((nsI x p q (k - 1)) : Nat), .agg #[.int .u64 (ww3 (uAt x p q (nsI x p q (k - 1)))), .int .u64 (ww2 (uAt x p q (nsI x p q (k - 1)))), .int .u64 (ww1 (uAt x p q (nsI x p q (k - 1)))), .int .u64 (ww0 (uAt x p q (nsI x p q (k - 1)))), .int .u64 (ww3 (vAt x p q (nsI x p q (k - 1)))), .int .u64 (ww2 (vAt x p q (nsI x p q (k - 1)))), .int .u64 (ww1 (vAt x p q (nsI x p q (k - 1)))), .int .u64 (ww0 (vAt x p q (nsI x p q (k - 1))))], .bool true]) := by show _ = _; unfold nsV; rw [HO.out]; rfl
              clear hr t1 t2 M3 M4 HA HP HS HTT H0
              generalize ww3 (uAt x p q (nsI x p q (k - 1))) = z0 at *; generalize ww2 (uAt x p q (nsI x p q (k - 1))) = z1 at *; generalize ww1 (uAt x p q (nsI x p q (k - 1))) = z2 at *; generalize ww0 (uAt x p q (nsI x p q (k - 1))) = z3 at *; generalize ww3 (vAt x p q (nsI x p q (k - 1))) = z4 at *; generalize ww2 (vAt x p q (nsI x p q (k - 1))) = z5 at *; generalize ww1 (vAt x p q (nsI x p q (k - 1))) = z6 at *; generalize ww0 (vAt x p q (nsI x p q (k - 1))) = z7 at *
              have gf0 := GF.c 0 rfl; have gf1 := GF.c 1 rfl; have gf2 := GF.c 2 rfl; have gf3 := GF.c 3 rfl; have gflt := GF.lt
              clear GF
              go_wp2_with fail
              refine R.mono ?_
              rintro e w4 ⟨rfl, hB⟩
              replace T0 := T0.step hB
              clear hB R gf0 gf1 gf2 gf3 gflt HBw
              go_upto_region 13 with fail
              have XA : Blk (w4.alloc (.cells #[.int .u64 z0, .int .u64 z1, .int .u64 z2, .int .u64 z3, .int .u64 z4, .int .u64 z5, .int .u64 z6, .int .u64 z7] 50)) w4.heap.size [.int .u64 z0, .int .u64 z1, .int .u64 z2, .int .u64 z3, .int .u64 z4, .int .u64 z5, .int .u64 z6, .int .u64 z7] := Blk.new w4 _ _ rfl
              have hEn : w4.heap.size ≠ w.heap.size + 1 := by have := (T0.b 1 rfl).lt; omega
              replace T0 := T0.alloc (.cells #[.int .u64 z0, .int .u64 z1, .int .u64 z2, .int .u64 z3, .int .u64 z4, .int .u64 z5, .int .u64 z6, .int .u64 z7] 50)
              generalize (w4.alloc (.cells #[.int .u64 z0, .int .u64 z1, .int .u64 z2, .int .u64 z3, .int .u64 z4, .int .u64 z5, .int .u64 z6, .int .u64 z7] 50)) = W7 at *
              generalize w4.heap.size = E at *
              have GR : Blk W7 (w.heap.size + 1) [.int .u64 0, .int .u64 0, .int .u64 0, .int .u64 0, .int .u64 0, .int .u64 0, .int .u64 0, .int .u64 0] := T0.b 1 rfl
              have HB := T0.below
              clear T0
              refine nsEnd (k := (((nsI x p q (k - 1)) : Nat) : Int)) XA GR rfl rfl rfl rfl ?_
              rintro ⟨tm, df⟩ Wz hz hdf hoff x55 x56 x4 x6 GB FL
              simp only at hz hdf hoff x55 x56 x4 x6
              subst hdf
              have htm := tmps_fold [55, 56, 4, 6] tm _ hz hoff
              simp only [List.foldl, List.setIfInBounds_toArray, List.set_cons_zero, List.set_cons_succ, x55, x56, x4, x6] at htm
              clear hz hoff x55 x56 x4 x6 XA GR
              subst htm
              have HBF := FL w.heap.size w (by omega) HB
              clear FL HB
              go_wp2
              have g0 := GB.c 0 rfl; have g1 := GB.c 1 rfl; have g2 := GB.c 2 rfl; have g3 := GB.c 3 rfl; have g4 := GB.c 4 rfl; have g5 := GB.c 5 rfl; have g6 := GB.c 6 rfl; have g7 := GB.c 7 rfl
              refine bodyPost_ret (v := .tuple #[.int .i64 ((nsI x p q (k - 1)) : Nat), .agg #[.int .u64 z0, .int .u64 z1, .int .u64 z2, .int .u64 z3, .int .u64 z4, .int .u64 z5, .int .u64 z6, .int .u64 z7], .bool true]) (by simp [results, Try.results23, go_sem, g0, g1, g2, g3, g4, g5, g6, g7]) rfl ?_
              exact ⟨by rw [HV.out], HBF⟩
        · have FI := far_put (X := uAt x p q 0) (Y := vAt x p q 0) ZB N1 N2
          have TA := args_far (HTT.out.step hB1) (((((Below.refl (w.heap.size + 2) w3).setCell (p := ⟨w2.heap.size, 0, none⟩) hsw (.bool s1)).setCell (p := ⟨w2.heap.size, 1, none⟩) hsw (.slice o1 n1 c1)).setCell (p := ⟨w2.heap.size, 2, none⟩) hsw (.bool s2)).setCell (p := ⟨w2.heap.size, 3, none⟩) hsw (.slice o2 n2 c2))
          have hF : w.heap.size + 2 ≤ w2.heap.size := hsw
          clear z0 y0 z1 y1 z2 y2 z3 y3 zlt ZB
          generalize ((((w3.setCell ⟨w2.heap.size, 0, none⟩ (.bool s1)).setCell ⟨w2.heap.size, 1, none⟩ (.slice o1 n1 c1)).setCell ⟨w2.heap.size, 2, none⟩ (.bool s2)).setCell ⟨w2.heap.size, 3, none⟩ (.slice o2 n2 c2)) = W4 at *
          generalize w2.heap.size = F at *
          clear N1 N2 hB1 hs3
          go_wp2_with fail
          go_loopw [7, 9] (fun o i wr => ∃ k : Nat, 1 ≤ k ∧ k ≤ n ∧ i = .int .i64 k ∧ o = .int .i64 ((nsI x p q (k - 1)) : Nat) ∧ FarIs wr F (uAt x p q (nsI x p q (k - 1))) (vAt x p q (nsI x p q (k - 1))) ∧ ArgsB w wr [[.int .i64 p, .int .i64 q], [.int .u64 0, .int .u64 0, .int .u64 0, .int .u64 0, .int .u64 0, .int .u64 0, .int .u64 0, .int .u64 0]]) (fun _ i _ => n - (intOf i).toNat)
          case atStart => exact ⟨1, by omega, by omega, rfl, rfl, FI, TA⟩
          case round =>
            clear FI TA
            obtain ⟨k, hk1, hk, rfl, rfl, FI, T0⟩ := hrel
            have HBw := T0.below
            by_cases hkn : k < n
            · obtain ⟨A', off', hao, hA, hcell⟩ := HS.out k hkn
              cases hao
              have e0 : ∀ o, wr.cell? ⟨A, o, none⟩ = w.cell? ⟨A, o, none⟩ := fun o => HBw.cell (p := ⟨A, o, none⟩) hA
              have q0 := (e0 _).trans (hcell 0 (by omega)); have q1 := (e0 _).trans (hcell 1 (by omega)); have q2 := (e0 _).trans (hcell 2 (by omega)); have q3 := (e0 _).trans (hcell 3 (by omega))
              simp only [Nat.add_zero] at q0
              have hkI : (k : Int) < n := by omega
              have hk0 : (0 : Int) ≤ k := by omega
              have hA' : A < wr.heap.size := Nat.lt_of_lt_of_le hA HBw.size
              have X0 : Blk _ w.heap.size _ := T0.b 0 rfl; have a0 := X0.c 0 rfl; have a1 := X0.c 1 rfl
              have KS : (fun w' => w'.cell? ⟨A, off + k * 4, none⟩ = some (.int .i64 (x (k * 4))) ∧ w'.cell? ⟨A, off + k * 4 + 1, none⟩ = some (.int .i64 (x (k * 4 + 1))) ∧ w'.cell? ⟨A, off + k * 4 + 2, none⟩ = some (.int .i64 (x (k * 4 + 2))) ∧ w'.cell? ⟨A, off + k * 4 + 3, none⟩ = some (.int .i64 (x (k * 4 + 3))) ∧ w'.cell? ⟨w.heap.size, 0, none⟩ = some (.int .i64 p) ∧ w'.cell? ⟨w.heap.size, 1, none⟩ = some (.int .i64 q)) wr := ⟨q0, q1, q2, q3, a0, a1⟩
              have HK : ∀ w', Below wr.heap.size wr w' → (fun w' => w'.cell? ⟨A, off + k * 4, none⟩ = some (.int .i64 (x (k * 4))) ∧ w'.cell? ⟨A, off + k * 4 + 1, none⟩ = some (.int .i64 (x (k * 4 + 1))) ∧ w'.cell? ⟨A, off + k * 4 + 2, none⟩ = some (.int .i64 (x (k * 4 + 2))) ∧ w'.cell? ⟨A, off + k * 4 + 3, none⟩ = some (.int .i64 (x (k * 4 + 3))) ∧ w'.cell? ⟨w.heap.size, 0, none⟩ = some (.int .i64 p) ∧ w'.cell? ⟨w.heap.size, 1, none⟩ = some (.int .i64 q)) w' := fun w' hB => ⟨(hB.cell (p := ⟨A, _, none⟩) hA').trans q0, (hB.cell (p := ⟨A, _, none⟩) hA').trans q1, (hB.cell (p := ⟨A, _, none⟩) hA').trans q2, (hB.cell (p := ⟨A, _, none⟩) hA').trans q3, (X0.step hB).c 0 rfl, (X0.step hB).c 1 rfl⟩
              have NB : ∀ w, Calls _ _ _ w (NumsP 8 (uAt x p q k) (vAt x p q k) w) := l4Near2_nums (a := x (k * 4)) (b := x (k * 4 + 1)) (c := x (k * 4 + 2)) (d := x (k * 4 + 3)) (x := p) (y := q) (HA.out k (by omega)) HP.out
              have HTT : Hid (ArgsB w wr [[.int .i64 p, .int .i64 q], [.int .u64 0, .int .u64 0, .int .u64 0, .int .u64 0, .int .u64 0, .int .u64 0, .int .u64 0, .int .u64 0]]) := T0
              have HFI : Hid (FarIs wr F (uAt x p q (nsI x p q (k - 1))) (vAt x p q (nsI x p q (k - 1)))) := FI
              have H0 : Below wr.heap.size wr wr := Below.refl _ _
              have hFr : F < wr.heap.size := by obtain ⟨_, _, _, _, _, _, _, _, _, _, G, _⟩ := FI; exact G.lt
              clear X0 a0 a1 hA hA' e0 hcell T0 HBw FI q0 q1 q2 q3
              go_upto_region 8 with fail
              go_region_held3 (fun w' => w'.cell? ⟨A, off + k * 4, none⟩ = some (.int .i64 (x (k * 4))) ∧ w'.cell? ⟨A, off + k * 4 + 1, none⟩ = some (.int .i64 (x (k * 4 + 1))) ∧ w'.cell? ⟨A, off + k * 4 + 2, none⟩ = some (.int .i64 (x (k * 4 + 2))) ∧ w'.cell? ⟨A, off + k * 4 + 3, none⟩ = some (.int .i64 (x (k * 4 + 3))) ∧ w'.cell? ⟨w.heap.size, 0, none⟩ = some (.int .i64 p) ∧ w'.cell? ⟨w.heap.size, 1, none⟩ = some (.int .i64 q)) (first | (exact KS) | (exact HK _ hB1) | (exact HK _ (H0.drew.alloc (Nat.le_refl _) _)) | (exact HK _ (H0.alloc (Nat.le_refl _) _).drew) | (exact HK _ (hB1.alloc hB1.size _)) | (exact HK _ ((((hB1.setCell (Nat.le_refl _) _).setCell (Nat.le_refl _) _).setCell (Nat.le_refl _) _).setCell (Nat.le_refl _) _)) | (exact HK _ (((((hB1.alloc hs3 _).setCell hs3 _).setCell hs3 _).setCell hs3 _).setCell hs3 _)))
                  (first
                    | (go_at_call 59; refine (NB _).mono ?_; rintro e w3 ⟨s1, o1, n1, c1, d1, s2, o2, n2, c2, d2, rfl, N1, N2, hB⟩
                       first
                         | (have hB1 : Below wr.heap.size wr w3 := H0.drew.trans (hB.mono H0.drew.size); have hs3 := hB1.size; clear hB)
                         | (have hB1 : Below wr.heap.size wr w3 := (H0.alloc (Nat.le_refl _) _).drew.trans (hB.mono (by simp))
                            have ZB : Blk w3 wr.heap.size [.bool false, .slice none 0 0, .bool false, .slice none 0 0] := (Blk.new wr [.bool false, .slice none 0 0, .bool false, .slice none 0 0] 100 rfl).drew.step hB
                            have z0 := ZB.c 0 rfl; have y0 := ZB.f 0 rfl; have z1 := ZB.c 1 rfl; have y1 := ZB.f 1 rfl; have z2 := ZB.c 2 rfl; have y2 := ZB.f 2 rfl; have z3 := ZB.c 3 rfl; have y3 := ZB.f 3 rfl; have zlt := ZB.lt
                            have hs3 := hB1.size; clear hB)))
              all_goals go_upto_region 9 with fail
              all_goals have hsr : w.heap.size + 2 ≤ wr.heap.size := by omega
              all_goals clear KS HK NB
              · have FD : FarIs _ w3.heap.size (uAt x p q k) (vAt x p q k) := far_new (T := 100) N1 N2
                have T5 : ArgsB w (w3.alloc (.cells #[.bool s1, .slice o1 n1 c1, .bool s2, .slice o2 n2 c2] 100)) [[.int .i64 p, .int .i64 q], [.int .u64 0, .int .u64 0, .int .u64 0, .int .u64 0, .int .u64 0, .int .u64 0, .int .u64 0, .int .u64 0]] := (HTT.out.step hB1).alloc _
                have FO := (HFI.out.step hB1).step ((Below.refl _ w3).alloc (Nat.le_refl _) (.cells #[.bool s1, .slice o1 n1 c1, .bool s2, .slice o2 n2 c2] 100))
                generalize (w3.alloc (.cells #[.bool s1, .slice o1 n1 c1, .bool s2, .slice o2 n2 c2] 100)) = W5 at *
                have hDF : F ≠ w3.heap.size := by omega
                generalize w3.heap.size = D at *
                clear N1 N2 hB1 HTT HFI H0
                obtain ⟨s1, o1, n1, c1, d1, s2, o2, n2, c2, d2, GD, M1, M2⟩ := FD
                obtain ⟨s3, o3, n3, c3, d3, s4, o4, n4, c4, d4, GF, M3, M4⟩ := FO
                have gd0 := GD.c 0 rfl; have gd1 := GD.c 1 rfl; have gd2 := GD.c 2 rfl; have gd3 := GD.c 3 rfl; have gdlt := GD.lt; have gf0 := GF.c 0 rfl; have gf1 := GF.c 1 rfl; have gf2 := GF.c 2 rfl; have gf3 := GF.c 3 rfl; have gflt := GF.lt
                go_wp2_with fail
                refine (l2Cmp_any s1 o1 n1 c1 d1 s2 o2 n2 c2 d2 s3 o3 n3 c3 d3 s4 o4 n4 c4 d4 _ _ _ _ _ M1 M2 M3 M4).mono ?_
                rintro e w6 ⟨rfl, hB⟩
                have hne : nearer x p q k (nsI x p q (k - 1)) = decide (cmpI (uAt x p q k * vAt x p q (nsI x p q (k - 1))) (uAt x p q (nsI x p q (k - 1)) * vAt x p q k) < 0) := rfl
                generalize cmpI (uAt x p q k * vAt x p q (nsI x p q (k - 1))) (uAt x p q (nsI x p q (k - 1)) * vAt x p q k) = o at *
                have GD6 := GD.step hB; have GF6 := GF.step hB; have K1 := M1.below hB; have K2 := M2.below hB; have K3 := M3.below hB; have K4 := M4.below hB; have T6 := T5.step hB
                clear GD GF M1 M2 M3 M4 T5 hB gd0 gd1 gd2 gd3 gdlt gf0 gf1 gf2 gf3 gflt
                by_cases ho : o < 0
                · have HI : Hid (nsI x p q k = k) := nsI_on' hk1 (by rw [hne]; exact decide_eq_true ho)
                  clear hne
                  have gd0 := GD6.c 0 rfl; have gd1 := GD6.c 1 rfl; have gd2 := GD6.c 2 rfl; have gd3 := GD6.c 3 rfl; have gdlt := GD6.lt; have gf0 := GF6.c 0 rfl; have gff0 := GF6.f 0 rfl; have gf1 := GF6.c 1 rfl; have gff1 := GF6.f 1 rfl; have gf2 := GF6.c 2 rfl; have gff2 := GF6.f 2 rfl; have gf3 := GF6.c 3 rfl; have gff3 := GF6.f 3 rfl; have gflt := GF6.lt
                  have FN : Hid (FarIs _ F (uAt x p q k) (vAt x p q k)) := far_put GF6 K1 K2
                  have TN : Hid (ArgsB w _ [[.int .i64 p, .int .i64 q], [.int .u64 0, .int .u64 0, .int .u64 0, .int .u64 0, .int .u64 0, .int .u64 0, .int .u64 0, .int .u64 0]]) := args_far T6 (((((Below.refl (w.heap.size + 2) w6).setCell (p := ⟨F, 0, none⟩) hF (.bool s1)).setCell (p := ⟨F, 1, none⟩) hF (.slice o1 n1 c1)).setCell (p := ⟨F, 2, none⟩) hF (.bool s2)).setCell (p := ⟨F, 3, none⟩) hF (.slice o2 n2 c2))
                  clear GD6 GF6 K1 K2 K3 K4 T6
                  go_wp2
                  go_roundw
                  case rel => exact ⟨k + 1, by omega, by omega, by go_num, by rw [Nat.add_sub_cancel, HI.out], by rw [Nat.add_sub_cancel, HI.out]; exact FN.out, TN.out⟩
                  case measure => simp [intOf]; omega
                · have HI : Hid (nsI x p q k = (nsI x p q (k - 1))) := nsI_off' hk1 (by rw [hne]; exact decide_eq_false ho)
                  clear hne
                  have FN : Hid (FarIs w6 F (uAt x p q (nsI x p q (k - 1))) (vAt x p q (nsI x p q (k - 1)))) := ⟨s3, o3, n3, c3, d3, s4, o4, n4, c4, d4, GF6, K3, K4⟩
                  have TN : Hid (ArgsB w w6 [[.int .i64 p, .int .i64 q], [.int .u64 0, .int .u64 0, .int .u64 0, .int .u64 0, .int .u64 0, .int .u64 0, .int .u64 0, .int .u64 0]]) := T6
                  clear GD6 GF6 K1 K2 K3 K4 T6
                  go_wp2
                  go_roundw
                  case rel => exact ⟨k + 1, by omega, by omega, by go_num, by rw [Nat.add_sub_cancel, HI.out], by rw [Nat.add_sub_cancel, HI.out]; exact FN.out, TN.out⟩
                  case measure => simp [intOf]; omega
          
              · have FD := far_put (X := uAt x p q k) (Y := vAt x p q k) ZB N1 N2
                have FO := (HFI.out.step hB1).put (v0 := .bool s1) (v1 := .slice o1 n1 c1) (v2 := .bool s2) (v3 := .slice o2 n2 c2) (by omega) ZB
                have T5 := args_far (HTT.out.step hB1) (((((Below.refl (w.heap.size + 2) w3).setCell (p := ⟨wr.heap.size, 0, none⟩) hsr (.bool s1)).setCell (p := ⟨wr.heap.size, 1, none⟩) hsr (.slice o1 n1 c1)).setCell (p := ⟨wr.heap.size, 2, none⟩) hsr (.bool s2)).setCell (p := ⟨wr.heap.size, 3, none⟩) hsr (.slice o2 n2 c2))
                clear z0 y0 z1 y1 z2 y2 z3 y3 zlt ZB
                generalize ((((w3.setCell ⟨wr.heap.size, 0, none⟩ (.bool s1)).setCell ⟨wr.heap.size, 1, none⟩ (.slice o1 n1 c1)).setCell ⟨wr.heap.size, 2, none⟩ (.bool s2)).setCell ⟨wr.heap.size, 3, none⟩ (.slice o2 n2 c2)) = W5 at *
                have hDF : F ≠ wr.heap.size := by omega
                generalize wr.heap.size = D at *
                clear N1 N2 hB1 HTT HFI H0
                obtain ⟨s1, o1, n1, c1, d1, s2, o2, n2, c2, d2, GD, M1, M2⟩ := FD
                obtain ⟨s3, o3, n3, c3, d3, s4, o4, n4, c4, d4, GF, M3, M4⟩ := FO
                have gd0 := GD.c 0 rfl; have gd1 := GD.c 1 rfl; have gd2 := GD.c 2 rfl; have gd3 := GD.c 3 rfl; have gdlt := GD.lt; have gf0 := GF.c 0 rfl; have gf1 := GF.c 1 rfl; have gf2 := GF.c 2 rfl; have gf3 := GF.c 3 rfl; have gflt := GF.lt
                go_wp2_with fail
                refine (l2Cmp_any s1 o1 n1 c1 d1 s2 o2 n2 c2 d2 s3 o3 n3 c3 d3 s4 o4 n4 c4 d4 _ _ _ _ _ M1 M2 M3 M4).mono ?_
                rintro e w6 ⟨rfl, hB⟩
                have hne : nearer x p q k (nsI x p q (k - 1)) = decide (cmpI (uAt x p q k * vAt x p q (nsI x p q (k - 1))) (uAt x p q (nsI x p q (k - 1)) * vAt x p q k) < 0) := rfl
                generalize cmpI (uAt x p q k * vAt x p q (nsI x p q (k - 1))) (uAt x p q (nsI x p q (k - 1)) * vAt x p q k) = o at *
                have GD6 := GD.step hB; have GF6 := GF.step hB; have K1 := M1.below hB; have K2 := M2.below hB; have K3 := M3.below hB; have K4 := M4.below hB; have T6 := T5.step hB
                clear GD GF M1 M2 M3 M4 T5 hB gd0 gd1 gd2 gd3 gdlt gf0 gf1 gf2 gf3 gflt
                by_cases ho : o < 0
                · have HI : Hid (nsI x p q k = k) := nsI_on' hk1 (by rw [hne]; exact decide_eq_true ho)
                  clear hne
                  have gd0 := GD6.c 0 rfl; have gd1 := GD6.c 1 rfl; have gd2 := GD6.c 2 rfl; have gd3 := GD6.c 3 rfl; have gdlt := GD6.lt; have gf0 := GF6.c 0 rfl; have gff0 := GF6.f 0 rfl; have gf1 := GF6.c 1 rfl; have gff1 := GF6.f 1 rfl; have gf2 := GF6.c 2 rfl; have gff2 := GF6.f 2 rfl; have gf3 := GF6.c 3 rfl; have gff3 := GF6.f 3 rfl; have gflt := GF6.lt
                  have FN : Hid (FarIs _ F (uAt x p q k) (vAt x p q k)) := far_put GF6 K1 K2
                  have TN : Hid (ArgsB w _ [[.int .i64 p, .int .i64 q], [.int .u64 0, .int .u64 0, .int .u64 0, .int .u64 0, .int .u64 0, .int .u64 0, .int .u64 0, .int .u64 0]]) := args_far T6 (((((Below.refl (w.heap.size + 2) w6).setCell (p := ⟨F, 0, none⟩) hF (.bool s1)).setCell (p := ⟨F, 1, none⟩) hF (.slice o1 n1 c1)).setCell (p := ⟨F, 2, none⟩) hF (.bool s2)).setCell (p := ⟨F, 3, none⟩) hF (.slice o2 n2 c2))
                  clear GD6 GF6 K1 K2 K3 K4 T6
                  go_wp2
                  go_roundw
                  case rel => exact ⟨k + 1, by omega, by omega, by go_num, by rw [Nat.add_sub_cancel, HI.out], by rw [Nat.add_sub_cancel, HI.out]; exact FN.out, TN.out⟩
                  case measure => simp [intOf]; omega
                · have HI : Hid (nsI x p q k = (nsI x p q (k - 1))) := nsI_off' hk1 (by rw [hne]; exact decide_eq_false ho)
                  clear hne
                  have FN : Hid (FarIs w6 F (uAt x p q (nsI x p q (k - 1))) (vAt x p q (nsI x p q (k - 1)))) := ⟨s3, o3, n3, c3, d3, s4, o4, n4, c4, d4, GF6, K3, K4⟩
                  have TN : Hid (ArgsB w w6 [[.int .i64 p, .int .i64 q], [.int .u64 0, .int .u64 0, .int .u64 0, .int .u64 0, .int .u64 0, .int .u64 0, .int .u64 0, .int .u64 0]]) := T6
                  clear GD6 GF6 K1 K2 K3 K4 T6
                  go_wp2
                  go_roundw
                  case rel => exact ⟨k + 1, by omega, by omega, by go_num, by rw [Nat.add_sub_cancel, HI.out], by rw [Nat.add_sub_cancel, HI.out]; exact FN.out, TN.out⟩
                  case measure => simp [intOf]; omega
          
            · obtain rfl : k = n := by omega
              obtain ⟨s3, o3, n3, c3, d3, s4, o4, n4, c4, d4, GF, M3, M4⟩ := FI
              have hi : (nsI x p q (k - 1)) < k := by have := nsI_le x p q (k - 1); omega
              obtain ⟨t1, t2, _, _⟩ := near_nums (HA.out _ hi) HP.out
              have R := l2Ratio_any s3 o3 n3 c3 d3 s4 o4 n4 c4 d4 _ _ 8 (by omega) wr M3 M4
              have hr : rtV (uAt x p q (nsI x p q (k - 1))) (vAt x p q (nsI x p q (k - 1))) = .tuple #[.agg #[.int .u64 (ww3 (uAt x p q (nsI x p q (k - 1)))), .int .u64 (ww2 (uAt x p q (nsI x p q (k - 1)))), .int .u64 (ww1 (uAt x p q (nsI x p q (k - 1)))), .int .u64 (ww0 (uAt x p q (nsI x p q (k - 1)))), .int .u64 (ww3 (vAt x p q (nsI x p q (k - 1)))), .int .u64 (ww2 (vAt x p q (nsI x p q (k - 1)))), .int .u64 (ww1 (vAt x p q (nsI x p q (k - 1)))), .int .u64 (ww0 (vAt x p q (nsI x p q (k - 1))))], .bool true] := by unfold rtV; rw [if_pos ⟨t1, t2⟩]
              rw [hr] at R
              have HV : Hid (nsV k x p q = .tuple #[.int .i64 ((nsI x p q (k - 1)) : Nat), .agg #[.int .u64 (ww3 (uAt x p q (nsI x p q (k - 1)))), .int .u64 (ww2 (uAt x p q (nsI x p q (k - 1)))), .int .u64 (ww1 (uAt x p q (nsI x p q (k - 1)))), .int .u64 (ww0 (uAt x p q (nsI x p q (k - 1)))), .int .u64 (ww3 (vAt x p q (nsI x p q (k - 1)))), .int .u64 (ww2 (vAt x p q (nsI x p q (k - 1)))), .int .u64 (ww1 (vAt x p q (nsI x p q (k - 1)))), .int .u64 (ww0 (vAt x p q (nsI x p q (k - 1))))], .bool true]) := by show _ = _; unfold nsV; rw [HO.out]; rfl
              clear hr t1 t2 M3 M4 HA HP HS HTT H0
              generalize ww3 (uAt x p q (nsI x p q (k - 1))) = z0 at *; generalize ww2 (uAt x p q (nsI x p q (k - 1))) = z1 at *; generalize ww1 (uAt x p q (nsI x p q (k - 1))) = z2 at *; generalize ww0 (uAt x p q (nsI x p q (k - 1))) = z3 at *; generalize ww3 (vAt x p q (nsI x p q (k - 1))) = z4 at *; generalize ww2 (vAt x p q (nsI x p q (k - 1))) = z5 at *; generalize ww1 (vAt x p q (nsI x p q (k - 1))) = z6 at *; generalize ww0 (vAt x p q (nsI x p q (k - 1))) = z7 at *
              have gf0 := GF.c 0 rfl; have gf1 := GF.c 1 rfl; have gf2 := GF.c 2 rfl; have gf3 := GF.c 3 rfl; have gflt := GF.lt
              clear GF
              go_wp2_with fail
              refine R.mono ?_
              rintro e w4 ⟨rfl, hB⟩
              replace T0 := T0.step hB
              clear hB R gf0 gf1 gf2 gf3 gflt HBw
              go_upto_region 13 with fail
              have XA : Blk (w4.alloc (.cells #[.int .u64 z0, .int .u64 z1, .int .u64 z2, .int .u64 z3, .int .u64 z4, .int .u64 z5, .int .u64 z6, .int .u64 z7] 50)) w4.heap.size [.int .u64 z0, .int .u64 z1, .int .u64 z2, .int .u64 z3, .int .u64 z4, .int .u64 z5, .int .u64 z6, .int .u64 z7] := Blk.new w4 _ _ rfl
              have hEn : w4.heap.size ≠ w.heap.size + 1 := by have := (T0.b 1 rfl).lt; omega
              replace T0 := T0.alloc (.cells #[.int .u64 z0, .int .u64 z1, .int .u64 z2, .int .u64 z3, .int .u64 z4, .int .u64 z5, .int .u64 z6, .int .u64 z7] 50)
              generalize (w4.alloc (.cells #[.int .u64 z0, .int .u64 z1, .int .u64 z2, .int .u64 z3, .int .u64 z4, .int .u64 z5, .int .u64 z6, .int .u64 z7] 50)) = W7 at *
              generalize w4.heap.size = E at *
              have GR : Blk W7 (w.heap.size + 1) [.int .u64 0, .int .u64 0, .int .u64 0, .int .u64 0, .int .u64 0, .int .u64 0, .int .u64 0, .int .u64 0] := T0.b 1 rfl
              have HB := T0.below
              clear T0
              refine nsEnd (k := (((nsI x p q (k - 1)) : Nat) : Int)) XA GR rfl rfl rfl rfl ?_
              rintro ⟨tm, df⟩ Wz hz hdf hoff x55 x56 x4 x6 GB FL
              simp only at hz hdf hoff x55 x56 x4 x6
              subst hdf
              have htm := tmps_fold [55, 56, 4, 6] tm _ hz hoff
              simp only [List.foldl, List.setIfInBounds_toArray, List.set_cons_zero, List.set_cons_succ, x55, x56, x4, x6] at htm
              clear hz hoff x55 x56 x4 x6 XA GR
              subst htm
              have HBF := FL w.heap.size w (by omega) HB
              clear FL HB
              go_wp2
              have g0 := GB.c 0 rfl; have g1 := GB.c 1 rfl; have g2 := GB.c 2 rfl; have g3 := GB.c 3 rfl; have g4 := GB.c 4 rfl; have g5 := GB.c 5 rfl; have g6 := GB.c 6 rfl; have g7 := GB.c 7 rfl
              refine bodyPost_ret (v := .tuple #[.int .i64 ((nsI x p q (k - 1)) : Nat), .agg #[.int .u64 z0, .int .u64 z1, .int .u64 z2, .int .u64 z3, .int .u64 z4, .int .u64 z5, .int .u64 z6, .int .u64 z7], .bool true]) (by simp [results, Try.results23, go_sem, g0, g1, g2, g3, g4, g5, g6, g7]) rfl ?_
              exact ⟨by rw [HV.out], HBF⟩
  · have HO : Hid (nsOk n x p q = false) := by show _ = _; unfold nsOk; rw [decide_eq_false hsg]; rfl
    rw [decide_eq_false hsg]
    clear hsg
    have o0 := (T0.b 1 rfl).c 0 rfl; have r0 := (T0.b 1 rfl).f 0 rfl; have o1 := (T0.b 1 rfl).c 1 rfl; have r1 := (T0.b 1 rfl).f 1 rfl; have o2 := (T0.b 1 rfl).c 2 rfl; have r2 := (T0.b 1 rfl).f 2 rfl; have o3 := (T0.b 1 rfl).c 3 rfl; have r3 := (T0.b 1 rfl).f 3 rfl; have o4 := (T0.b 1 rfl).c 4 rfl; have r4 := (T0.b 1 rfl).f 4 rfl; have o5 := (T0.b 1 rfl).c 5 rfl; have r5 := (T0.b 1 rfl).f 5 rfl; have o6 := (T0.b 1 rfl).c 6 rfl; have r6 := (T0.b 1 rfl).f 6 rfl; have o7 := (T0.b 1 rfl).c 7 rfl; have r7 := (T0.b 1 rfl).f 7 rfl; have olt := (T0.b 1 rfl).lt
    have HB := T0.below
    clear T0
    go_wp2
    refine bodyPost_ret (v := .tuple #[.int .i64 0, .agg #[.int .u64 0, .int .u64 0, .int .u64 0, .int .u64 0, .int .u64 0, .int .u64 0, .int .u64 0, .int .u64 0], .bool false]) (by simp [results, Try.results23, go_sem, o0, o1, o2, o3, o4, o5, o6, o7]) rfl ?_
    refine ⟨by unfold nsV; rw [HO.out]; rfl, ?_⟩
    repeat' (refine Below.setCell ?_ (by simp; try omega) _)
    exact HB
end Go.Proofs.Ytmjlgmoohpnhfaa

/- The nearest of a row of segments: the law over both sides. -/
namespace Go.Proofs.Ytmjlgmoohpnhfaa
open Go.RowKit
theorem rt_args (a3 a2 a1 a0 b3 b2 b1 b0 c3 c2 c1 c0 d3 d2 d1 d0 : Int) (T : TypeId) (w : World) : ArgsB w ((w.alloc (.cells #[.int .u64 a3, .int .u64 a2, .int .u64 a1, .int .u64 a0, .int .u64 b3, .int .u64 b2, .int .u64 b1, .int .u64 b0] T)).alloc (.cells #[.int .u64 c3, .int .u64 c2, .int .u64 c1, .int .u64 c0, .int .u64 d3, .int .u64 d2, .int .u64 d1, .int .u64 d0] T)) [[.int .u64 a3, .int .u64 a2, .int .u64 a1, .int .u64 a0, .int .u64 b3, .int .u64 b2, .int .u64 b1, .int .u64 b0], [.int .u64 c3, .int .u64 c2, .int .u64 c1, .int .u64 c0, .int .u64 d3, .int .u64 d2, .int .u64 d1, .int .u64 d0]] := by
  refine ⟨((Below.refl _ _).alloc (Nat.le_refl _) _).alloc (by simp) _, fun j vs hj => ?_⟩
  match j, hj with
  | 0, hj => cases hj; exact (Blk.new w [.int .u64 a3, .int .u64 a2, .int .u64 a1, .int .u64 a0, .int .u64 b3, .int .u64 b2, .int .u64 b1, .int .u64 b0] T rfl).alloc _
  | 1, hj => cases hj; exact Blk.new (w.alloc (.cells #[.int .u64 a3, .int .u64 a2, .int .u64 a1, .int .u64 a0, .int .u64 b3, .int .u64 b2, .int .u64 b1, .int .u64 b0] T)) [.int .u64 c3, .int .u64 c2, .int .u64 c1, .int .u64 c0, .int .u64 d3, .int .u64 d2, .int .u64 d1, .int .u64 d0] T (by simp)
  | j + 2, hj => simp at hj
set_option maxRecDepth 100000 in
set_option maxHeartbeats 1000000 in
theorem eqRatio_t (a3 a2 a1 a0 b3 b2 b1 b0 : Int) (w : World) : Calls Try.prog 27 #[Rt a3 a2 a1 a0 b3 b2 b1 b0, Rt a3 a2 a1 a0 b3 b2 b1 b0] w (BoolP true w) := by
  have T0 := rt_args a3 a2 a1 a0 b3 b2 b1 b0 a3 a2 a1 a0 b3 b2 b1 b0 50 w
  go_enter Try.func27, Try.ntmps27
  go_upto_region 1 with fail
  generalize ((w.alloc (.cells #[.int .u64 a3, .int .u64 a2, .int .u64 a1, .int .u64 a0, .int .u64 b3, .int .u64 b2, .int .u64 b1, .int .u64 b0] 50)).alloc (.cells #[.int .u64 a3, .int .u64 a2, .int .u64 a1, .int .u64 a0, .int .u64 b3, .int .u64 b2, .int .u64 b1, .int .u64 b0] 50)) = W at *
  have x0c := (T0.b 0 rfl).c 0 rfl; have x1c := (T0.b 0 rfl).c 1 rfl; have x2c := (T0.b 0 rfl).c 2 rfl; have x3c := (T0.b 0 rfl).c 3 rfl; have x4c := (T0.b 0 rfl).c 4 rfl; have x5c := (T0.b 0 rfl).c 5 rfl; have x6c := (T0.b 0 rfl).c 6 rfl; have x7c := (T0.b 0 rfl).c 7 rfl
  have y0c := (T0.b 1 rfl).c 0 rfl; have y1c := (T0.b 1 rfl).c 1 rfl; have y2c := (T0.b 1 rfl).c 2 rfl; have y3c := (T0.b 1 rfl).c 3 rfl; have y4c := (T0.b 1 rfl).c 4 rfl; have y5c := (T0.b 1 rfl).c 5 rfl; have y6c := (T0.b 1 rfl).c 6 rfl; have y7c := (T0.b 1 rfl).c 7 rfl
  simp only [Nat.add_zero] at x0c x1c x2c x3c x4c x5c x6c x7c
  go_wp2_with fail
  refine (eqWide_same _ _ _ _ _).mono ?_
  rintro e w1 ⟨rfl, hB⟩
  replace T0 := T0.step hB
  clear hB x0c x1c x2c x3c x4c x5c x6c x7c y0c y1c y2c y3c y4c y5c y6c y7c
  have x0c := (T0.b 0 rfl).c 0 rfl; have x1c := (T0.b 0 rfl).c 1 rfl; have x2c := (T0.b 0 rfl).c 2 rfl; have x3c := (T0.b 0 rfl).c 3 rfl; have x4c := (T0.b 0 rfl).c 4 rfl; have x5c := (T0.b 0 rfl).c 5 rfl; have x6c := (T0.b 0 rfl).c 6 rfl; have x7c := (T0.b 0 rfl).c 7 rfl
  have y0c := (T0.b 1 rfl).c 0 rfl; have y1c := (T0.b 1 rfl).c 1 rfl; have y2c := (T0.b 1 rfl).c 2 rfl; have y3c := (T0.b 1 rfl).c 3 rfl; have y4c := (T0.b 1 rfl).c 4 rfl; have y5c := (T0.b 1 rfl).c 5 rfl; have y6c := (T0.b 1 rfl).c 6 rfl; have y7c := (T0.b 1 rfl).c 7 rfl
  simp only [Nat.add_zero] at x0c x1c x2c x3c x4c x5c x6c x7c
  go_wp2_with fail
  refine (eqWide_same _ _ _ _ _).mono ?_
  rintro e w2 ⟨rfl, hB⟩
  replace T0 := T0.step hB
  clear hB x0c x1c x2c x3c x4c x5c x6c x7c y0c y1c y2c y3c y4c y5c y6c y7c
  have HB := T0.below
  clear T0
  go_wp2
  go_ret
  exact ⟨rfl, HB⟩
theorem nsV_form (n : Nat) (x : Nat → Int) (p q : Int) : ∃ k y0 y1 y2 y3 y4 y5 y6 y7 f, nsV n x p q = .tuple #[.int .i64 k, .agg #[.int .u64 y0, .int .u64 y1, .int .u64 y2, .int .u64 y3, .int .u64 y4, .int .u64 y5, .int .u64 y6, .int .u64 y7], .bool f] := by
  unfold nsV
  split
  · exact ⟨_, _, _, _, _, _, _, _, _, _, rfl⟩
  · exact ⟨_, _, _, _, _, _, _, _, _, _, rfl⟩
set_option maxRecDepth 100000 in
set_option maxHeartbeats 8000000 in
theorem lawNearest_any (ao : Option Addr) (n cap : Nat) (x : Nat → Int) (p q : Int) (hn : n ≤ 9223372036854775807) (w : World) (hS : n ≤ 1048576 → SegIn w ao n x) : Calls Try.prog 6 #[.slice ao n cap, Sp p q] w (BoolP true w) := by
  have SZ := szSegS_any ao n cap hn
  have HB : Below w.heap.size w (w.alloc (.cells #[.int .i64 p, .int .i64 q] 44)) := (Below.refl _ _).alloc (Nat.le_refl _) _
  have XP := Blk.new w [.int .i64 p, .int .i64 q] 44 rfl
  rw [show ([.int .i64 p, .int .i64 q] : List Value).toArray = #[.int .i64 p, .int .i64 q] from rfl] at XP
  go_enter Try.func6, Try.ntmps6
  by_cases hs : n ≤ 1048576
  · rw [if_pos hs] at SZ
    have HS := hS hs
    have hsI : (n : Int) ≤ 1048576 := by omega
    have T1 := fun w => toSegS_any ao n cap x hs w
    clear hS
    go_wp2_with fail
    generalize (w.alloc (.cells #[.int .i64 p, .int .i64 q] 44)) = W at *
    refine (SZ _).mono ?_
    rintro e w1 ⟨rfl, hB⟩
    replace HB := HB.trans (hB.mono HB.size)
    replace XP := XP.step hB
    replace HS := HS.step HB
    clear hB SZ
    obtain ⟨k, y0, y1, y2, y3, y4, y5, y6, y7, f, hv⟩ := nsV_form n x p q
    go_upto_region 5 with fail
    refine nsL (B4 := w1.heap.size) (A3 := w.heap.size) (ao := ao) (n := n) (cap := cap) (x := x) (p := p) (q := q) (k := k) (y0 := y0) (y1 := y1) (y2 := y2) (y3 := y3) (y4 := y4) (y5 := y5) (y6 := y6) (y7 := y7) (f := f) rfl HS T1 (fun w => toSpot_any p q w) (fun g w h => by have := specNearest_any (some ⟨g, 0, none⟩) n n x p q w h; rw [hv] at this; exact this) rfl rfl (XP.c 0 rfl) XP.lt (XP.c 1 rfl) XP.lt rfl ?_
    rintro ⟨tm, df⟩ W5 hz hdf hoff h6 h11 h8 hBz ⟨gz, h7, hgz, GZ⟩
    simp only at hz hdf hoff
    change tm.getD 6 undef = .int .i64 k at h6
    change tm.getD 8 undef = .bool f at h8
    change tm.getD 7 undef = .pointer (some ⟨gz, 0, none⟩) at h7
    subst hdf
    have htm := tmps_fold [19, 20, 21, 22, 23, 18, 24, 25, 26, 7, 6, 8] tm _ hz hoff
    simp only [List.foldl, List.setIfInBounds_toArray, List.set_cons_zero, List.set_cons_succ, h6, h7, h8] at htm
    clear hz hoff
    generalize tm.getD 19 undef = s0, tm.getD 20 undef = s1, tm.getD 21 undef = s2, tm.getD 22 undef = s3, tm.getD 23 undef = s4, tm.getD 18 undef = s5, tm.getD 24 undef = s6, tm.getD 25 undef = s7, tm.getD 26 undef = s8 at htm
    clear h6 h7 h8
    subst htm
    replace HB := HB.trans (hBz.mono HB.size)
    replace XP := XP.step hBz
    replace HS := HS.step hBz
    clear hBz h11 hgz
    go_wp2_with fail
    refine (T1 _ HS).mono ?_
    rintro e w2 ⟨g2, rfl, R2, hB⟩
    replace HB := HB.trans (hB.mono HB.size)
    replace XP := XP.step hB
    replace HS := HS.step hB
    replace GZ := GZ.step hB
    clear hB
    obtain ⟨p0, p1⟩ := XP.cs2
    go_wp2_with fail
    clear p0 p1
    refine (toSpot_any p q _).mono ?_
    rintro e w3 ⟨rfl, hB⟩
    replace HB := HB.trans (hB.mono HB.size)
    replace HS := HS.step hB
    replace GZ := GZ.step hB
    replace R2 := row_step R2 hB
    clear hB XP
    have CI := implNearest_any (some ⟨g2, 0, none⟩) n n x p q _ (segIn_row R2)
    rw [hv] at CI
    clear hv
    go_wp2_with fail
    refine CI.mono ?_
    rintro e w4 ⟨rfl, hB⟩
    replace HB := HB.trans (hB.mono HB.size)
    replace HS := HS.step hB
    replace GZ := GZ.step hB
    replace R2 := row_step R2 hB
    clear hB
    have X11 := Blk.new w4 [.int .u64 y0, .int .u64 y1, .int .u64 y2, .int .u64 y3, .int .u64 y4, .int .u64 y5, .int .u64 y6, .int .u64 y7] 50 rfl
    rw [show ([.int .u64 y0, .int .u64 y1, .int .u64 y2, .int .u64 y3, .int .u64 y4, .int .u64 y5, .int .u64 y6, .int .u64 y7] : List Value).toArray = #[.int .u64 y0, .int .u64 y1, .int .u64 y2, .int .u64 y3, .int .u64 y4, .int .u64 y5, .int .u64 y6, .int .u64 y7] from rfl] at X11
    have ha := (Below.refl w4.heap.size w4).alloc (Nat.le_refl _) (.cells #[.int .u64 y0, .int .u64 y1, .int .u64 y2, .int .u64 y3, .int .u64 y4, .int .u64 y5, .int .u64 y6, .int .u64 y7] 50)
    replace HB := HB.alloc HB.size (.cells #[.int .u64 y0, .int .u64 y1, .int .u64 y2, .int .u64 y3, .int .u64 y4, .int .u64 y5, .int .u64 y6, .int .u64 y7] 50)
    replace HS := HS.step ha
    replace GZ := GZ.alloc (.cells #[.int .u64 y0, .int .u64 y1, .int .u64 y2, .int .u64 y3, .int .u64 y4, .int .u64 y5, .int .u64 y6, .int .u64 y7] 50)
    replace R2 := row_step R2 ha
    clear ha
    obtain ⟨c0, c1, c2, c3, c4, c5, c6, c7⟩ := X11.cs8
    obtain ⟨d0, d1, d2, d3, d4, d5, d6, d7⟩ := GZ.cs8
    have kk : (k != k) = false := by simp
    have ff : (f != f) = false := by simp
    go_wp2_with fail
    clear c0 c1 c2 c3 c4 c5 c6 c7 d0 d1 d2 d3 d4 d5 d6 d7 X11 GZ
    generalize (w4.alloc (.cells #[.int .u64 y0, .int .u64 y1, .int .u64 y2, .int .u64 y3, .int .u64 y4, .int .u64 y5, .int .u64 y6, .int .u64 y7] 50)) = W4 at *
    refine (eqRatio_t y0 y1 y2 y3 y4 y5 y6 y7 _).mono ?_
    rintro e w5 ⟨rfl, hB⟩
    replace HB := HB.trans (hB.mono HB.size)
    replace HS := HS.step hB
    replace R2 := row_step R2 hB
    clear hB
    go_wp2_with fail
    refine (T1 _ HS).mono ?_
    rintro e w6 ⟨g3, rfl, R3, hB⟩
    replace HB := HB.trans (hB.mono HB.size)
    replace R2 := row_step R2 hB
    clear hB HS
    go_wp2_with fail
    refine (eqSegS_any _ _ n n n x hs _ (segIn_row R2) (segIn_row R3)).mono ?_
    rintro e w7 ⟨rfl, hB⟩
    replace HB := HB.trans (hB.mono HB.size)
    clear hB R2 R3
    go_wp2
    go_ret
    exact ⟨rfl, HB⟩
  · rw [if_neg hs] at SZ
    clear hS
    go_wp2_with fail
    generalize (w.alloc (.cells #[.int .i64 p, .int .i64 q] 44)) = W at *
    refine (SZ _).mono ?_
    rintro e w1 ⟨rfl, hB⟩
    replace HB := HB.trans (hB.mono HB.size)
    clear hB SZ XP
    go_wp2
    go_ret
    exact ⟨rfl, HB⟩
end Go.Proofs.Ytmjlgmoohpnhfaa

/- How spots and segments read as data, beside points: opened and shut. -/
namespace Go.Proofs.Ytmjlgmoohpnhfaa
open Go.ChangeShapes Go.WideShapes Go.ChangeAt Go.RowKit Go.Joins
theorem Try.cellsSpot : Try.prog.cellsOf 44 = 2 := by kernel_rfl
theorem Try.cellsSeg : Try.prog.cellsOf 109 = 4 := by kernel_rfl
abbrev Wf (x : Int) : Prop := (Lit.int .i64 x).wf = true
abbrev SpD {H : Type} (x y : Int) : DataW H := .agg [.lit (.int .i64 x), .lit (.int .i64 y)]
set_option maxRecDepth 100000 in
theorem open_spot {H : Type} {enc : TypeId × Value → H} {w : World} {b0 : Nat} {v : Value} {d : DataW H} {p : List MemPlace} (hv : Value.okWide Try.prog w .any b0 44 v) (h : DataW.Trod enc Try.prog w 0 (fun _ => true) true 44 v d p) :
    ∃ x y : Int, v = .agg #[.int .i64 x, .int .i64 y] ∧ d = SpD x y ∧ p = [] ∧ Wf x ∧ Wf y := by
  obtain ⟨c0, c1, y0, y1, m, rfl, rfl, rfl, hy0, hy1⟩ := open_agg2 Try.underlying44 (by kernel_rfl) Try.cellsSpot hv h
  obtain ⟨a, e0, rfl, wa⟩ := DataW.trod_int Try.underlying2 hy0
  obtain ⟨b, e1, rfl, wb⟩ := DataW.trod_int Try.underlying2 hy1
  simp at e0 e1
  subst e0 e1
  exact ⟨a, b, rfl, rfl, rfl, wa, wb⟩
theorem shut_spot {H : Type} {enc : TypeId × Value → H} {w : World} {base : Nat} {spare : TypeId → Bool} {held : Bool} {x y : Int} (wx : Wf x) (wy : Wf y) :
    DataW.Trod enc Try.prog w base spare held 44 (.agg #[.int .i64 x, .int .i64 y]) (SpD x y) [] :=
  shut_agg2 (y0 := (.lit (.int .i64 x), [])) (y1 := (.lit (.int .i64 y), [])) Try.underlying44 (by kernel_rfl) Try.cellsSpot
    ⟨1, by simp [DataW.trod, Try.underlying2, wx]⟩ ⟨1, by simp [DataW.trod, Try.underlying2, wy]⟩
theorem trod_spot {H : Type} {enc : TypeId × Value → H} {w : World} {base : Nat} {spare : TypeId → Bool} {held : Bool} {n : Nat} {c0 c1 : Value} {y : DataW H × List MemPlace} (h : DataW.trod enc Try.prog w base spare held n 44 [c0, c1] = some y) :
    ∃ a b : Int, c0 = .int .i64 a ∧ c1 = .int .i64 b ∧ y = (SpD a b, []) ∧ Wf a ∧ Wf b := by
  obtain ⟨y0, y1, m, hx, _, h0, h1⟩ := trod_struct2 Try.underlying44 h
  obtain ⟨a, e0, rfl, wa⟩ := DataW.trod_int Try.underlying2 h0
  obtain ⟨b, e1, rfl, wb⟩ := DataW.trod_int Try.underlying2 h1
  have k : Try.prog.cellsOf 2 = 1 := by kernel_rfl
  simp [k] at e0 e1
  exact ⟨a, b, e0, e1, hx, wa, wb⟩
end Go.Proofs.Ytmjlgmoohpnhfaa

/- How a row of segments reads as data. -/
namespace Go.Proofs.Ytmjlgmoohpnhfaa
open Go.ChangeShapes Go.WideShapes Go.ChangeAt Go.RowKit Go.Joins
theorem Try.laidOut : laidOutB Try.prog = true := by kernel_rfl
/-- The numbers of a row of segments, one behind the other. -/
def flat4 (q : Nat → Int × Int × Int × Int) (k : Nat) : Int := if k % 4 = 0 then (q (k / 4)).1 else if k % 4 = 1 then (q (k / 4)).2.1 else if k % 4 = 2 then (q (k / 4)).2.2.1 else (q (k / 4)).2.2.2
theorem segs_of {H : Type} {enc : TypeId × Value → H} {W : World} {a : Addr} {len m n : Nat} {D : Nat → DataW H} {Pl : Nat → List MemPlace} (hl : len ≤ m)
    (hx : ∀ i, i < m → ∃ cs', W.cells? 0 (a.add (i * Try.prog.cellsOf 109)) (Try.prog.cellsOf 109) = some cs' ∧ DataW.trod enc Try.prog W 0 (fun _ => true) true n 109 cs' = some (D i, Pl i))
    (hlt : ∀ x ∈ MemPlace.row a (m * Try.prog.cellsOf 109), x.block < W.heap.size) : ∃ x : Nat → Int, SegIn W (some a) len x := by
  rw [Try.cellsSeg] at hx hlt
  have each : ∀ i, i < m → ∃ q : Int × Int × Int × Int, W.cell? (a.add (i * 4)) = some (.int .i64 q.1) ∧ W.cell? (a.add (i * 4 + 1)) = some (.int .i64 q.2.1) ∧ W.cell? (a.add (i * 4 + 2)) = some (.int .i64 q.2.2.1) ∧ W.cell? (a.add (i * 4 + 3)) = some (.int .i64 q.2.2.2) := by
    intro i hi
    obtain ⟨cs', h1, h2⟩ := hx i hi
    obtain ⟨_, hlen, hcell⟩ := World.cells?_some h1
    match cs', hlen with
    | [v0, v1, v2, v3], _ =>
      have e0 := hcell 0 (by omega); have e1 := hcell 1 (by omega); have e2 := hcell 2 (by omega); have e3 := hcell 3 (by omega)
      rw [Go.Deep.add_add] at e0 e1 e2 e3
      obtain ⟨y0, y1, k, hy, _, g0, g1⟩ := trod_struct2 Try.underlying109 h2
      simp [Try.cellsSpot] at g0 g1
      obtain ⟨p, q, rfl, rfl, -, -, -⟩ := trod_spot g0
      obtain ⟨r, s, rfl, rfl, -, -, -⟩ := trod_spot g1
      exact ⟨(p, q, r, s), by simpa using e0, by simpa using e1, by simpa using e2, by simpa using e3⟩
  obtain ⟨q, hq⟩ := Go.Deep.choose_lt each
  obtain ⟨ab, ao, spot⟩ := a
  refine ⟨flat4 q, fun i hi => ?_⟩
  have hspot : spot = none := by simpa [Addr.add] using World.cell?_spot (hq 0 (by omega)).1
  subst hspot
  obtain ⟨c0, c1, c2, c3⟩ := hq i (by omega)
  rw [Addr.add_lit] at c0 c1 c2 c3
  refine ⟨ab, ao, rfl, hlt (.cell ab (ao + i * 4)) (by simp only [MemPlace.row, List.mem_map, List.mem_range]; exact ⟨i * 4, by omega, rfl⟩), fun j hj => ?_⟩
  unfold flat4
  have hd : (i * 4 + j) / 4 = i := by omega
  have hm : (i * 4 + j) % 4 = j := by omega
  rw [hd, hm]
  rcases (show j = 0 ∨ j = 1 ∨ j = 2 ∨ j = 3 by omega) with rfl | rfl | rfl | rfl
  · simpa using c0
  · simpa [Nat.add_assoc] using c1
  · simpa [Nat.add_assoc] using c2
  · simpa [Nat.add_assoc] using c3
end Go.Proofs.Ytmjlgmoohpnhfaa

/- What the row of a law asks of the program as a whole, each by itself. -/
namespace Go.Proofs.Ytmjlgmoohpnhfaa
open Go.ChangeShapes Go.WideShapes Go.ChangeAt Go.RowKit Go.Joins
theorem jn_laid : laidOutB Try.pinned.checked.prog = true := by kernel_rfl
theorem jn_maps : mapsRowed Try.pinned.checked.prog = true := by kernel_rfl
theorem jn_enter : Try.pinned.checked.prog.mayEnter = true := by kernel_rfl
theorem jn_heard : Try.pinned.checked.prog.stopsHeard = true := by kernel_rfl
end Go.Proofs.Ytmjlgmoohpnhfaa
