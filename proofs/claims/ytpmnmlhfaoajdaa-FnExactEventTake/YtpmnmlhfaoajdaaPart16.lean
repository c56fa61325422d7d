/- Part 16 of the walks that the proof leans on. -/
import Derived.Test.YtpmnmlhfaoajdaaPart15
import Derived.Test.YtpmnmlhfaoajdaaRows
import Derived.ProofKit
import Derived.Lib.SmallJoins
/- The first event taken off: the law. -/
namespace Go.Proofs.Ytpmnmlhfaoajdaa
open Go.RowKit
set_option maxRecDepth 100000 in
set_option maxHeartbeats 4000000 in
theorem markEv1_any (x y z : Int) (so : Option Addr) (m sc b t K : Nat) (e : Nat → Int) (hm : m ≤ 1048576) (hK : K ≤ 1152921504606846976) (w : World) (hb : b ≤ w.heap.size) (hO : NoRow w b t (.slice so m sc) m e) : Calls Try.prog 24 #[.agg #[.int .u64 (ww3 x), .int .u64 (ww2 x), .int .u64 (ww1 x), .int .u64 (ww0 x), .int .u64 (ww3 y), .int .u64 (ww2 y), .int .u64 (ww1 y), .int .u64 (ww0 y), .int .u64 (ww3 z), .int .u64 (ww2 z), .int .u64 (ww1 z), .int .u64 (ww0 z), .slice so m sc], .int .i64 (K : Int)] w (fun r w' => r = .returned (.int .i64 ((K : Int) + (m : Int))) ∧ NoRow w' b t (.slice so m sc) m (fun i => (K : Int) + (i : Int)) ∧ OutV (.slice so m sc) b w w') := by
  have HB : Below w.heap.size w (w.alloc (.cells #[.int .u64 (ww3 x), .int .u64 (ww2 x), .int .u64 (ww1 x), .int .u64 (ww0 x), .int .u64 (ww3 y), .int .u64 (ww2 y), .int .u64 (ww1 y), .int .u64 (ww0 y), .int .u64 (ww3 z), .int .u64 (ww2 z), .int .u64 (ww1 z), .int .u64 (ww0 z), .slice so m sc] 44)) := (Below.refl _ w).alloc (Nat.le_refl _) _
  have C := markNoK_any so m sc b t K e hm hK (w.alloc (.cells #[.int .u64 (ww3 x), .int .u64 (ww2 x), .int .u64 (ww1 x), .int .u64 (ww0 x), .int .u64 (ww3 y), .int .u64 (ww2 y), .int .u64 (ww1 y), .int .u64 (ww0 y), .int .u64 (ww3 z), .int .u64 (ww2 z), .int .u64 (ww1 z), .int .u64 (ww0 z), .slice so m sc] 44)) (hO.step HB)
  have hKI : (K : Int) ≤ 1152921504606846976 := by omega
  have hmI : (m : Int) ≤ 1048576 := by omega
  go_enter Try.func24, Try.ntmps24
  go_wp2_with fail
  refine C.mono ?_
  rintro r w1 ⟨rfl, hN, hV⟩
  clear C
  go_wp2
  go_ret
  exact ⟨rfl, hN, (HB.mono hb).trans hV.1, fun k hk hs => (hV.2 k hk (Nat.lt_of_lt_of_le hs HB.size)).trans (HB.block k hs)⟩
set_option maxRecDepth 100000 in
set_option maxHeartbeats 4000000 in
theorem heldEv1_any (x y z : Int) (so : Option Addr) (m sc K : Nat) (hm : m ≤ 1048576) (hK : K ≤ 1152921504606846976) (w : World) (hI : NoIn w so m (fun i => (K : Int) + (i : Int))) : Calls Try.prog 25 #[.agg #[.int .u64 (ww3 x), .int .u64 (ww2 x), .int .u64 (ww1 x), .int .u64 (ww0 x), .int .u64 (ww3 y), .int .u64 (ww2 y), .int .u64 (ww1 y), .int .u64 (ww0 y), .int .u64 (ww3 z), .int .u64 (ww2 z), .int .u64 (ww1 z), .int .u64 (ww0 z), .slice so m sc], .int .i64 (K : Int)] w (VP (.int .i64 ((K : Int) + (m : Int))) w) := by
  have HB : Below w.heap.size w (w.alloc (.cells #[.int .u64 (ww3 x), .int .u64 (ww2 x), .int .u64 (ww1 x), .int .u64 (ww0 x), .int .u64 (ww3 y), .int .u64 (ww2 y), .int .u64 (ww1 y), .int .u64 (ww0 y), .int .u64 (ww3 z), .int .u64 (ww2 z), .int .u64 (ww1 z), .int .u64 (ww0 z), .slice so m sc] 44)) := (Below.refl _ w).alloc (Nat.le_refl _) _
  have C := heldNoK_any so m sc K hm hK (w.alloc (.cells #[.int .u64 (ww3 x), .int .u64 (ww2 x), .int .u64 (ww1 x), .int .u64 (ww0 x), .int .u64 (ww3 y), .int .u64 (ww2 y), .int .u64 (ww1 y), .int .u64 (ww0 y), .int .u64 (ww3 z), .int .u64 (ww2 z), .int .u64 (ww1 z), .int .u64 (ww0 z), .slice so m sc] 44)) (hI.step HB)
  have hKI : (K : Int) ≤ 1152921504606846976 := by omega
  have hmI : (m : Int) ≤ 1048576 := by omega
  go_enter Try.func25, Try.ntmps25
  go_wp2_with fail
  refine C.mono ?_
  rintro r w1 ⟨rfl, hB⟩
  have HB2 := HB.trans (hB.mono HB.size)
  clear C hB
  go_wp2
  go_ret
  exact ⟨rfl, HB2⟩
theorem tkN_lt {b : Bool} {n i : Nat} (h : i < tkN b n) : i + 1 < n := by
  unfold tkN at h
  split at h <;> omega
theorem tkM_le {n : Nat} {q : Nat → Int × Int × Int} {L : Nat → Nat} {E : Nat → Nat → Int} (hL : ∀ i, i < n → L i ≤ 1048576) : tkM (tkB n q L E) L ≤ 1048576 := by
  unfold tkM
  split
  · rename_i h
    unfold tkB at h
    simp only [Bool.and_eq_true, decide_eq_true_eq] at h
    exact hL 0 h.2
  · omega
theorem Blk.heapB {W W2 : World} {g : Nat} {vs : List Value} (h : Blk W g vs) (hh : W2.heap[g]? = W.heap[g]?) (hs : W.heap.size ≤ W2.heap.size) : Blk W2 g vs :=
  ⟨Nat.lt_of_lt_of_le h.lt hs, fun i _ hi => ⟨(World.cell?_of_block (w := W) (a := ⟨g, i, none⟩) hh).trans (h.c i hi), (World.frozen?_of_block (w := W) (a := ⟨g, i, none⟩) hh).trans (h.f i hi)⟩⟩
set_option maxRecDepth 100000 in
set_option maxHeartbeats 16000000 in
theorem lawTake_any (ao : Option Addr) (n cap : Nat) (q : Nat → Int × Int × Int) (S : Nat → Option Addr × Nat) (L : Nat → Nat) (E : Nat → Nat → Int) (hn : n ≤ 9223372036854775807) (hL : ∀ i, i < n → L i ≤ 9223372036854775807) (hT : ∀ i, i < n → told (q i).1 = true ∧ told (q i).2.1 = true ∧ told (q i).2.2 = true) (w : World) (hS : EvIn w ao n q S L E) : Calls Try.prog 5 #[.slice ao n cap] w (BoolP true w) := by
  have SZ := szEventS_any ao n cap q S L E hn hL w hS
  have HS : Hid (EvIn w ao n q S L E) := hS
  clear hS
  go_enter Try.func5, Try.ntmps5
  go_wp2_with fail
  refine SZ.mono ?_
  rintro e w1 ⟨z, rfl, z0, z1, hz, hB⟩
  have HB := hB
  clear hB SZ hL hn
  by_cases hz0 : 0 ≤ z
  · obtain ⟨hn, hL⟩ := hz hz0
    have hmle : tkM (tkB n q L E) L ≤ 1048576 := tkM_le hL
    have T1 := fun w => toEventS_any ao n cap q S L E hn hL w
    have TO := fun w => toEvO_any ao n cap q S L E hn hL w
    have SP := fun ao S w h => specTake_any ao n n q S L E w h hn hT hL
    have IM := fun ao S w h => implTake_any ao n n q S L E w h hn (Nat.le_refl _) hT hL
    have EQ := fun ao bo S S' w h h' => eqEventS_any ao bo n n n q S S' L E hn hL w h h'
    have hL2 : ∀ b, ∀ i, i < tkN b n → (fun i => L (i + 1)) i ≤ 1048576 := fun b i hi => hL (i + 1) (tkN_lt hi)
    have hn2 : ∀ b, tkN b n ≤ 1048576 := fun b => by unfold tkN; split <;> omega
    generalize tkB n q L E = b at hmle SP IM
    clear hz hL2 hn2
    go_wp2_with fail
    refine (T1 _ (HS.out.step HB)).mono ?_
    rintro e w2 ⟨g1, S1, rfl, R1, hB⟩
    replace HB := HB.trans (hB.mono HB.size)
    clear hB
    go_wp2_with fail
    refine (SP _ _ _ R1).mono ?_
    rintro e w3 ⟨b', so, sc, vo, vc, S2, hb, rfl, N3, V3, hB⟩
    replace HB := HB.trans (hB.mono HB.size)
    clear hB R1 SP
    replace hb := hb.symm
    subst hb
    generalize hm0 : tkM b L = m0 at *
    have hLt : ∀ i, i < tkN b n → (fun i => L (i + 1)) i ≤ 1048576 := fun i hi => hL (i + 1) (tkN_lt hi)
    have hnt : tkN b n ≤ 1048576 := by unfold tkN; split <;> omega
    generalize hn1 : tkN b n = n1 at *
    have EV := fun so' bo' ca cb w h h' => eqEvent_any so' bo' m0 ca cb (E 0) (tkP b q).1 (tkP b q).2.1 (tkP b q).2.2 hmle w h h'
    have EQ1 := fun ao' bo' ca cb Sa Sb w h h' => eqEventS_any ao' bo' n1 ca cb (fun i => q (i + 1)) Sa Sb (fun i => L (i + 1)) (fun i => E (i + 1)) hnt hLt w h h'
    have hmI : (m0 : Int) ≤ 1048576 := by omega
    have B3 : Blk (w3.alloc (.cells #[.int .u64 (ww3 (tkP b q).1), .int .u64 (ww2 (tkP b q).1), .int .u64 (ww1 (tkP b q).1), .int .u64 (ww0 (tkP b q).1), .int .u64 (ww3 (tkP b q).2.1), .int .u64 (ww2 (tkP b q).2.1), .int .u64 (ww1 (tkP b q).2.1), .int .u64 (ww0 (tkP b q).2.1), .int .u64 (ww3 (tkP b q).2.2), .int .u64 (ww2 (tkP b q).2.2), .int .u64 (ww1 (tkP b q).2.2), .int .u64 (ww0 (tkP b q).2.2), .slice so m0 sc] 44)) w3.heap.size [.int .u64 (ww3 (tkP b q).1), .int .u64 (ww2 (tkP b q).1), .int .u64 (ww1 (tkP b q).1), .int .u64 (ww0 (tkP b q).1), .int .u64 (ww3 (tkP b q).2.1), .int .u64 (ww2 (tkP b q).2.1), .int .u64 (ww1 (tkP b q).2.1), .int .u64 (ww0 (tkP b q).2.1), .int .u64 (ww3 (tkP b q).2.2), .int .u64 (ww2 (tkP b q).2.2), .int .u64 (ww1 (tkP b q).2.2), .int .u64 (ww0 (tkP b q).2.2), .slice so m0 sc] := Blk.new w3 _ 44 rfl
    have H3a : Below w3.heap.size w3 (w3.alloc (.cells #[.int .u64 (ww3 (tkP b q).1), .int .u64 (ww2 (tkP b q).1), .int .u64 (ww1 (tkP b q).1), .int .u64 (ww0 (tkP b q).1), .int .u64 (ww3 (tkP b q).2.1), .int .u64 (ww2 (tkP b q).2.1), .int .u64 (ww1 (tkP b q).2.1), .int .u64 (ww0 (tkP b q).2.1), .int .u64 (ww3 (tkP b q).2.2), .int .u64 (ww2 (tkP b q).2.2), .int .u64 (ww1 (tkP b q).2.2), .int .u64 (ww0 (tkP b q).2.2), .slice so m0 sc] 44)) := (Below.refl _ _).alloc (Nat.le_refl _) _
    replace N3 := N3.step H3a
    replace V3 := V3.step H3a
    replace HB := HB.trans (H3a.mono HB.size)
    clear H3a
    go_wp2_with fail
    generalize (w3.alloc (.cells #[.int .u64 (ww3 (tkP b q).1), .int .u64 (ww2 (tkP b q).1), .int .u64 (ww1 (tkP b q).1), .int .u64 (ww0 (tkP b q).1), .int .u64 (ww3 (tkP b q).2.1), .int .u64 (ww2 (tkP b q).2.1), .int .u64 (ww1 (tkP b q).2.1), .int .u64 (ww0 (tkP b q).2.1), .int .u64 (ww3 (tkP b q).2.2), .int .u64 (ww2 (tkP b q).2.2), .int .u64 (ww1 (tkP b q).2.2), .int .u64 (ww0 (tkP b q).2.2), .slice so m0 sc] 44)) = W3 at *
    generalize w3.heap.size = e3 at *
    have H3 := Below.refl W3.heap.size W3
    have hw3 : w.heap.size ≤ W3.heap.size := HB.size
    refine (TO _ (HS.out.step HB)).mono ?_
    rintro e w4 ⟨g2, s2, rfl, X, hB⟩
    replace HB := HB.trans (hB.mono HB.size)
    replace H3 := H3.trans (hB.mono H3.size)
    clear hB
    have h3t : W3.heap.size ≤ w4.heap.size := H3.size
    have t0e : ∃ t0, t0 = w4.heap.size := ⟨_, rfl⟩
    obtain ⟨t0, ht0⟩ := t0e
    rw [← ht0] at X
    have MX := fun w h => markEvS_any (.slice (some ⟨g2, 0, none⟩) n n) n W3.heap.size t0 1 (wq q) s2 L E hn hL (by decide) w h
    rw [show ((1 : Nat) : Int) = 1 from rfl] at MX
    have hkx : ¬ ((mkK 1 L n : Int) < 0) := by omega
    obtain ⟨x4, x4c, x4e, XI⟩ := X.in
    cases x4e
    go_wp2_with fail
    refine (IM _ _ _ XI).mono ?_
    rintro e w5 ⟨b2, t1, u, v, s5, hb2, rfl, U, V, ht1, ht2, hB⟩
    replace hb2 := hb2.symm
    subst hb2
    replace HB := HB.trans (hB.mono HB.size)
    replace H3 := H3.trans (hB.mono H3.size)
    replace X := X.step hB
    clear hB XI
    rw [hm0] at U
    rw [hn1] at V
    rw [← ht0] at U ht1
    obtain ⟨uo, uc, hue, _⟩ := U.in
    subst hue
    obtain ⟨yo, yc, hve, _⟩ := V.in
    subst hve
    have G : Blk (w5.alloc (.cells #[.int .u64 (ww3 (tkP b q).1), .int .u64 (ww2 (tkP b q).1), .int .u64 (ww1 (tkP b q).1), .int .u64 (ww0 (tkP b q).1), .int .u64 (ww3 (tkP b q).2.1), .int .u64 (ww2 (tkP b q).2.1), .int .u64 (ww1 (tkP b q).2.1), .int .u64 (ww0 (tkP b q).2.1), .int .u64 (ww3 (tkP b q).2.2), .int .u64 (ww2 (tkP b q).2.2), .int .u64 (ww1 (tkP b q).2.2), .int .u64 (ww0 (tkP b q).2.2), .slice uo m0 uc] 44)) w5.heap.size [.int .u64 (ww3 (tkP b q).1), .int .u64 (ww2 (tkP b q).1), .int .u64 (ww1 (tkP b q).1), .int .u64 (ww0 (tkP b q).1), .int .u64 (ww3 (tkP b q).2.1), .int .u64 (ww2 (tkP b q).2.1), .int .u64 (ww1 (tkP b q).2.1), .int .u64 (ww0 (tkP b q).2.1), .int .u64 (ww3 (tkP b q).2.2), .int .u64 (ww2 (tkP b q).2.2), .int .u64 (ww1 (tkP b q).2.2), .int .u64 (ww0 (tkP b q).2.2), .slice uo m0 uc] := Blk.new w5 _ 44 rfl
    have hB : Below w5.heap.size w5 (w5.alloc (.cells #[.int .u64 (ww3 (tkP b q).1), .int .u64 (ww2 (tkP b q).1), .int .u64 (ww1 (tkP b q).1), .int .u64 (ww0 (tkP b q).1), .int .u64 (ww3 (tkP b q).2.1), .int .u64 (ww2 (tkP b q).2.1), .int .u64 (ww1 (tkP b q).2.1), .int .u64 (ww0 (tkP b q).2.1), .int .u64 (ww3 (tkP b q).2.2), .int .u64 (ww2 (tkP b q).2.2), .int .u64 (ww1 (tkP b q).2.2), .int .u64 (ww0 (tkP b q).2.2), .slice uo m0 uc] 44)) := (Below.refl _ _).alloc (Nat.le_refl _) _
    replace HB := HB.trans (hB.mono HB.size)
    replace H3 := H3.trans (hB.mono H3.size)
    replace X := X.step hB
    replace U := U.step hB
    replace V := V.step hB
    clear hB
    have t2e : ∃ t2, t2 = w5.heap.size := ⟨_, rfl⟩
    obtain ⟨t2, ht2e⟩ := t2e
    rw [← ht2e] at V ht2
    have ME := fun w h1 h2 => markEv1_any (tkP b q).1 (tkP b q).2.1 (tkP b q).2.2 uo m0 uc t0 t1 1 (E 0) hmle (by decide) w h1 h2
    have HE := fun w h => heldEv1_any (tkP b q).1 (tkP b q).2.1 (tkP b q).2.2 uo m0 uc 1 hmle (by decide) w h
    have MV := fun w h => markEvS_any (.slice yo n1 yc) n1 t1 t2 (1 + m0) (wq (fun i => q (i + 1))) s5 (fun i => L (i + 1)) (fun i => E (i + 1)) hnt hLt (by omega) w h
    have HV := fun w h => heldEvS_any (.slice yo n1 yc) n1 t1 t2 (1 + m0) s5 (fun i => L (i + 1)) hnt hLt (by omega) w h
    rw [show ((1 : Nat) : Int) = 1 from rfl] at ME HE
    rw [show ((1 + m0 : Nat) : Int) = 1 + (m0 : Int) from by omega] at MV HV
    have hk1 : ¬ ((1 : Int) + (m0 : Int) < 0) := by omega
    have hk2 : ¬ ((mkK (1 + m0) (fun i => L (i + 1)) n1 : Int) < 0) := by omega
    have Bx : Blk (w5.alloc (.cells #[.int .u64 (ww3 (tkP b q).1), .int .u64 (ww2 (tkP b q).1), .int .u64 (ww1 (tkP b q).1), .int .u64 (ww0 (tkP b q).1), .int .u64 (ww3 (tkP b q).2.1), .int .u64 (ww2 (tkP b q).2.1), .int .u64 (ww1 (tkP b q).2.1), .int .u64 (ww0 (tkP b q).2.1), .int .u64 (ww3 (tkP b q).2.2), .int .u64 (ww2 (tkP b q).2.2), .int .u64 (ww1 (tkP b q).2.2), .int .u64 (ww0 (tkP b q).2.2), .slice uo m0 uc] 44)) e3 [.int .u64 (ww3 (tkP b q).1), .int .u64 (ww2 (tkP b q).1), .int .u64 (ww1 (tkP b q).1), .int .u64 (ww0 (tkP b q).1), .int .u64 (ww3 (tkP b q).2.1), .int .u64 (ww2 (tkP b q).2.1), .int .u64 (ww1 (tkP b q).2.1), .int .u64 (ww0 (tkP b q).2.1), .int .u64 (ww3 (tkP b q).2.2), .int .u64 (ww2 (tkP b q).2.2), .int .u64 (ww1 (tkP b q).2.2), .int .u64 (ww0 (tkP b q).2.2), .slice so m0 sc] := B3.step H3
    have p0 := Bx.c 0 rfl; have p1 := Bx.c 1 rfl; have p2 := Bx.c 2 rfl; have p3 := Bx.c 3 rfl; have p4 := Bx.c 4 rfl; have p5 := Bx.c 5 rfl; have p6 := Bx.c 6 rfl; have p7 := Bx.c 7 rfl; have p8 := Bx.c 8 rfl; have p9 := Bx.c 9 rfl; have p10 := Bx.c 10 rfl; have p11 := Bx.c 11 rfl; have p12 := Bx.c 12 rfl
    have r0 := G.c 0 rfl; have r1 := G.c 1 rfl; have r2 := G.c 2 rfl; have r3 := G.c 3 rfl; have r4 := G.c 4 rfl; have r5 := G.c 5 rfl; have r6 := G.c 6 rfl; have r7 := G.c 7 rfl; have r8 := G.c 8 rfl; have r9 := G.c 9 rfl; have r10 := G.c 10 rfl; have r11 := G.c 11 rfl; have r12 := G.c 12 rfl
    clear Bx
    obtain ⟨_, _, e1, NU⟩ := U.in
    cases e1
    obtain ⟨_, _, e1, NV⟩ := V.in
    cases e1
    go_wp2_with fail
    skip
    generalize (w5.alloc (.cells #[.int .u64 (ww3 (tkP b q).1), .int .u64 (ww2 (tkP b q).1), .int .u64 (ww1 (tkP b q).1), .int .u64 (ww0 (tkP b q).1), .int .u64 (ww3 (tkP b q).2.1), .int .u64 (ww2 (tkP b q).2.1), .int .u64 (ww1 (tkP b q).2.1), .int .u64 (ww0 (tkP b q).2.1), .int .u64 (ww3 (tkP b q).2.2), .int .u64 (ww2 (tkP b q).2.2), .int .u64 (ww1 (tkP b q).2.2), .int .u64 (ww0 (tkP b q).2.2), .slice uo m0 uc] 44)) = W5 at *
    rw [← ht2e] at G r0 r1 r2 r3 r4 r5 r6 r7 r8 r9 r10 r11 r12 ⊢
    clear ht2e
    refine (EV _ _ _ _ _ NU (N3.step H3)).mono ?_
    rintro e w6 ⟨rfl, hB⟩
    replace HB := HB.trans (hB.mono HB.size)
    replace H3 := H3.trans (hB.mono H3.size)
    replace X := X.step hB
    replace U := U.step hB
    replace V := V.step hB
    replace G := G.step hB
    replace NV := NV.step hB
    clear hB NU
    clear p0 p1 p2 p3 p4 p5 p6 p7 p8 p9 p10 p11 p12
    clear r0 r1 r2 r3 r4 r5 r6 r7 r8 r9 r10 r11 r12
    go_wp2_with fail
    refine (EQ1 _ _ _ _ _ _ _ NV (V3.step H3)).mono ?_
    rintro e w7 ⟨rfl, hB⟩
    replace HB := HB.trans (hB.mono HB.size)
    replace H3 := H3.trans (hB.mono H3.size)
    replace X := X.step hB
    replace U := U.step hB
    replace V := V.step hB
    replace G := G.step hB
    clear hB NV
    go_wp2_with fail
    refine (T1 _ (HS.out.step HB)).mono ?_
    rintro e w8 ⟨g8, S8, rfl, R8, hB⟩
    replace HB := HB.trans (hB.mono HB.size)
    replace H3 := H3.trans (hB.mono H3.size)
    replace X := X.step hB
    replace U := U.step hB
    replace V := V.step hB
    replace G := G.step hB
    clear hB
    obtain ⟨x4, x4c, x4e, XI⟩ := X.in
    cases x4e
    go_wp2_with fail
    refine (EQ _ _ _ _ _ XI R8).mono ?_
    rintro e w9 ⟨rfl, hB⟩
    replace HB := HB.trans (hB.mono HB.size)
    replace H3 := H3.trans (hB.mono H3.size)
    replace X := X.step hB
    replace U := U.step hB
    replace V := V.step hB
    replace G := G.step hB
    clear hB XI R8
    go_wp2_with fail
    refine (MX _ X).mono ?_
    rintro e w10 ⟨rfl, _, hM⟩
    replace U := U.heap (fun k hk => hM.2 k (U.lt hk).1 (U.lt hk).2.2)
    replace V := V.heap (fun k h1 _ h3 => hM.2 k (by omega) h3)
    replace G : Blk w10 t2 _ := G.heapB (hM.2 t2 (by omega) G.lt) hM.1.size
    replace HB := HB.trans (hM.1.mono (by omega))
    replace H3 := H3.trans (hM.1.mono (by omega))
    clear hM X MX
    have Bx := B3.step H3
    have p0 := Bx.c 0 rfl; have p1 := Bx.c 1 rfl; have p2 := Bx.c 2 rfl; have p3 := Bx.c 3 rfl; have p4 := Bx.c 4 rfl; have p5 := Bx.c 5 rfl; have p6 := Bx.c 6 rfl; have p7 := Bx.c 7 rfl; have p8 := Bx.c 8 rfl; have p9 := Bx.c 9 rfl; have p10 := Bx.c 10 rfl; have p11 := Bx.c 11 rfl; have p12 := Bx.c 12 rfl
    have r0 := G.c 0 rfl; have r1 := G.c 1 rfl; have r2 := G.c 2 rfl; have r3 := G.c 3 rfl; have r4 := G.c 4 rfl; have r5 := G.c 5 rfl; have r6 := G.c 6 rfl; have r7 := G.c 7 rfl; have r8 := G.c 8 rfl; have r9 := G.c 9 rfl; have r10 := G.c 10 rfl; have r11 := G.c 11 rfl; have r12 := G.c 12 rfl
    clear Bx
    obtain ⟨_, _, e1, NU⟩ := U.in
    cases e1
    obtain ⟨_, _, e1, NV⟩ := V.in
    cases e1
    go_wp2_with fail
    refine (EV _ _ _ _ _ NU (N3.step H3)).mono ?_
    rintro e w11 ⟨rfl, hB⟩
    replace HB := HB.trans (hB.mono HB.size)
    replace H3 := H3.trans (hB.mono H3.size)
    replace U := U.step hB
    replace V := V.step hB
    replace G := G.step hB
    replace NV := NV.step hB
    clear hB NU
    clear p0 p1 p2 p3 p4 p5 p6 p7 p8 p9 p10 p11 p12
    clear r0 r1 r2 r3 r4 r5 r6 r7 r8 r9 r10 r11 r12
    go_wp2_with fail
    refine (EQ1 _ _ _ _ _ _ _ NV (V3.step H3)).mono ?_
    rintro e w12 ⟨rfl, hB⟩
    replace HB := HB.trans (hB.mono HB.size)
    replace H3 := H3.trans (hB.mono H3.size)
    replace U := U.step hB
    replace V := V.step hB
    replace G := G.step hB
    clear hB NV
    have r0 := G.c 0 rfl; have r1 := G.c 1 rfl; have r2 := G.c 2 rfl; have r3 := G.c 3 rfl; have r4 := G.c 4 rfl; have r5 := G.c 5 rfl; have r6 := G.c 6 rfl; have r7 := G.c 7 rfl; have r8 := G.c 8 rfl; have r9 := G.c 9 rfl; have r10 := G.c 10 rfl; have r11 := G.c 11 rfl; have r12 := G.c 12 rfl
    go_wp2_with fail
    refine (ME _ (by have := G.lt; omega) U).mono ?_
    rintro e w13 ⟨rfl, U2, hM⟩
    have hMO := hM.out (fun k hk => (U.lt hk).2.1)
    replace V := V.heap (fun k h1 _ h3 => hMO.2 k (by omega) h3)
    replace G : Blk w13 t2 _ := G.heapB (hMO.2 t2 (by omega) G.lt) hM.1.size
    replace HB := HB.trans (hM.1.mono (by omega))
    replace H3 := H3.trans (hM.1.mono (by omega))
    clear hM hMO U ME
    clear r0 r1 r2 r3 r4 r5 r6 r7 r8 r9 r10 r11 r12
    go_wp2_with fail
    refine (MV _ V).mono ?_
    rintro e w14 ⟨rfl, V2, hM⟩
    replace U2 := U2.heap (fun k hk => hM.1.block k (by have := (U2.lt hk).2.1; omega))
    replace G : Blk w14 t2 _ := G.heapB (hM.2 t2 (by omega) G.lt) hM.1.size
    replace HB := HB.trans (hM.1.mono (by omega))
    replace H3 := H3.trans (hM.1.mono (by omega))
    clear hM V MV
    have r0 := G.c 0 rfl; have r1 := G.c 1 rfl; have r2 := G.c 2 rfl; have r3 := G.c 3 rfl; have r4 := G.c 4 rfl; have r5 := G.c 5 rfl; have r6 := G.c 6 rfl; have r7 := G.c 7 rfl; have r8 := G.c 8 rfl; have r9 := G.c 9 rfl; have r10 := G.c 10 rfl; have r11 := G.c 11 rfl; have r12 := G.c 12 rfl
    obtain ⟨_, _, e1, NU⟩ := U2.in
    cases e1
    go_wp2_with fail
    refine (HE _ NU).mono ?_
    rintro e w15 ⟨rfl, hB⟩
    replace HB := HB.trans (hB.mono HB.size)
    replace H3 := H3.trans (hB.mono H3.size)
    replace U2 := U2.step hB
    replace V2 := V2.step hB
    replace G := G.step hB
    clear hB NU
    clear r0 r1 r2 r3 r4 r5 r6 r7 r8 r9 r10 r11 r12
    go_wp2_with fail
    refine (HV _ V2).mono ?_
    rintro e w16 ⟨rfl, hB⟩
    replace HB := HB.trans (hB.mono HB.size)
    replace H3 := H3.trans (hB.mono H3.size)
    replace U2 := U2.step hB
    replace V2 := V2.step hB
    replace G := G.step hB
    clear hB
    go_wp2_with fail
    refine (T1 _ (HS.out.step HB)).mono ?_
    rintro e w17 ⟨gh, Sh, rfl, Rh, hB⟩
    replace HB := HB.trans (hB.mono HB.size)
    replace H3 := H3.trans (hB.mono H3.size)
    replace U2 := U2.step hB
    replace V2 := V2.step hB
    replace G := G.step hB
    clear hB
    go_wp2_with fail
    refine (IM _ _ _ Rh).mono ?_
    rintro e w18 ⟨b2, t4, u3, v3, s6, hb2, rfl, U3, V3b, _, _, hB⟩
    replace HB := HB.trans (hB.mono HB.size)
    replace H3 := H3.trans (hB.mono H3.size)
    replace U2 := U2.step hB
    replace V2 := V2.step hB
    replace G := G.step hB
    clear hB Rh
    replace hb2 := hb2.symm
    subst hb2
    rw [hm0] at U3
    rw [hn1] at V3b
    obtain ⟨ho, hc, hue, _⟩ := U3.in
    subst hue
    obtain ⟨zo, zc, hve, _⟩ := V3b.in
    subst hve
    have GH : Blk (w18.alloc (.cells #[.int .u64 (ww3 (tkP b q).1), .int .u64 (ww2 (tkP b q).1), .int .u64 (ww1 (tkP b q).1), .int .u64 (ww0 (tkP b q).1), .int .u64 (ww3 (tkP b q).2.1), .int .u64 (ww2 (tkP b q).2.1), .int .u64 (ww1 (tkP b q).2.1), .int .u64 (ww0 (tkP b q).2.1), .int .u64 (ww3 (tkP b q).2.2), .int .u64 (ww2 (tkP b q).2.2), .int .u64 (ww1 (tkP b q).2.2), .int .u64 (ww0 (tkP b q).2.2), .slice ho m0 hc] 44)) w18.heap.size [.int .u64 (ww3 (tkP b q).1), .int .u64 (ww2 (tkP b q).1), .int .u64 (ww1 (tkP b q).1), .int .u64 (ww0 (tkP b q).1), .int .u64 (ww3 (tkP b q).2.1), .int .u64 (ww2 (tkP b q).2.1), .int .u64 (ww1 (tkP b q).2.1), .int .u64 (ww0 (tkP b q).2.1), .int .u64 (ww3 (tkP b q).2.2), .int .u64 (ww2 (tkP b q).2.2), .int .u64 (ww1 (tkP b q).2.2), .int .u64 (ww0 (tkP b q).2.2), .slice ho m0 hc] := Blk.new w18 _ 44 rfl
    have hB : Below w18.heap.size w18 (w18.alloc (.cells #[.int .u64 (ww3 (tkP b q).1), .int .u64 (ww2 (tkP b q).1), .int .u64 (ww1 (tkP b q).1), .int .u64 (ww0 (tkP b q).1), .int .u64 (ww3 (tkP b q).2.1), .int .u64 (ww2 (tkP b q).2.1), .int .u64 (ww1 (tkP b q).2.1), .int .u64 (ww0 (tkP b q).2.1), .int .u64 (ww3 (tkP b q).2.2), .int .u64 (ww2 (tkP b q).2.2), .int .u64 (ww1 (tkP b q).2.2), .int .u64 (ww0 (tkP b q).2.2), .slice ho m0 hc] 44)) := (Below.refl _ _).alloc (Nat.le_refl _) _
    replace HB := HB.trans (hB.mono HB.size)
    replace H3 := H3.trans (hB.mono H3.size)
    replace U2 := U2.step hB
    replace V2 := V2.step hB
    replace G := G.step hB
    replace U3 := U3.step hB
    replace V3b := V3b.step hB
    clear hB
    have Bx : Blk (w18.alloc (.cells #[.int .u64 (ww3 (tkP b q).1), .int .u64 (ww2 (tkP b q).1), .int .u64 (ww1 (tkP b q).1), .int .u64 (ww0 (tkP b q).1), .int .u64 (ww3 (tkP b q).2.1), .int .u64 (ww2 (tkP b q).2.1), .int .u64 (ww1 (tkP b q).2.1), .int .u64 (ww0 (tkP b q).2.1), .int .u64 (ww3 (tkP b q).2.2), .int .u64 (ww2 (tkP b q).2.2), .int .u64 (ww1 (tkP b q).2.2), .int .u64 (ww0 (tkP b q).2.2), .slice ho m0 hc] 44)) e3 [.int .u64 (ww3 (tkP b q).1), .int .u64 (ww2 (tkP b q).1), .int .u64 (ww1 (tkP b q).1), .int .u64 (ww0 (tkP b q).1), .int .u64 (ww3 (tkP b q).2.1), .int .u64 (ww2 (tkP b q).2.1), .int .u64 (ww1 (tkP b q).2.1), .int .u64 (ww0 (tkP b q).2.1), .int .u64 (ww3 (tkP b q).2.2), .int .u64 (ww2 (tkP b q).2.2), .int .u64 (ww1 (tkP b q).2.2), .int .u64 (ww0 (tkP b q).2.2), .slice so m0 sc] := B3.step H3
    have p0 := Bx.c 0 rfl; have p1 := Bx.c 1 rfl; have p2 := Bx.c 2 rfl; have p3 := Bx.c 3 rfl; have p4 := Bx.c 4 rfl; have p5 := Bx.c 5 rfl; have p6 := Bx.c 6 rfl; have p7 := Bx.c 7 rfl; have p8 := Bx.c 8 rfl; have p9 := Bx.c 9 rfl; have p10 := Bx.c 10 rfl; have p11 := Bx.c 11 rfl; have p12 := Bx.c 12 rfl
    have r0 := GH.c 0 rfl; have r1 := GH.c 1 rfl; have r2 := GH.c 2 rfl; have r3 := GH.c 3 rfl; have r4 := GH.c 4 rfl; have r5 := GH.c 5 rfl; have r6 := GH.c 6 rfl; have r7 := GH.c 7 rfl; have r8 := GH.c 8 rfl; have r9 := GH.c 9 rfl; have r10 := GH.c 10 rfl; have r11 := GH.c 11 rfl; have r12 := GH.c 12 rfl
    clear Bx
    obtain ⟨_, _, e1, NU⟩ := U3.in
    cases e1
    obtain ⟨_, _, e1, NV⟩ := V3b.in
    cases e1
    go_wp2_with fail
    generalize (w18.alloc (.cells #[.int .u64 (ww3 (tkP b q).1), .int .u64 (ww2 (tkP b q).1), .int .u64 (ww1 (tkP b q).1), .int .u64 (ww0 (tkP b q).1), .int .u64 (ww3 (tkP b q).2.1), .int .u64 (ww2 (tkP b q).2.1), .int .u64 (ww1 (tkP b q).2.1), .int .u64 (ww0 (tkP b q).2.1), .int .u64 (ww3 (tkP b q).2.2), .int .u64 (ww2 (tkP b q).2.2), .int .u64 (ww1 (tkP b q).2.2), .int .u64 (ww0 (tkP b q).2.2), .slice ho m0 hc] 44)) = WH at *
    refine (EV _ _ _ _ _ NU (N3.step H3)).mono ?_
    rintro e w19 ⟨rfl, hB⟩
    replace HB := HB.trans (hB.mono HB.size)
    replace H3 := H3.trans (hB.mono H3.size)
    replace U2 := U2.step hB
    replace V2 := V2.step hB
    replace G := G.step hB
    replace NV := NV.step hB
    clear hB NU U3 V3b GH
    clear p0 p1 p2 p3 p4 p5 p6 p7 p8 p9 p10 p11 p12
    clear r0 r1 r2 r3 r4 r5 r6 r7 r8 r9 r10 r11 r12
    go_wp2_with fail
    refine (EQ1 _ _ _ _ _ _ _ NV (V3.step H3)).mono ?_
    rintro e w20 ⟨rfl, hB⟩
    replace HB := HB.trans (hB.mono HB.size)
    replace H3 := H3.trans (hB.mono H3.size)
    replace U2 := U2.step hB
    replace V2 := V2.step hB
    replace G := G.step hB
    clear hB NV
    have r0 := G.c 0 rfl; have r1 := G.c 1 rfl; have r2 := G.c 2 rfl; have r3 := G.c 3 rfl; have r4 := G.c 4 rfl; have r5 := G.c 5 rfl; have r6 := G.c 6 rfl; have r7 := G.c 7 rfl; have r8 := G.c 8 rfl; have r9 := G.c 9 rfl; have r10 := G.c 10 rfl; have r11 := G.c 11 rfl; have r12 := G.c 12 rfl
    obtain ⟨_, _, e1, NU⟩ := U2.in
    cases e1
    go_wp2_with fail
    refine (HE _ NU).mono ?_
    rintro e w21 ⟨rfl, hB⟩
    replace HB := HB.trans (hB.mono HB.size)
    replace H3 := H3.trans (hB.mono H3.size)
    replace U2 := U2.step hB
    replace V2 := V2.step hB
    replace G := G.step hB
    clear hB NU
    clear r0 r1 r2 r3 r4 r5 r6 r7 r8 r9 r10 r11 r12
    go_wp2_with fail
    refine (HV _ V2).mono ?_
    rintro e w22 ⟨rfl, hB⟩
    replace HB := HB.trans (hB.mono HB.size)
    replace H3 := H3.trans (hB.mono H3.size)
    replace U2 := U2.step hB
    replace V2 := V2.step hB
    replace G := G.step hB
    clear hB
    go_wp2
    go_ret
    exact ⟨rfl, HB⟩
  · clear hz hT
    have hz' : z < 0 := by omega
    go_wp2
    go_ret
    exact ⟨rfl, HB⟩
end Go.Proofs.Ytpmnmlhfaoajdaa

/- What the row of a law asks of the program as a whole, each by itself. -/
namespace Go.Proofs.Ytpmnmlhfaoajdaa
open Go.ChangeShapes Go.WideShapes Go.ChangeAt Go.RowKit Go.Joins
theorem jn_laid : laidOutB Try.pinned.checked.prog = true := by kernel_rfl
theorem jn_maps : mapsRowed Try.pinned.checked.prog = true := by kernel_rfl
theorem jn_enter : Try.pinned.checked.prog.mayEnter = true := by kernel_rfl
theorem jn_heard : Try.pinned.checked.prog.stopsHeard = true := by kernel_rfl
end Go.Proofs.Ytpmnmlhfaoajdaa
