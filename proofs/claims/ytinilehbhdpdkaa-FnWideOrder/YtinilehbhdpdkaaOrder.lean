/- The law on the order of drawn numbers: the walk. -/
import Derived.Test.YtinilehbhdpdkaaDrwC
import Derived.Test.YtinilehbhdpdkaaSums
import Derived.Test.YtinilehbhdpdkaaCmpI
import Derived.Test.YtinilehbhdpdkaaCmpS
namespace Go.Proofs.Ytinilehbhdpdkaa
open Go.RowKit
structure Ord4 (w wx : World) (ga gb gc gd : Nat) (a b c d : List Value) : Prop where
  below : Below w.heap.size w wx
  a : Blk wx ga a
  b : Blk wx gb b
  c : Blk wx gc c
  d : Blk wx gd d
theorem Ord4.drew {w wx : World} {ga gb gc gd : Nat} {a b c d : List Value} (h : Ord4 w wx ga gb gc gd a b c d) : Ord4 w wx.drew ga gb gc gd a b c d := ⟨h.below.drew, h.a, h.b, h.c, h.d⟩
structure OrdL (w wx : World) (ga gb ge : Nat) (a b e : List Value) : Prop where
  below : Below w.heap.size w wx
  a : Blk wx ga a
  b : Blk wx gb b
  e : Blk wx ge e
theorem OrdL.step {w wx wy : World} {ga gb ge : Nat} {a b e : List Value} (h : OrdL w wx ga gb ge a b e) (hB : Below wx.heap.size wx wy) : OrdL w wy ga gb ge a b e := ⟨h.below.trans (hB.mono h.below.size), h.a.step hB, h.b.step hB, h.e.step hB⟩
theorem OrdL.alloc {w wx : World} {ga gb ge : Nat} {a b e : List Value} (h : OrdL w wx ga gb ge a b e) (o : Obj) : OrdL w (wx.alloc o) ga gb ge a b e := h.step ((Below.refl _ _).alloc (Nat.le_refl _) o)
theorem cmp_range (a b : Int) : -1 ≤ cmpI a b ∧ cmpI a b ≤ 1 := by
  unfold cmpI
  split
  · omega
  · split <;> omega
theorem cmp_le {a b : Int} : cmpI a b ≤ 0 ↔ a ≤ b := by
  unfold cmpI
  split
  · omega
  · split <;> omega
theorem cmp_sub (a b : Int) : cmpI (a - b) 0 = cmpI a b := by
  rcases Int.lt_trichotomy a b with h | h | h
  · rw [cmpI_lt h, cmpI_lt (show a - b < 0 by omega)]
  · rw [cmpI_eq h, cmpI_eq (show a - b = 0 by omega)]
  · rw [cmpI_gt h, cmpI_gt (show 0 < a - b by omega)]
set_option maxRecDepth 100000 in
set_option maxHeartbeats 8000000 in
theorem lawOrder_any (ao : Option Addr) (n cap : Nat) (cs : List Int) (w : World) (h : n ≤ 1048576 → Code w ao n cs) :
    Calls Try.prog 4 #[.slice ao n cap] w (BoolP true w) := by
  by_cases hn : 1048576 < n
  · go_enter Try.func4, Try.ntmps4
    go_wp2_with fail
    refine (big_any ao n cap _ true (by simpa using hn)).mono ?_
    rintro e w0 ⟨rfl, hB⟩
    go_wp2
    go_ret
    exact ⟨rfl, hB⟩
  · replace h := h (by omega)
    go_enter Try.func4, Try.ntmps4
    go_wp2_with fail
    refine (big_any ao n cap _ false (by simpa using hn)).mono ?_
    rintro e w0 ⟨rfl, hB⟩
    replace h := h.below hB
    have HB0 : Below w.heap.size w w0 := hB
    clear hB
    go_wp2_with fail
    refine (drawCmp_any ao n cap cs _ h).mono ?_
    rintro e w1 ⟨a3, a2, a1, a0, b3, b2, b1, b0, rfl, ha, hb, hB⟩
    replace h := h.below hB
    have HB1 : Below w.heap.size w w1 := HB0.trans (hB.mono HB0.size)
    clear hB HB0
    have A := Blk.new w1 [.int .u64 a3, .int .u64 a2, .int .u64 a1, .int .u64 a0] 26 rfl
    replace HB1 := HB1.alloc HB1.size (.cells #[.int .u64 a3, .int .u64 a2, .int .u64 a1, .int .u64 a0] 26)
    have B := Blk.new (w1.alloc (.cells #[.int .u64 a3, .int .u64 a2, .int .u64 a1, .int .u64 a0] 26)) [.int .u64 b3, .int .u64 b2, .int .u64 b1, .int .u64 b0] 26 (g := w1.heap.size + 1) (by simp)
    replace A := A.alloc (.cells #[.int .u64 b3, .int .u64 b2, .int .u64 b1, .int .u64 b0] 26)
    replace HB1 := HB1.alloc HB1.size (.cells #[.int .u64 b3, .int .u64 b2, .int .u64 b1, .int .u64 b0] 26)
    replace h := (h.below ((Below.refl _ _).alloc (Nat.le_refl _) (.cells #[.int .u64 a3, .int .u64 a2, .int .u64 a1, .int .u64 a0] 26))).below ((Below.refl _ _).alloc (Nat.le_refl _) (.cells #[.int .u64 b3, .int .u64 b2, .int .u64 b1, .int .u64 b0] 26))
    go_wp2_with fail
    refine (drawAdd_any ao n cap cs _ h).mono ?_
    rintro e w2 ⟨c3, c2, c1, c0, d3, d2, d1, d0, rfl, hc, hd, hB⟩
    clear h
    replace A := A.step hB
    replace B := B.step hB
    have HB2 : Below w.heap.size w w2 := HB1.trans (hB.mono HB1.size)
    clear hB HB1
    have Ac0 := A.c 0 rfl; have Ac1 := A.c 1 rfl; have Ac2 := A.c 2 rfl; have Ac3 := A.c 3 rfl; have Al := A.lt
    have Bc0 := B.c 0 rfl; have Bc1 := B.c 1 rfl; have Bc2 := B.c 2 rfl; have Bc3 := B.c 3 rfl; have Bl := B.lt
    have C := Blk.new w2 [.int .u64 c3, .int .u64 c2, .int .u64 c1, .int .u64 c0] 26 rfl
    replace A := A.alloc (.cells #[.int .u64 c3, .int .u64 c2, .int .u64 c1, .int .u64 c0] 26)
    replace B := B.alloc (.cells #[.int .u64 c3, .int .u64 c2, .int .u64 c1, .int .u64 c0] 26)
    replace HB2 := HB2.alloc HB2.size (.cells #[.int .u64 c3, .int .u64 c2, .int .u64 c1, .int .u64 c0] 26)
    have D := Blk.new (w2.alloc (.cells #[.int .u64 c3, .int .u64 c2, .int .u64 c1, .int .u64 c0] 26)) [.int .u64 d3, .int .u64 d2, .int .u64 d1, .int .u64 d0] 26 (g := w2.heap.size + 1) (by simp)
    replace A := A.alloc (.cells #[.int .u64 d3, .int .u64 d2, .int .u64 d1, .int .u64 d0] 26)
    replace B := B.alloc (.cells #[.int .u64 d3, .int .u64 d2, .int .u64 d1, .int .u64 d0] 26)
    replace C := C.alloc (.cells #[.int .u64 d3, .int .u64 d2, .int .u64 d1, .int .u64 d0] 26)
    replace HB2 := HB2.alloc HB2.size (.cells #[.int .u64 d3, .int .u64 d2, .int .u64 d1, .int .u64 d0] 26)
    go_wp2_with fail
    refine (implCmp_any a3 a2 a1 a0 b3 b2 b1 b0 ha.1 ha.2.1 ha.2.2.1 ha.2.2.2 hb.1 hb.2.1 hb.2.2.1 hb.2.2.2 _).mono ?_
    rintro e w3 ⟨rfl, hB⟩
    replace A := A.step hB
    replace B := B.step hB
    replace C := C.step hB
    replace D := D.step hB
    have HB3 : Below w.heap.size w w3 := HB2.trans (hB.mono HB2.size)
    clear Ac0 Ac1 Ac2 Ac3 Al Bc0 Bc1 Bc2 Bc3 Bl
    clear hB HB2
    have Ac0 := A.c 0 rfl; have Ac1 := A.c 1 rfl; have Ac2 := A.c 2 rfl; have Ac3 := A.c 3 rfl; have Al := A.lt
    have Bc0 := B.c 0 rfl; have Bc1 := B.c 1 rfl; have Bc2 := B.c 2 rfl; have Bc3 := B.c 3 rfl; have Bl := B.lt
    have Cc0 := C.c 0 rfl; have Cc1 := C.c 1 rfl; have Cc2 := C.c 2 rfl; have Cc3 := C.c 3 rfl; have Cl := C.lt
    have Dc0 := D.c 0 rfl; have Dc1 := D.c 1 rfl; have Dc2 := D.c 2 rfl; have Dc3 := D.c 3 rfl; have Dl := D.lt
    rcases Int.lt_trichotomy (sw a3 a2 a1 a0) (sw b3 b2 b1 b0) with hc0 | hc0 | hc0
    · have en : cmpI (sw a3 a2 a1 a0) (sw b3 b2 b1 b0) = -1 := cmpI_lt hc0
      have em : cmpI (sw b3 b2 b1 b0) (sw a3 a2 a1 a0) = 1 := cmpI_gt hc0
      rw [en]
      go_upto_region 6 with fail
      go_cut [47] (fun q wx => q = .bool false ∧ Ord4 w wx w1.heap.size (w1.heap.size + 1) w2.heap.size (w2.heap.size + 1) [.int .u64 a3, .int .u64 a2, .int .u64 a1, .int .u64 a0] [.int .u64 b3, .int .u64 b2, .int .u64 b1, .int .u64 b0] [.int .u64 c3, .int .u64 c2, .int .u64 c1, .int .u64 c0] [.int .u64 d3, .int .u64 d2, .int .u64 d1, .int .u64 d0])
      case first =>
        go_wp2_with fail
        refine (specCmp_any a3 a2 a1 a0 b3 b2 b1 b0 ha.1 ha.2.1 ha.2.2.1 ha.2.2.2 hb.1 hb.2.1 hb.2.2.1 hb.2.2.2 _).mono ?_
        rintro e w4 ⟨rfl, hB⟩
        rw [en]
        replace A := A.step hB
        replace B := B.step hB
        replace C := C.step hB
        replace D := D.step hB
        have HB4 : Below w.heap.size w w4 := HB3.trans (hB.mono HB3.size)
        clear Ac0 Ac1 Ac2 Ac3 Al Bc0 Bc1 Bc2 Bc3 Bl Cc0 Cc1 Cc2 Cc3 Cl Dc0 Dc1 Dc2 Dc3 Dl
        clear hB HB3
        have Ac0 := A.c 0 rfl; have Ac1 := A.c 1 rfl; have Ac2 := A.c 2 rfl; have Ac3 := A.c 3 rfl; have Al := A.lt
        have Bc0 := B.c 0 rfl; have Bc1 := B.c 1 rfl; have Bc2 := B.c 2 rfl; have Bc3 := B.c 3 rfl; have Bl := B.lt
        have Cc0 := C.c 0 rfl; have Cc1 := C.c 1 rfl; have Cc2 := C.c 2 rfl; have Cc3 := C.c 3 rfl; have Cl := C.lt
        have Dc0 := D.c 0 rfl; have Dc1 := D.c 1 rfl; have Dc2 := D.c 2 rfl; have Dc3 := D.c 3 rfl; have Dl := D.lt
        go_wp2_with fail
        refine (implCmp_any b3 b2 b1 b0 a3 a2 a1 a0 hb.1 hb.2.1 hb.2.2.1 hb.2.2.2 ha.1 ha.2.1 ha.2.2.1 ha.2.2.2 _).mono ?_
        rintro e w5 ⟨rfl, hB⟩
        rw [em]
        replace A := A.step hB
        replace B := B.step hB
        replace C := C.step hB
        replace D := D.step hB
        have HB5 : Below w.heap.size w w5 := HB4.trans (hB.mono HB4.size)
        clear Ac0 Ac1 Ac2 Ac3 Al Bc0 Bc1 Bc2 Bc3 Bl Cc0 Cc1 Cc2 Cc3 Cl Dc0 Dc1 Dc2 Dc3 Dl
        clear hB HB4
        have Ac0 := A.c 0 rfl; have Ac1 := A.c 1 rfl; have Ac2 := A.c 2 rfl; have Ac3 := A.c 3 rfl; have Al := A.lt
        have Bc0 := B.c 0 rfl; have Bc1 := B.c 1 rfl; have Bc2 := B.c 2 rfl; have Bc3 := B.c 3 rfl; have Bl := B.lt
        have Cc0 := C.c 0 rfl; have Cc1 := C.c 1 rfl; have Cc2 := C.c 2 rfl; have Cc3 := C.c 3 rfl; have Cl := C.lt
        have Dc0 := D.c 0 rfl; have Dc1 := D.c 1 rfl; have Dc2 := D.c 2 rfl; have Dc3 := D.c 3 rfl; have Dl := D.lt
        have O : Ord4 w w5 w1.heap.size (w1.heap.size + 1) w2.heap.size (w2.heap.size + 1) [.int .u64 a3, .int .u64 a2, .int .u64 a1, .int .u64 a0] [.int .u64 b3, .int .u64 b2, .int .u64 b1, .int .u64 b0] [.int .u64 c3, .int .u64 c2, .int .u64 c1, .int .u64 c0] [.int .u64 d3, .int .u64 d2, .int .u64 d1, .int .u64 d0] := ⟨HB5, A, B, C, D⟩
        clear A B C D en em
        go_wp2
        all_goals go_meet
        all_goals first | exact ⟨rfl, O⟩ | (exfalso; exact Int.lt_irrefl _ hc0) | (exfalso; unfold sw uw at hc0; split at hc0 <;> split at hc0 <;> omega)
      case rest =>
        clear Ac0 Ac1 Ac2 Ac3 Al Bc0 Bc1 Bc2 Bc3 Bl Cc0 Cc1 Cc2 Cc3 Cl Dc0 Dc1 Dc2 Dc3 Dl A B C D HB3 em
        obtain ⟨hq, O⟩ := hcut
        subst hq
        have x0 := O.a.c 0 rfl; have x1 := O.a.c 1 rfl; have x2 := O.a.c 2 rfl; have x3 := O.a.c 3 rfl; have xl := O.a.lt; have y0 := O.b.c 0 rfl; have y1 := O.b.c 1 rfl; have y2 := O.b.c 2 rfl; have y3 := O.b.c 3 rfl; have yl := O.b.lt
        go_wp2_with fail
        refine (implSub_any a3 a2 a1 a0 b3 b2 b1 b0 ha.1 ha.2.1 ha.2.2.1 ha.2.2.2 hb.1 hb.2.1 hb.2.2.1 hb.2.2.2 _).mono ?_
        intro e w6 hS
        obtain ⟨s3, s2, s1, s0, p, rfl, hSw, hB⟩ := tell_words4 hS
        have OA := O.a.step hB; have OB := O.b.step hB; have OC := O.c.step hB; have OD := O.d.step hB
        have HB6 : Below w.heap.size w w6 := O.below.trans (hB.mono O.below.size)
        clear hB O x0 x1 x2 x3 xl y0 y1 y2 y3 yl
        have x0 := OA.c 0 rfl; have x1 := OA.c 1 rfl; have x2 := OA.c 2 rfl; have x3 := OA.c 3 rfl; have xl := OA.lt; have y0 := OB.c 0 rfl; have y1 := OB.c 1 rfl; have y2 := OB.c 2 rfl; have y3 := OB.c 3 rfl; have yl := OB.lt; have z0 := OC.c 0 rfl; have z1 := OC.c 1 rfl; have z2 := OC.c 2 rfl; have z3 := OC.c 3 rfl; have zl := OC.lt; have t0 := OD.c 0 rfl; have t1 := OD.c 1 rfl; have t2 := OD.c 2 rfl; have t3 := OD.c 3 rfl; have tl := OD.lt
        have eS : p = true → cmpI (sw s3 s2 s1 s0) 0 = -1 := by
          rintro rfl
          rw [(tell_yes hS).2, cmp_sub]
          exact en
        clear hS
        cases p
        · have I0 : OrdL w ((w6.alloc (.cells #[.int .u64 s3, .int .u64 s2, .int .u64 s1, .int .u64 s0] 26)).alloc (.cells #[.int .u64 c3, .int .u64 c2, .int .u64 c1, .int .u64 c0, .int .u64 d3, .int .u64 d2, .int .u64 d1, .int .u64 d0] 26)) w1.heap.size (w1.heap.size + 1) (w6.heap.size + 1) [.int .u64 a3, .int .u64 a2, .int .u64 a1, .int .u64 a0] [.int .u64 b3, .int .u64 b2, .int .u64 b1, .int .u64 b0] [.int .u64 c3, .int .u64 c2, .int .u64 c1, .int .u64 c0, .int .u64 d3, .int .u64 d2, .int .u64 d1, .int .u64 d0] := ⟨(HB6.alloc HB6.size _).alloc (HB6.alloc HB6.size (.cells #[.int .u64 s3, .int .u64 s2, .int .u64 s1, .int .u64 s0] 26)).size _, (OA.alloc _).alloc _, (OB.alloc _).alloc _, Blk.new _ [.int .u64 c3, .int .u64 c2, .int .u64 c1, .int .u64 c0, .int .u64 d3, .int .u64 d2, .int .u64 d1, .int .u64 d0] 26 (by simp)⟩
          clear OA OB OC OD HB6
          go_wp2
          generalize ((w6.alloc (.cells #[.int .u64 s3, .int .u64 s2, .int .u64 s1, .int .u64 s0] 26)).alloc (.cells #[.int .u64 c3, .int .u64 c2, .int .u64 c1, .int .u64 c0, .int .u64 d3, .int .u64 d2, .int .u64 d1, .int .u64 d0] 26)) = W1 at *
          generalize w6.heap.size + 1 = ge at *
          go_loopw [65] (fun i wr => ∃ k : Nat, k ≤ 2 ∧ i = .int .i64 k ∧ OrdL w wr w1.heap.size (w1.heap.size + 1) ge [.int .u64 a3, .int .u64 a2, .int .u64 a1, .int .u64 a0] [.int .u64 b3, .int .u64 b2, .int .u64 b1, .int .u64 b0] [.int .u64 c3, .int .u64 c2, .int .u64 c1, .int .u64 c0, .int .u64 d3, .int .u64 d2, .int .u64 d1, .int .u64 d0]) (fun i _ => 2 - (intOf i).toNat)
          case atStart => exact ⟨0, by omega, rfl, I0⟩
          case round =>
            clear I0
            obtain ⟨k, hk, rfl, I0⟩ := hrel
            have x0 := I0.a.c 0 rfl; have x1 := I0.a.c 1 rfl; have x2 := I0.a.c 2 rfl; have x3 := I0.a.c 3 rfl; have xl := I0.a.lt; have y0 := I0.b.c 0 rfl; have y1 := I0.b.c 1 rfl; have y2 := I0.b.c 2 rfl; have y3 := I0.b.c 3 rfl; have yl := I0.b.lt; have z0 := I0.e.c 0 rfl; have z1 := I0.e.c 1 rfl; have z2 := I0.e.c 2 rfl; have z3 := I0.e.c 3 rfl; have z4 := I0.e.c 4 rfl; have z5 := I0.e.c 5 rfl; have z6 := I0.e.c 6 rfl; have z7 := I0.e.c 7 rfl; have zl := I0.e.lt
            rcases (by omega : k = 0 ∨ k = 1 ∨ k = 2) with rfl | rfl | rfl
            · go_wp2_with fail
              refine (implCmp_any b3 b2 b1 b0 c3 c2 c1 c0 hb.1 hb.2.1 hb.2.2.1 hb.2.2.2 hc.1 hc.2.1 hc.2.2.1 hc.2.2.2 _).mono ?_
              rintro e w8 ⟨rfl, hB⟩
              replace I0 := (I0.alloc _).step hB
              clear x0 x1 x2 x3 xl y0 y1 y2 y3 yl z0 z1 z2 z3 z4 z5 z6 z7 zl
              have XB := (Blk.new wr [.int .u64 c3, .int .u64 c2, .int .u64 c1, .int .u64 c0] 26 rfl).step hB
              clear hB
              have x0 := I0.a.c 0 rfl; have x1 := I0.a.c 1 rfl; have x2 := I0.a.c 2 rfl; have x3 := I0.a.c 3 rfl; have xl := I0.a.lt; have y0 := XB.c 0 rfl; have y1 := XB.c 1 rfl; have y2 := XB.c 2 rfl; have y3 := XB.c 3 rfl; have yl := XB.lt
              by_cases hle : sw b3 b2 b1 b0 ≤ sw c3 c2 c1 c0
              · have h1 := cmp_le.2 hle
                have h2 : cmpI (sw a3 a2 a1 a0) (sw c3 c2 c1 c0) ≤ 0 := cmp_le.2 (by omega)
                generalize cmpI (sw b3 b2 b1 b0) (sw c3 c2 c1 c0) = m1 at *
                go_wp2_with fail
                refine (implCmp_any a3 a2 a1 a0 c3 c2 c1 c0 ha.1 ha.2.1 ha.2.2.1 ha.2.2.2 hc.1 hc.2.1 hc.2.2.1 hc.2.2.2 _).mono ?_
                rintro e w9 ⟨rfl, hB⟩
                replace I0 := I0.step hB
                clear hB XB x0 x1 x2 x3 xl y0 y1 y2 y3 yl
                generalize cmpI (sw a3 a2 a1 a0) (sw c3 c2 c1 c0) = m2 at *
                have h3 : ¬ 0 < m2 := by omega
                go_wp2
                all_goals go_roundw
                all_goals first | exact ⟨0 + 1, by omega, rfl, I0⟩ | simp [intOf]
              · have h1 : decide (cmpI (sw b3 b2 b1 b0) (sw c3 c2 c1 c0) ≤ 0) = false := by simp only [cmp_le, decide_eq_false_iff_not]; exact hle
                generalize cmpI (sw b3 b2 b1 b0) (sw c3 c2 c1 c0) = m1 at *
                go_wp2
                all_goals go_roundw
                all_goals first | exact ⟨0 + 1, by omega, rfl, I0⟩ | simp [intOf]
            · go_wp2_with fail
              refine (implCmp_any b3 b2 b1 b0 d3 d2 d1 d0 hb.1 hb.2.1 hb.2.2.1 hb.2.2.2 hd.1 hd.2.1 hd.2.2.1 hd.2.2.2 _).mono ?_
              rintro e w8 ⟨rfl, hB⟩
              replace I0 := (I0.alloc _).step hB
              clear x0 x1 x2 x3 xl y0 y1 y2 y3 yl z0 z1 z2 z3 z4 z5 z6 z7 zl
              have XB := (Blk.new wr [.int .u64 d3, .int .u64 d2, .int .u64 d1, .int .u64 d0] 26 rfl).step hB
              clear hB
              have x0 := I0.a.c 0 rfl; have x1 := I0.a.c 1 rfl; have x2 := I0.a.c 2 rfl; have x3 := I0.a.c 3 rfl; have xl := I0.a.lt; have y0 := XB.c 0 rfl; have y1 := XB.c 1 rfl; have y2 := XB.c 2 rfl; have y3 := XB.c 3 rfl; have yl := XB.lt
              by_cases hle : sw b3 b2 b1 b0 ≤ sw d3 d2 d1 d0
              · have h1 := cmp_le.2 hle
                have h2 : cmpI (sw a3 a2 a1 a0) (sw d3 d2 d1 d0) ≤ 0 := cmp_le.2 (by omega)
                generalize cmpI (sw b3 b2 b1 b0) (sw d3 d2 d1 d0) = m1 at *
                go_wp2_with fail
                refine (implCmp_any a3 a2 a1 a0 d3 d2 d1 d0 ha.1 ha.2.1 ha.2.2.1 ha.2.2.2 hd.1 hd.2.1 hd.2.2.1 hd.2.2.2 _).mono ?_
                rintro e w9 ⟨rfl, hB⟩
                replace I0 := I0.step hB
                clear hB XB x0 x1 x2 x3 xl y0 y1 y2 y3 yl
                generalize cmpI (sw a3 a2 a1 a0) (sw d3 d2 d1 d0) = m2 at *
                have h3 : ¬ 0 < m2 := by omega
                go_wp2
                all_goals go_roundw
                all_goals first | exact ⟨1 + 1, by omega, rfl, I0⟩ | simp [intOf]
              · have h1 : decide (cmpI (sw b3 b2 b1 b0) (sw d3 d2 d1 d0) ≤ 0) = false := by simp only [cmp_le, decide_eq_false_iff_not]; exact hle
                generalize cmpI (sw b3 b2 b1 b0) (sw d3 d2 d1 d0) = m1 at *
                go_wp2
                all_goals go_roundw
                all_goals first | exact ⟨1 + 1, by omega, rfl, I0⟩ | simp [intOf]
            · go_wp2
              go_ret
              exact ⟨rfl, I0.below⟩
        · go_wp2_with fail
          refine (implSign_any s3 s2 s1 s0 hSw.1 hSw.2.1 hSw.2.2.1 hSw.2.2.2 _).mono ?_
          rintro e w7 ⟨rfl, hB⟩
          rw [eS (by trivial)]
          replace OA := (OA.alloc (.cells #[.int .u64 s3, .int .u64 s2, .int .u64 s1, .int .u64 s0] 26)).step hB
          replace OB := (OB.alloc (.cells #[.int .u64 s3, .int .u64 s2, .int .u64 s1, .int .u64 s0] 26)).step hB
          replace OC := (OC.alloc (.cells #[.int .u64 s3, .int .u64 s2, .int .u64 s1, .int .u64 s0] 26)).step hB
          replace OD := (OD.alloc (.cells #[.int .u64 s3, .int .u64 s2, .int .u64 s1, .int .u64 s0] 26)).step hB
          have HB7 : Below w.heap.size w w7 := (HB6.alloc HB6.size (.cells #[.int .u64 s3, .int .u64 s2, .int .u64 s1, .int .u64 s0] 26)).trans (hB.mono (HB6.alloc HB6.size (.cells #[.int .u64 s3, .int .u64 s2, .int .u64 s1, .int .u64 s0] 26)).size)
          clear hB HB6 x0 x1 x2 x3 xl y0 y1 y2 y3 yl z0 z1 z2 z3 zl t0 t1 t2 t3 tl
          have x0 := OA.c 0 rfl; have x1 := OA.c 1 rfl; have x2 := OA.c 2 rfl; have x3 := OA.c 3 rfl; have xl := OA.lt; have y0 := OB.c 0 rfl; have y1 := OB.c 1 rfl; have y2 := OB.c 2 rfl; have y3 := OB.c 3 rfl; have yl := OB.lt; have z0 := OC.c 0 rfl; have z1 := OC.c 1 rfl; have z2 := OC.c 2 rfl; have z3 := OC.c 3 rfl; have zl := OC.lt; have t0 := OD.c 0 rfl; have t1 := OD.c 1 rfl; have t2 := OD.c 2 rfl; have t3 := OD.c 3 rfl; have tl := OD.lt
          have I0 : OrdL w (w7.alloc (.cells #[.int .u64 c3, .int .u64 c2, .int .u64 c1, .int .u64 c0, .int .u64 d3, .int .u64 d2, .int .u64 d1, .int .u64 d0] 26)) w1.heap.size (w1.heap.size + 1) w7.heap.size [.int .u64 a3, .int .u64 a2, .int .u64 a1, .int .u64 a0] [.int .u64 b3, .int .u64 b2, .int .u64 b1, .int .u64 b0] [.int .u64 c3, .int .u64 c2, .int .u64 c1, .int .u64 c0, .int .u64 d3, .int .u64 d2, .int .u64 d1, .int .u64 d0] := ⟨HB7.alloc HB7.size _, OA.alloc _, OB.alloc _, Blk.new _ [.int .u64 c3, .int .u64 c2, .int .u64 c1, .int .u64 c0, .int .u64 d3, .int .u64 d2, .int .u64 d1, .int .u64 d0] 26 rfl⟩
          clear OA OB OC OD HB7
          go_wp2
          generalize (w7.alloc (.cells #[.int .u64 c3, .int .u64 c2, .int .u64 c1, .int .u64 c0, .int .u64 d3, .int .u64 d2, .int .u64 d1, .int .u64 d0] 26)) = W1 at *
          generalize w7.heap.size = ge at *
          go_loopw [65] (fun i wr => ∃ k : Nat, k ≤ 2 ∧ i = .int .i64 k ∧ OrdL w wr w1.heap.size (w1.heap.size + 1) ge [.int .u64 a3, .int .u64 a2, .int .u64 a1, .int .u64 a0] [.int .u64 b3, .int .u64 b2, .int .u64 b1, .int .u64 b0] [.int .u64 c3, .int .u64 c2, .int .u64 c1, .int .u64 c0, .int .u64 d3, .int .u64 d2, .int .u64 d1, .int .u64 d0]) (fun i _ => 2 - (intOf i).toNat)
          case atStart => exact ⟨0, by omega, rfl, I0⟩
          case round =>
            clear I0
            obtain ⟨k, hk, rfl, I0⟩ := hrel
            have x0 := I0.a.c 0 rfl; have x1 := I0.a.c 1 rfl; have x2 := I0.a.c 2 rfl; have x3 := I0.a.c 3 rfl; have xl := I0.a.lt; have y0 := I0.b.c 0 rfl; have y1 := I0.b.c 1 rfl; have y2 := I0.b.c 2 rfl; have y3 := I0.b.c 3 rfl; have yl := I0.b.lt; have z0 := I0.e.c 0 rfl; have z1 := I0.e.c 1 rfl; have z2 := I0.e.c 2 rfl; have z3 := I0.e.c 3 rfl; have z4 := I0.e.c 4 rfl; have z5 := I0.e.c 5 rfl; have z6 := I0.e.c 6 rfl; have z7 := I0.e.c 7 rfl; have zl := I0.e.lt
            rcases (by omega : k = 0 ∨ k = 1 ∨ k = 2) with rfl | rfl | rfl
            · go_wp2_with fail
              refine (implCmp_any b3 b2 b1 b0 c3 c2 c1 c0 hb.1 hb.2.1 hb.2.2.1 hb.2.2.2 hc.1 hc.2.1 hc.2.2.1 hc.2.2.2 _).mono ?_
              rintro e w8 ⟨rfl, hB⟩
              replace I0 := (I0.alloc _).step hB
              clear x0 x1 x2 x3 xl y0 y1 y2 y3 yl z0 z1 z2 z3 z4 z5 z6 z7 zl
              have XB := (Blk.new wr [.int .u64 c3, .int .u64 c2, .int .u64 c1, .int .u64 c0] 26 rfl).step hB
              clear hB
              have x0 := I0.a.c 0 rfl; have x1 := I0.a.c 1 rfl; have x2 := I0.a.c 2 rfl; have x3 := I0.a.c 3 rfl; have xl := I0.a.lt; have y0 := XB.c 0 rfl; have y1 := XB.c 1 rfl; have y2 := XB.c 2 rfl; have y3 := XB.c 3 rfl; have yl := XB.lt
              by_cases hle : sw b3 b2 b1 b0 ≤ sw c3 c2 c1 c0
              · have h1 := cmp_le.2 hle
                have h2 : cmpI (sw a3 a2 a1 a0) (sw c3 c2 c1 c0) ≤ 0 := cmp_le.2 (by omega)
                generalize cmpI (sw b3 b2 b1 b0) (sw c3 c2 c1 c0) = m1 at *
                go_wp2_with fail
                refine (implCmp_any a3 a2 a1 a0 c3 c2 c1 c0 ha.1 ha.2.1 ha.2.2.1 ha.2.2.2 hc.1 hc.2.1 hc.2.2.1 hc.2.2.2 _).mono ?_
                rintro e w9 ⟨rfl, hB⟩
                replace I0 := I0.step hB
                clear hB XB x0 x1 x2 x3 xl y0 y1 y2 y3 yl
                generalize cmpI (sw a3 a2 a1 a0) (sw c3 c2 c1 c0) = m2 at *
                have h3 : ¬ 0 < m2 := by omega
                go_wp2
                all_goals go_roundw
                all_goals first | exact ⟨0 + 1, by omega, rfl, I0⟩ | simp [intOf]
              · have h1 : decide (cmpI (sw b3 b2 b1 b0) (sw c3 c2 c1 c0) ≤ 0) = false := by simp only [cmp_le, decide_eq_false_iff_not]; exact hle
                generalize cmpI (sw b3 b2 b1 b0) (sw c3 c2 c1 c0) = m1 at *
                go_wp2
                all_goals go_roundw
                all_goals first | exact ⟨0 + 1, by omega, rfl, I0⟩ | simp [intOf]
            · go_wp2_with fail
              refine (implCmp_any b3 b2 b1 b0 d3 d2 d1 d0 hb.1 hb.2.1 hb.2.2.1 hb.2.2.2 hd.1 hd.2.1 hd.2.2.1 hd.2.2.2 _).mono ?_
              rintro e w8 ⟨rfl, hB⟩
              replace I0 := (I0.alloc _).step hB
              clear x0 x1 x2 x3 xl y0 y1 y2 y3 yl z0 z1 z2 z3 z4 z5 z6 z7 zl
              have XB := (Blk.new wr [.int .u64 d3, .int .u64 d2, .int .u64 d1, .int .u64 d0] 26 rfl).step hB
              clear hB
              have x0 := I0.a.c 0 rfl; have x1 := I0.a.c 1 rfl; have x2 := I0.a.c 2 rfl; have x3 := I0.a.c 3 rfl; have xl := I0.a.lt; have y0 := XB.c 0 rfl; have y1 := XB.c 1 rfl; have y2 := XB.c 2 rfl; have y3 := XB.c 3 rfl; have yl := XB.lt
              by_cases hle : sw b3 b2 b1 b0 ≤ sw d3 d2 d1 d0
              · have h1 := cmp_le.2 hle
                have h2 : cmpI (sw a3 a2 a1 a0) (sw d3 d2 d1 d0) ≤ 0 := cmp_le.2 (by omega)
                generalize cmpI (sw b3 b2 b1 b0) (sw d3 d2 d1 d0) = m1 at *
                go_wp2_with fail
                refine (implCmp_any a3 a2 a1 a0 d3 d2 d1 d0 ha.1 ha.2.1 ha.2.2.1 ha.2.2.2 hd.1 hd.2.1 hd.2.2.1 hd.2.2.2 _).mono ?_
                rintro e w9 ⟨rfl, hB⟩
                replace I0 := I0.step hB
                clear hB XB x0 x1 x2 x3 xl y0 y1 y2 y3 yl
                generalize cmpI (sw a3 a2 a1 a0) (sw d3 d2 d1 d0) = m2 at *
                have h3 : ¬ 0 < m2 := by omega
                go_wp2
                all_goals go_roundw
                all_goals first | exact ⟨1 + 1, by omega, rfl, I0⟩ | simp [intOf]
              · have h1 : decide (cmpI (sw b3 b2 b1 b0) (sw d3 d2 d1 d0) ≤ 0) = false := by simp only [cmp_le, decide_eq_false_iff_not]; exact hle
                generalize cmpI (sw b3 b2 b1 b0) (sw d3 d2 d1 d0) = m1 at *
                go_wp2
                all_goals go_roundw
                all_goals first | exact ⟨1 + 1, by omega, rfl, I0⟩ | simp [intOf]
            · go_wp2
              go_ret
              exact ⟨rfl, I0.below⟩
    · have en : cmpI (sw a3 a2 a1 a0) (sw b3 b2 b1 b0) = 0 := cmpI_eq hc0
      have em : cmpI (sw b3 b2 b1 b0) (sw a3 a2 a1 a0) = 0 := cmpI_eq hc0.symm
      rw [en]
      go_upto_region 6 with fail
      go_cut [47] (fun q wx => q = .bool false ∧ Ord4 w wx w1.heap.size (w1.heap.size + 1) w2.heap.size (w2.heap.size + 1) [.int .u64 a3, .int .u64 a2, .int .u64 a1, .int .u64 a0] [.int .u64 b3, .int .u64 b2, .int .u64 b1, .int .u64 b0] [.int .u64 c3, .int .u64 c2, .int .u64 c1, .int .u64 c0] [.int .u64 d3, .int .u64 d2, .int .u64 d1, .int .u64 d0])
      case first =>
        go_wp2_with fail
        refine (specCmp_any a3 a2 a1 a0 b3 b2 b1 b0 ha.1 ha.2.1 ha.2.2.1 ha.2.2.2 hb.1 hb.2.1 hb.2.2.1 hb.2.2.2 _).mono ?_
        rintro e w4 ⟨rfl, hB⟩
        rw [en]
        replace A := A.step hB
        replace B := B.step hB
        replace C := C.step hB
        replace D := D.step hB
        have HB4 : Below w.heap.size w w4 := HB3.trans (hB.mono HB3.size)
        clear Ac0 Ac1 Ac2 Ac3 Al Bc0 Bc1 Bc2 Bc3 Bl Cc0 Cc1 Cc2 Cc3 Cl Dc0 Dc1 Dc2 Dc3 Dl
        clear hB HB3
        have Ac0 := A.c 0 rfl; have Ac1 := A.c 1 rfl; have Ac2 := A.c 2 rfl; have Ac3 := A.c 3 rfl; have Al := A.lt
        have Bc0 := B.c 0 rfl; have Bc1 := B.c 1 rfl; have Bc2 := B.c 2 rfl; have Bc3 := B.c 3 rfl; have Bl := B.lt
        have Cc0 := C.c 0 rfl; have Cc1 := C.c 1 rfl; have Cc2 := C.c 2 rfl; have Cc3 := C.c 3 rfl; have Cl := C.lt
        have Dc0 := D.c 0 rfl; have Dc1 := D.c 1 rfl; have Dc2 := D.c 2 rfl; have Dc3 := D.c 3 rfl; have Dl := D.lt
        go_wp2_with fail
        refine (implCmp_any b3 b2 b1 b0 a3 a2 a1 a0 hb.1 hb.2.1 hb.2.2.1 hb.2.2.2 ha.1 ha.2.1 ha.2.2.1 ha.2.2.2 _).mono ?_
        rintro e w5 ⟨rfl, hB⟩
        rw [em]
        replace A := A.step hB
        replace B := B.step hB
        replace C := C.step hB
        replace D := D.step hB
        have HB5 : Below w.heap.size w w5 := HB4.trans (hB.mono HB4.size)
        clear Ac0 Ac1 Ac2 Ac3 Al Bc0 Bc1 Bc2 Bc3 Bl Cc0 Cc1 Cc2 Cc3 Cl Dc0 Dc1 Dc2 Dc3 Dl
        clear hB HB4
        have Ac0 := A.c 0 rfl; have Ac1 := A.c 1 rfl; have Ac2 := A.c 2 rfl; have Ac3 := A.c 3 rfl; have Al := A.lt
        have Bc0 := B.c 0 rfl; have Bc1 := B.c 1 rfl; have Bc2 := B.c 2 rfl; have Bc3 := B.c 3 rfl; have Bl := B.lt
        have Cc0 := C.c 0 rfl; have Cc1 := C.c 1 rfl; have Cc2 := C.c 2 rfl; have Cc3 := C.c 3 rfl; have Cl := C.lt
        have Dc0 := D.c 0 rfl; have Dc1 := D.c 1 rfl; have Dc2 := D.c 2 rfl; have Dc3 := D.c 3 rfl; have Dl := D.lt
        have O : Ord4 w w5 w1.heap.size (w1.heap.size + 1) w2.heap.size (w2.heap.size + 1) [.int .u64 a3, .int .u64 a2, .int .u64 a1, .int .u64 a0] [.int .u64 b3, .int .u64 b2, .int .u64 b1, .int .u64 b0] [.int .u64 c3, .int .u64 c2, .int .u64 c1, .int .u64 c0] [.int .u64 d3, .int .u64 d2, .int .u64 d1, .int .u64 d0] := ⟨HB5, A, B, C, D⟩
        clear A B C D en em
        have x0 : (a3 == b3) = true := by simpa using (sw_inj ha.1 ha.2.1 ha.2.2.1 ha.2.2.2 hb.1 hb.2.1 hb.2.2.1 hb.2.2.2 hc0).1
        have x1 : (a2 == b2) = true := by simpa using (sw_inj ha.1 ha.2.1 ha.2.2.1 ha.2.2.2 hb.1 hb.2.1 hb.2.2.1 hb.2.2.2 hc0).2.1
        have x2 : (a1 == b1) = true := by simpa using (sw_inj ha.1 ha.2.1 ha.2.2.1 ha.2.2.2 hb.1 hb.2.1 hb.2.2.1 hb.2.2.2 hc0).2.2.1
        have x3 : (a0 == b0) = true := by simpa using (sw_inj ha.1 ha.2.1 ha.2.2.1 ha.2.2.2 hb.1 hb.2.1 hb.2.2.1 hb.2.2.2 hc0).2.2.2
        go_wp2
        all_goals go_meet
        all_goals first | exact ⟨rfl, O⟩ | (exfalso; exact Int.lt_irrefl _ hc0) | (exfalso; unfold sw uw at hc0; split at hc0 <;> split at hc0 <;> omega)
      case rest =>
        clear Ac0 Ac1 Ac2 Ac3 Al Bc0 Bc1 Bc2 Bc3 Bl Cc0 Cc1 Cc2 Cc3 Cl Dc0 Dc1 Dc2 Dc3 Dl A B C D HB3 em
        obtain ⟨hq, O⟩ := hcut
        subst hq
        have x0 := O.a.c 0 rfl; have x1 := O.a.c 1 rfl; have x2 := O.a.c 2 rfl; have x3 := O.a.c 3 rfl; have xl := O.a.lt; have y0 := O.b.c 0 rfl; have y1 := O.b.c 1 rfl; have y2 := O.b.c 2 rfl; have y3 := O.b.c 3 rfl; have yl := O.b.lt
        go_wp2_with fail
        refine (implSub_any a3 a2 a1 a0 b3 b2 b1 b0 ha.1 ha.2.1 ha.2.2.1 ha.2.2.2 hb.1 hb.2.1 hb.2.2.1 hb.2.2.2 _).mono ?_
        intro e w6 hS
        obtain ⟨s3, s2, s1, s0, p, rfl, hSw, hB⟩ := tell_words4 hS
        have OA := O.a.step hB; have OB := O.b.step hB; have OC := O.c.step hB; have OD := O.d.step hB
        have HB6 : Below w.heap.size w w6 := O.below.trans (hB.mono O.below.size)
        clear hB O x0 x1 x2 x3 xl y0 y1 y2 y3 yl
        have x0 := OA.c 0 rfl; have x1 := OA.c 1 rfl; have x2 := OA.c 2 rfl; have x3 := OA.c 3 rfl; have xl := OA.lt; have y0 := OB.c 0 rfl; have y1 := OB.c 1 rfl; have y2 := OB.c 2 rfl; have y3 := OB.c 3 rfl; have yl := OB.lt; have z0 := OC.c 0 rfl; have z1 := OC.c 1 rfl; have z2 := OC.c 2 rfl; have z3 := OC.c 3 rfl; have zl := OC.lt; have t0 := OD.c 0 rfl; have t1 := OD.c 1 rfl; have t2 := OD.c 2 rfl; have t3 := OD.c 3 rfl; have tl := OD.lt
        have eS : p = true → cmpI (sw s3 s2 s1 s0) 0 = 0 := by
          rintro rfl
          rw [(tell_yes hS).2, cmp_sub]
          exact en
        clear hS
        cases p
        · have I0 : OrdL w ((w6.alloc (.cells #[.int .u64 s3, .int .u64 s2, .int .u64 s1, .int .u64 s0] 26)).alloc (.cells #[.int .u64 c3, .int .u64 c2, .int .u64 c1, .int .u64 c0, .int .u64 d3, .int .u64 d2, .int .u64 d1, .int .u64 d0] 26)) w1.heap.size (w1.heap.size + 1) (w6.heap.size + 1) [.int .u64 a3, .int .u64 a2, .int .u64 a1, .int .u64 a0] [.int .u64 b3, .int .u64 b2, .int .u64 b1, .int .u64 b0] [.int .u64 c3, .int .u64 c2, .int .u64 c1, .int .u64 c0, .int .u64 d3, .int .u64 d2, .int .u64 d1, .int .u64 d0] := ⟨(HB6.alloc HB6.size _).alloc (HB6.alloc HB6.size (.cells #[.int .u64 s3, .int .u64 s2, .int .u64 s1, .int .u64 s0] 26)).size _, (OA.alloc _).alloc _, (OB.alloc _).alloc _, Blk.new _ [.int .u64 c3, .int .u64 c2, .int .u64 c1, .int .u64 c0, .int .u64 d3, .int .u64 d2, .int .u64 d1, .int .u64 d0] 26 (by simp)⟩
          clear OA OB OC OD HB6
          go_wp2
          generalize ((w6.alloc (.cells #[.int .u64 s3, .int .u64 s2, .int .u64 s1, .int .u64 s0] 26)).alloc (.cells #[.int .u64 c3, .int .u64 c2, .int .u64 c1, .int .u64 c0, .int .u64 d3, .int .u64 d2, .int .u64 d1, .int .u64 d0] 26)) = W1 at *
          generalize w6.heap.size + 1 = ge at *
          go_loopw [65] (fun i wr => ∃ k : Nat, k ≤ 2 ∧ i = .int .i64 k ∧ OrdL w wr w1.heap.size (w1.heap.size + 1) ge [.int .u64 a3, .int .u64 a2, .int .u64 a1, .int .u64 a0] [.int .u64 b3, .int .u64 b2, .int .u64 b1, .int .u64 b0] [.int .u64 c3, .int .u64 c2, .int .u64 c1, .int .u64 c0, .int .u64 d3, .int .u64 d2, .int .u64 d1, .int .u64 d0]) (fun i _ => 2 - (intOf i).toNat)
          case atStart => exact ⟨0, by omega, rfl, I0⟩
          case round =>
            clear I0
            obtain ⟨k, hk, rfl, I0⟩ := hrel
            have x0 := I0.a.c 0 rfl; have x1 := I0.a.c 1 rfl; have x2 := I0.a.c 2 rfl; have x3 := I0.a.c 3 rfl; have xl := I0.a.lt; have y0 := I0.b.c 0 rfl; have y1 := I0.b.c 1 rfl; have y2 := I0.b.c 2 rfl; have y3 := I0.b.c 3 rfl; have yl := I0.b.lt; have z0 := I0.e.c 0 rfl; have z1 := I0.e.c 1 rfl; have z2 := I0.e.c 2 rfl; have z3 := I0.e.c 3 rfl; have z4 := I0.e.c 4 rfl; have z5 := I0.e.c 5 rfl; have z6 := I0.e.c 6 rfl; have z7 := I0.e.c 7 rfl; have zl := I0.e.lt
            rcases (by omega : k = 0 ∨ k = 1 ∨ k = 2) with rfl | rfl | rfl
            · go_wp2_with fail
              refine (implCmp_any b3 b2 b1 b0 c3 c2 c1 c0 hb.1 hb.2.1 hb.2.2.1 hb.2.2.2 hc.1 hc.2.1 hc.2.2.1 hc.2.2.2 _).mono ?_
              rintro e w8 ⟨rfl, hB⟩
              replace I0 := (I0.alloc _).step hB
              clear x0 x1 x2 x3 xl y0 y1 y2 y3 yl z0 z1 z2 z3 z4 z5 z6 z7 zl
              have XB := (Blk.new wr [.int .u64 c3, .int .u64 c2, .int .u64 c1, .int .u64 c0] 26 rfl).step hB
              clear hB
              have x0 := I0.a.c 0 rfl; have x1 := I0.a.c 1 rfl; have x2 := I0.a.c 2 rfl; have x3 := I0.a.c 3 rfl; have xl := I0.a.lt; have y0 := XB.c 0 rfl; have y1 := XB.c 1 rfl; have y2 := XB.c 2 rfl; have y3 := XB.c 3 rfl; have yl := XB.lt
              by_cases hle : sw b3 b2 b1 b0 ≤ sw c3 c2 c1 c0
              · have h1 := cmp_le.2 hle
                have h2 : cmpI (sw a3 a2 a1 a0) (sw c3 c2 c1 c0) ≤ 0 := cmp_le.2 (by omega)
                generalize cmpI (sw b3 b2 b1 b0) (sw c3 c2 c1 c0) = m1 at *
                go_wp2_with fail
                refine (implCmp_any a3 a2 a1 a0 c3 c2 c1 c0 ha.1 ha.2.1 ha.2.2.1 ha.2.2.2 hc.1 hc.2.1 hc.2.2.1 hc.2.2.2 _).mono ?_
                rintro e w9 ⟨rfl, hB⟩
                replace I0 := I0.step hB
                clear hB XB x0 x1 x2 x3 xl y0 y1 y2 y3 yl
                generalize cmpI (sw a3 a2 a1 a0) (sw c3 c2 c1 c0) = m2 at *
                have h3 : ¬ 0 < m2 := by omega
                go_wp2
                all_goals go_roundw
                all_goals first | exact ⟨0 + 1, by omega, rfl, I0⟩ | simp [intOf]
              · have h1 : decide (cmpI (sw b3 b2 b1 b0) (sw c3 c2 c1 c0) ≤ 0) = false := by simp only [cmp_le, decide_eq_false_iff_not]; exact hle
                generalize cmpI (sw b3 b2 b1 b0) (sw c3 c2 c1 c0) = m1 at *
                go_wp2
                all_goals go_roundw
                all_goals first | exact ⟨0 + 1, by omega, rfl, I0⟩ | simp [intOf]
            · go_wp2_with fail
              refine (implCmp_any b3 b2 b1 b0 d3 d2 d1 d0 hb.1 hb.2.1 hb.2.2.1 hb.2.2.2 hd.1 hd.2.1 hd.2.2.1 hd.2.2.2 _).mono ?_
              rintro e w8 ⟨rfl, hB⟩
              replace I0 := (I0.alloc _).step hB
              clear x0 x1 x2 x3 xl y0 y1 y2 y3 yl z0 z1 z2 z3 z4 z5 z6 z7 zl
              have XB := (Blk.new wr [.int .u64 d3, .int .u64 d2, .int .u64 d1, .int .u64 d0] 26 rfl).step hB
              clear hB
              have x0 := I0.a.c 0 rfl; have x1 := I0.a.c 1 rfl; have x2 := I0.a.c 2 rfl; have x3 := I0.a.c 3 rfl; have xl := I0.a.lt; have y0 := XB.c 0 rfl; have y1 := XB.c 1 rfl; have y2 := XB.c 2 rfl; have y3 := XB.c 3 rfl; have yl := XB.lt
              by_cases hle : sw b3 b2 b1 b0 ≤ sw d3 d2 d1 d0
              · have h1 := cmp_le.2 hle
                have h2 : cmpI (sw a3 a2 a1 a0) (sw d3 d2 d1 d0) ≤ 0 := cmp_le.2 (by omega)
                generalize cmpI (sw b3 b2 b1 b0) (sw d3 d2 d1 d0) = m1 at *
                go_wp2_with fail
                refine (implCmp_any a3 a2 a1 a0 d3 d2 d1 d0 ha.1 ha.2.1 ha.2.2.1 ha.2.2.2 hd.1 hd.2.1 hd.2.2.1 hd.2.2.2 _).mono ?_
                rintro e w9 ⟨rfl, hB⟩
                replace I0 := I0.step hB
                clear hB XB x0 x1 x2 x3 xl y0 y1 y2 y3 yl
                generalize cmpI (sw a3 a2 a1 a0) (sw d3 d2 d1 d0) = m2 at *
                have h3 : ¬ 0 < m2 := by omega
                go_wp2
                all_goals go_roundw
                all_goals first | exact ⟨1 + 1, by omega, rfl, I0⟩ | simp [intOf]
              · have h1 : decide (cmpI (sw b3 b2 b1 b0) (sw d3 d2 d1 d0) ≤ 0) = false := by simp only [cmp_le, decide_eq_false_iff_not]; exact hle
                generalize cmpI (sw b3 b2 b1 b0) (sw d3 d2 d1 d0) = m1 at *
                go_wp2
                all_goals go_roundw
                all_goals first | exact ⟨1 + 1, by omega, rfl, I0⟩ | simp [intOf]
            · go_wp2
              go_ret
              exact ⟨rfl, I0.below⟩
        · go_wp2_with fail
          refine (implSign_any s3 s2 s1 s0 hSw.1 hSw.2.1 hSw.2.2.1 hSw.2.2.2 _).mono ?_
          rintro e w7 ⟨rfl, hB⟩
          rw [eS (by trivial)]
          replace OA := (OA.alloc (.cells #[.int .u64 s3, .int .u64 s2, .int .u64 s1, .int .u64 s0] 26)).step hB
          replace OB := (OB.alloc (.cells #[.int .u64 s3, .int .u64 s2, .int .u64 s1, .int .u64 s0] 26)).step hB
          replace OC := (OC.alloc (.cells #[.int .u64 s3, .int .u64 s2, .int .u64 s1, .int .u64 s0] 26)).step hB
          replace OD := (OD.alloc (.cells #[.int .u64 s3, .int .u64 s2, .int .u64 s1, .int .u64 s0] 26)).step hB
          have HB7 : Below w.heap.size w w7 := (HB6.alloc HB6.size (.cells #[.int .u64 s3, .int .u64 s2, .int .u64 s1, .int .u64 s0] 26)).trans (hB.mono (HB6.alloc HB6.size (.cells #[.int .u64 s3, .int .u64 s2, .int .u64 s1, .int .u64 s0] 26)).size)
          clear hB HB6 x0 x1 x2 x3 xl y0 y1 y2 y3 yl z0 z1 z2 z3 zl t0 t1 t2 t3 tl
          have x0 := OA.c 0 rfl; have x1 := OA.c 1 rfl; have x2 := OA.c 2 rfl; have x3 := OA.c 3 rfl; have xl := OA.lt; have y0 := OB.c 0 rfl; have y1 := OB.c 1 rfl; have y2 := OB.c 2 rfl; have y3 := OB.c 3 rfl; have yl := OB.lt; have z0 := OC.c 0 rfl; have z1 := OC.c 1 rfl; have z2 := OC.c 2 rfl; have z3 := OC.c 3 rfl; have zl := OC.lt; have t0 := OD.c 0 rfl; have t1 := OD.c 1 rfl; have t2 := OD.c 2 rfl; have t3 := OD.c 3 rfl; have tl := OD.lt
          have I0 : OrdL w (w7.alloc (.cells #[.int .u64 c3, .int .u64 c2, .int .u64 c1, .int .u64 c0, .int .u64 d3, .int .u64 d2, .int .u64 d1, .int .u64 d0] 26)) w1.heap.size (w1.heap.size + 1) w7.heap.size [.int .u64 a3, .int .u64 a2, .int .u64 a1, .int .u64 a0] [.int .u64 b3, .int .u64 b2, .int .u64 b1, .int .u64 b0] [.int .u64 c3, .int .u64 c2, .int .u64 c1, .int .u64 c0, .int .u64 d3, .int .u64 d2, .int .u64 d1, .int .u64 d0] := ⟨HB7.alloc HB7.size _, OA.alloc _, OB.alloc _, Blk.new _ [.int .u64 c3, .int .u64 c2, .int .u64 c1, .int .u64 c0, .int .u64 d3, .int .u64 d2, .int .u64 d1, .int .u64 d0] 26 rfl⟩
          clear OA OB OC OD HB7
          go_wp2
          generalize (w7.alloc (.cells #[.int .u64 c3, .int .u64 c2, .int .u64 c1, .int .u64 c0, .int .u64 d3, .int .u64 d2, .int .u64 d1, .int .u64 d0] 26)) = W1 at *
          generalize w7.heap.size = ge at *
          go_loopw [65] (fun i wr => ∃ k : Nat, k ≤ 2 ∧ i = .int .i64 k ∧ OrdL w wr w1.heap.size (w1.heap.size + 1) ge [.int .u64 a3, .int .u64 a2, .int .u64 a1, .int .u64 a0] [.int .u64 b3, .int .u64 b2, .int .u64 b1, .int .u64 b0] [.int .u64 c3, .int .u64 c2, .int .u64 c1, .int .u64 c0, .int .u64 d3, .int .u64 d2, .int .u64 d1, .int .u64 d0]) (fun i _ => 2 - (intOf i).toNat)
          case atStart => exact ⟨0, by omega, rfl, I0⟩
          case round =>
            clear I0
            obtain ⟨k, hk, rfl, I0⟩ := hrel
            have x0 := I0.a.c 0 rfl; have x1 := I0.a.c 1 rfl; have x2 := I0.a.c 2 rfl; have x3 := I0.a.c 3 rfl; have xl := I0.a.lt; have y0 := I0.b.c 0 rfl; have y1 := I0.b.c 1 rfl; have y2 := I0.b.c 2 rfl; have y3 := I0.b.c 3 rfl; have yl := I0.b.lt; have z0 := I0.e.c 0 rfl; have z1 := I0.e.c 1 rfl; have z2 := I0.e.c 2 rfl; have z3 := I0.e.c 3 rfl; have z4 := I0.e.c 4 rfl; have z5 := I0.e.c 5 rfl; have z6 := I0.e.c 6 rfl; have z7 := I0.e.c 7 rfl; have zl := I0.e.lt
            rcases (by omega : k = 0 ∨ k = 1 ∨ k = 2) with rfl | rfl | rfl
            · go_wp2_with fail
              refine (implCmp_any b3 b2 b1 b0 c3 c2 c1 c0 hb.1 hb.2.1 hb.2.2.1 hb.2.2.2 hc.1 hc.2.1 hc.2.2.1 hc.2.2.2 _).mono ?_
              rintro e w8 ⟨rfl, hB⟩
              replace I0 := (I0.alloc _).step hB
              clear x0 x1 x2 x3 xl y0 y1 y2 y3 yl z0 z1 z2 z3 z4 z5 z6 z7 zl
              have XB := (Blk.new wr [.int .u64 c3, .int .u64 c2, .int .u64 c1, .int .u64 c0] 26 rfl).step hB
              clear hB
              have x0 := I0.a.c 0 rfl; have x1 := I0.a.c 1 rfl; have x2 := I0.a.c 2 rfl; have x3 := I0.a.c 3 rfl; have xl := I0.a.lt; have y0 := XB.c 0 rfl; have y1 := XB.c 1 rfl; have y2 := XB.c 2 rfl; have y3 := XB.c 3 rfl; have yl := XB.lt
              by_cases hle : sw b3 b2 b1 b0 ≤ sw c3 c2 c1 c0
              · have h1 := cmp_le.2 hle
                have h2 : cmpI (sw a3 a2 a1 a0) (sw c3 c2 c1 c0) ≤ 0 := cmp_le.2 (by omega)
                generalize cmpI (sw b3 b2 b1 b0) (sw c3 c2 c1 c0) = m1 at *
                go_wp2_with fail
                refine (implCmp_any a3 a2 a1 a0 c3 c2 c1 c0 ha.1 ha.2.1 ha.2.2.1 ha.2.2.2 hc.1 hc.2.1 hc.2.2.1 hc.2.2.2 _).mono ?_
                rintro e w9 ⟨rfl, hB⟩
                replace I0 := I0.step hB
                clear hB XB x0 x1 x2 x3 xl y0 y1 y2 y3 yl
                generalize cmpI (sw a3 a2 a1 a0) (sw c3 c2 c1 c0) = m2 at *
                have h3 : ¬ 0 < m2 := by omega
                go_wp2
                all_goals go_roundw
                all_goals first | exact ⟨0 + 1, by omega, rfl, I0⟩ | simp [intOf]
              · have h1 : decide (cmpI (sw b3 b2 b1 b0) (sw c3 c2 c1 c0) ≤ 0) = false := by simp only [cmp_le, decide_eq_false_iff_not]; exact hle
                generalize cmpI (sw b3 b2 b1 b0) (sw c3 c2 c1 c0) = m1 at *
                go_wp2
                all_goals go_roundw
                all_goals first | exact ⟨0 + 1, by omega, rfl, I0⟩ | simp [intOf]
            · go_wp2_with fail
              refine (implCmp_any b3 b2 b1 b0 d3 d2 d1 d0 hb.1 hb.2.1 hb.2.2.1 hb.2.2.2 hd.1 hd.2.1 hd.2.2.1 hd.2.2.2 _).mono ?_
              rintro e w8 ⟨rfl, hB⟩
              replace I0 := (I0.alloc _).step hB
              clear x0 x1 x2 x3 xl y0 y1 y2 y3 yl z0 z1 z2 z3 z4 z5 z6 z7 zl
              have XB := (Blk.new wr [.int .u64 d3, .int .u64 d2, .int .u64 d1, .int .u64 d0] 26 rfl).step hB
              clear hB
              have x0 := I0.a.c 0 rfl; have x1 := I0.a.c 1 rfl; have x2 := I0.a.c 2 rfl; have x3 := I0.a.c 3 rfl; have xl := I0.a.lt; have y0 := XB.c 0 rfl; have y1 := XB.c 1 rfl; have y2 := XB.c 2 rfl; have y3 := XB.c 3 rfl; have yl := XB.lt
              by_cases hle : sw b3 b2 b1 b0 ≤ sw d3 d2 d1 d0
              · have h1 := cmp_le.2 hle
                have h2 : cmpI (sw a3 a2 a1 a0) (sw d3 d2 d1 d0) ≤ 0 := cmp_le.2 (by omega)
                generalize cmpI (sw b3 b2 b1 b0) (sw d3 d2 d1 d0) = m1 at *
                go_wp2_with fail
                refine (implCmp_any a3 a2 a1 a0 d3 d2 d1 d0 ha.1 ha.2.1 ha.2.2.1 ha.2.2.2 hd.1 hd.2.1 hd.2.2.1 hd.2.2.2 _).mono ?_
                rintro e w9 ⟨rfl, hB⟩
                replace I0 := I0.step hB
                clear hB XB x0 x1 x2 x3 xl y0 y1 y2 y3 yl
                generalize cmpI (sw a3 a2 a1 a0) (sw d3 d2 d1 d0) = m2 at *
                have h3 : ¬ 0 < m2 := by omega
                go_wp2
                all_goals go_roundw
                all_goals first | exact ⟨1 + 1, by omega, rfl, I0⟩ | simp [intOf]
              · have h1 : decide (cmpI (sw b3 b2 b1 b0) (sw d3 d2 d1 d0) ≤ 0) = false := by simp only [cmp_le, decide_eq_false_iff_not]; exact hle
                generalize cmpI (sw b3 b2 b1 b0) (sw d3 d2 d1 d0) = m1 at *
                go_wp2
                all_goals go_roundw
                all_goals first | exact ⟨1 + 1, by omega, rfl, I0⟩ | simp [intOf]
            · go_wp2
              go_ret
              exact ⟨rfl, I0.below⟩
    · have en : cmpI (sw a3 a2 a1 a0) (sw b3 b2 b1 b0) = 1 := cmpI_gt hc0
      have em : cmpI (sw b3 b2 b1 b0) (sw a3 a2 a1 a0) = -1 := cmpI_lt hc0
      rw [en]
      go_upto_region 6 with fail
      go_cut [47] (fun q wx => q = .bool false ∧ Ord4 w wx w1.heap.size (w1.heap.size + 1) w2.heap.size (w2.heap.size + 1) [.int .u64 a3, .int .u64 a2, .int .u64 a1, .int .u64 a0] [.int .u64 b3, .int .u64 b2, .int .u64 b1, .int .u64 b0] [.int .u64 c3, .int .u64 c2, .int .u64 c1, .int .u64 c0] [.int .u64 d3, .int .u64 d2, .int .u64 d1, .int .u64 d0])
      case first =>
        go_wp2_with fail
        refine (specCmp_any a3 a2 a1 a0 b3 b2 b1 b0 ha.1 ha.2.1 ha.2.2.1 ha.2.2.2 hb.1 hb.2.1 hb.2.2.1 hb.2.2.2 _).mono ?_
        rintro e w4 ⟨rfl, hB⟩
        rw [en]
        replace A := A.step hB
        replace B := B.step hB
        replace C := C.step hB
        replace D := D.step hB
        have HB4 : Below w.heap.size w w4 := HB3.trans (hB.mono HB3.size)
        clear Ac0 Ac1 Ac2 Ac3 Al Bc0 Bc1 Bc2 Bc3 Bl Cc0 Cc1 Cc2 Cc3 Cl Dc0 Dc1 Dc2 Dc3 Dl
        clear hB HB3
        have Ac0 := A.c 0 rfl; have Ac1 := A.c 1 rfl; have Ac2 := A.c 2 rfl; have Ac3 := A.c 3 rfl; have Al := A.lt
        have Bc0 := B.c 0 rfl; have Bc1 := B.c 1 rfl; have Bc2 := B.c 2 rfl; have Bc3 := B.c 3 rfl; have Bl := B.lt
        have Cc0 := C.c 0 rfl; have Cc1 := C.c 1 rfl; have Cc2 := C.c 2 rfl; have Cc3 := C.c 3 rfl; have Cl := C.lt
        have Dc0 := D.c 0 rfl; have Dc1 := D.c 1 rfl; have Dc2 := D.c 2 rfl; have Dc3 := D.c 3 rfl; have Dl := D.lt
        go_wp2_with fail
        refine (implCmp_any b3 b2 b1 b0 a3 a2 a1 a0 hb.1 hb.2.1 hb.2.2.1 hb.2.2.2 ha.1 ha.2.1 ha.2.2.1 ha.2.2.2 _).mono ?_
        rintro e w5 ⟨rfl, hB⟩
        rw [em]
        replace A := A.step hB
        replace B := B.step hB
        replace C := C.step hB
        replace D := D.step hB
        have HB5 : Below w.heap.size w w5 := HB4.trans (hB.mono HB4.size)
        clear Ac0 Ac1 Ac2 Ac3 Al Bc0 Bc1 Bc2 Bc3 Bl Cc0 Cc1 Cc2 Cc3 Cl Dc0 Dc1 Dc2 Dc3 Dl
        clear hB HB4
        have Ac0 := A.c 0 rfl; have Ac1 := A.c 1 rfl; have Ac2 := A.c 2 rfl; have Ac3 := A.c 3 rfl; have Al := A.lt
        have Bc0 := B.c 0 rfl; have Bc1 := B.c 1 rfl; have Bc2 := B.c 2 rfl; have Bc3 := B.c 3 rfl; have Bl := B.lt
        have Cc0 := C.c 0 rfl; have Cc1 := C.c 1 rfl; have Cc2 := C.c 2 rfl; have Cc3 := C.c 3 rfl; have Cl := C.lt
        have Dc0 := D.c 0 rfl; have Dc1 := D.c 1 rfl; have Dc2 := D.c 2 rfl; have Dc3 := D.c 3 rfl; have Dl := D.lt
        have O : Ord4 w w5 w1.heap.size (w1.heap.size + 1) w2.heap.size (w2.heap.size + 1) [.int .u64 a3, .int .u64 a2, .int .u64 a1, .int .u64 a0] [.int .u64 b3, .int .u64 b2, .int .u64 b1, .int .u64 b0] [.int .u64 c3, .int .u64 c2, .int .u64 c1, .int .u64 c0] [.int .u64 d3, .int .u64 d2, .int .u64 d1, .int .u64 d0] := ⟨HB5, A, B, C, D⟩
        clear A B C D en em
        go_wp2
        all_goals go_meet
        all_goals first | exact ⟨rfl, O⟩ | (exfalso; exact Int.lt_irrefl _ hc0) | (exfalso; unfold sw uw at hc0; split at hc0 <;> split at hc0 <;> omega)
      case rest =>
        clear Ac0 Ac1 Ac2 Ac3 Al Bc0 Bc1 Bc2 Bc3 Bl Cc0 Cc1 Cc2 Cc3 Cl Dc0 Dc1 Dc2 Dc3 Dl A B C D HB3 em
        obtain ⟨hq, O⟩ := hcut
        subst hq
        have x0 := O.a.c 0 rfl; have x1 := O.a.c 1 rfl; have x2 := O.a.c 2 rfl; have x3 := O.a.c 3 rfl; have xl := O.a.lt; have y0 := O.b.c 0 rfl; have y1 := O.b.c 1 rfl; have y2 := O.b.c 2 rfl; have y3 := O.b.c 3 rfl; have yl := O.b.lt
        go_wp2_with fail
        refine (implSub_any a3 a2 a1 a0 b3 b2 b1 b0 ha.1 ha.2.1 ha.2.2.1 ha.2.2.2 hb.1 hb.2.1 hb.2.2.1 hb.2.2.2 _).mono ?_
        intro e w6 hS
        obtain ⟨s3, s2, s1, s0, p, rfl, hSw, hB⟩ := tell_words4 hS
        have OA := O.a.step hB; have OB := O.b.step hB; have OC := O.c.step hB; have OD := O.d.step hB
        have HB6 : Below w.heap.size w w6 := O.below.trans (hB.mono O.below.size)
        clear hB O x0 x1 x2 x3 xl y0 y1 y2 y3 yl
        have x0 := OA.c 0 rfl; have x1 := OA.c 1 rfl; have x2 := OA.c 2 rfl; have x3 := OA.c 3 rfl; have xl := OA.lt; have y0 := OB.c 0 rfl; have y1 := OB.c 1 rfl; have y2 := OB.c 2 rfl; have y3 := OB.c 3 rfl; have yl := OB.lt; have z0 := OC.c 0 rfl; have z1 := OC.c 1 rfl; have z2 := OC.c 2 rfl; have z3 := OC.c 3 rfl; have zl := OC.lt; have t0 := OD.c 0 rfl; have t1 := OD.c 1 rfl; have t2 := OD.c 2 rfl; have t3 := OD.c 3 rfl; have tl := OD.lt
        have eS : p = true → cmpI (sw s3 s2 s1 s0) 0 = 1 := by
          rintro rfl
          rw [(tell_yes hS).2, cmp_sub]
          exact en
        clear hS
        cases p
        · have I0 : OrdL w ((w6.alloc (.cells #[.int .u64 s3, .int .u64 s2, .int .u64 s1, .int .u64 s0] 26)).alloc (.cells #[.int .u64 c3, .int .u64 c2, .int .u64 c1, .int .u64 c0, .int .u64 d3, .int .u64 d2, .int .u64 d1, .int .u64 d0] 26)) w1.heap.size (w1.heap.size + 1) (w6.heap.size + 1) [.int .u64 a3, .int .u64 a2, .int .u64 a1, .int .u64 a0] [.int .u64 b3, .int .u64 b2, .int .u64 b1, .int .u64 b0] [.int .u64 c3, .int .u64 c2, .int .u64 c1, .int .u64 c0, .int .u64 d3, .int .u64 d2, .int .u64 d1, .int .u64 d0] := ⟨(HB6.alloc HB6.size _).alloc (HB6.alloc HB6.size (.cells #[.int .u64 s3, .int .u64 s2, .int .u64 s1, .int .u64 s0] 26)).size _, (OA.alloc _).alloc _, (OB.alloc _).alloc _, Blk.new _ [.int .u64 c3, .int .u64 c2, .int .u64 c1, .int .u64 c0, .int .u64 d3, .int .u64 d2, .int .u64 d1, .int .u64 d0] 26 (by simp)⟩
          clear OA OB OC OD HB6
          go_wp2
          generalize ((w6.alloc (.cells #[.int .u64 s3, .int .u64 s2, .int .u64 s1, .int .u64 s0] 26)).alloc (.cells #[.int .u64 c3, .int .u64 c2, .int .u64 c1, .int .u64 c0, .int .u64 d3, .int .u64 d2, .int .u64 d1, .int .u64 d0] 26)) = W1 at *
          generalize w6.heap.size + 1 = ge at *
          go_loopw [65] (fun i wr => ∃ k : Nat, k ≤ 2 ∧ i = .int .i64 k ∧ OrdL w wr w1.heap.size (w1.heap.size + 1) ge [.int .u64 a3, .int .u64 a2, .int .u64 a1, .int .u64 a0] [.int .u64 b3, .int .u64 b2, .int .u64 b1, .int .u64 b0] [.int .u64 c3, .int .u64 c2, .int .u64 c1, .int .u64 c0, .int .u64 d3, .int .u64 d2, .int .u64 d1, .int .u64 d0]) (fun i _ => 2 - (intOf i).toNat)
          case atStart => exact ⟨0, by omega, rfl, I0⟩
          case round =>
            clear I0
            obtain ⟨k, hk, rfl, I0⟩ := hrel
            have x0 := I0.a.c 0 rfl; have x1 := I0.a.c 1 rfl; have x2 := I0.a.c 2 rfl; have x3 := I0.a.c 3 rfl; have xl := I0.a.lt; have y0 := I0.b.c 0 rfl; have y1 := I0.b.c 1 rfl; have y2 := I0.b.c 2 rfl; have y3 := I0.b.c 3 rfl; have yl := I0.b.lt; have z0 := I0.e.c 0 rfl; have z1 := I0.e.c 1 rfl; have z2 := I0.e.c 2 rfl; have z3 := I0.e.c 3 rfl; have z4 := I0.e.c 4 rfl; have z5 := I0.e.c 5 rfl; have z6 := I0.e.c 6 rfl; have z7 := I0.e.c 7 rfl; have zl := I0.e.lt
            rcases (by omega : k = 0 ∨ k = 1 ∨ k = 2) with rfl | rfl | rfl
            · replace I0 := I0.alloc (.cells #[.int .u64 c3, .int .u64 c2, .int .u64 c1, .int .u64 c0] 26)
              go_wp2
              all_goals go_roundw
              all_goals first | exact ⟨0 + 1, by omega, rfl, I0⟩ | simp [intOf]
            · replace I0 := I0.alloc (.cells #[.int .u64 d3, .int .u64 d2, .int .u64 d1, .int .u64 d0] 26)
              go_wp2
              all_goals go_roundw
              all_goals first | exact ⟨1 + 1, by omega, rfl, I0⟩ | simp [intOf]
            · go_wp2
              go_ret
              exact ⟨rfl, I0.below⟩
        · go_wp2_with fail
          refine (implSign_any s3 s2 s1 s0 hSw.1 hSw.2.1 hSw.2.2.1 hSw.2.2.2 _).mono ?_
          rintro e w7 ⟨rfl, hB⟩
          rw [eS (by trivial)]
          replace OA := (OA.alloc (.cells #[.int .u64 s3, .int .u64 s2, .int .u64 s1, .int .u64 s0] 26)).step hB
          replace OB := (OB.alloc (.cells #[.int .u64 s3, .int .u64 s2, .int .u64 s1, .int .u64 s0] 26)).step hB
          replace OC := (OC.alloc (.cells #[.int .u64 s3, .int .u64 s2, .int .u64 s1, .int .u64 s0] 26)).step hB
          replace OD := (OD.alloc (.cells #[.int .u64 s3, .int .u64 s2, .int .u64 s1, .int .u64 s0] 26)).step hB
          have HB7 : Below w.heap.size w w7 := (HB6.alloc HB6.size (.cells #[.int .u64 s3, .int .u64 s2, .int .u64 s1, .int .u64 s0] 26)).trans (hB.mono (HB6.alloc HB6.size (.cells #[.int .u64 s3, .int .u64 s2, .int .u64 s1, .int .u64 s0] 26)).size)
          clear hB HB6 x0 x1 x2 x3 xl y0 y1 y2 y3 yl z0 z1 z2 z3 zl t0 t1 t2 t3 tl
          have x0 := OA.c 0 rfl; have x1 := OA.c 1 rfl; have x2 := OA.c 2 rfl; have x3 := OA.c 3 rfl; have xl := OA.lt; have y0 := OB.c 0 rfl; have y1 := OB.c 1 rfl; have y2 := OB.c 2 rfl; have y3 := OB.c 3 rfl; have yl := OB.lt; have z0 := OC.c 0 rfl; have z1 := OC.c 1 rfl; have z2 := OC.c 2 rfl; have z3 := OC.c 3 rfl; have zl := OC.lt; have t0 := OD.c 0 rfl; have t1 := OD.c 1 rfl; have t2 := OD.c 2 rfl; have t3 := OD.c 3 rfl; have tl := OD.lt
          have I0 : OrdL w (w7.alloc (.cells #[.int .u64 c3, .int .u64 c2, .int .u64 c1, .int .u64 c0, .int .u64 d3, .int .u64 d2, .int .u64 d1, .int .u64 d0] 26)) w1.heap.size (w1.heap.size + 1) w7.heap.size [.int .u64 a3, .int .u64 a2, .int .u64 a1, .int .u64 a0] [.int .u64 b3, .int .u64 b2, .int .u64 b1, .int .u64 b0] [.int .u64 c3, .int .u64 c2, .int .u64 c1, .int .u64 c0, .int .u64 d3, .int .u64 d2, .int .u64 d1, .int .u64 d0] := ⟨HB7.alloc HB7.size _, OA.alloc _, OB.alloc _, Blk.new _ [.int .u64 c3, .int .u64 c2, .int .u64 c1, .int .u64 c0, .int .u64 d3, .int .u64 d2, .int .u64 d1, .int .u64 d0] 26 rfl⟩
          clear OA OB OC OD HB7
          go_wp2
          generalize (w7.alloc (.cells #[.int .u64 c3, .int .u64 c2, .int .u64 c1, .int .u64 c0, .int .u64 d3, .int .u64 d2, .int .u64 d1, .int .u64 d0] 26)) = W1 at *
          generalize w7.heap.size = ge at *
          go_loopw [65] (fun i wr => ∃ k : Nat, k ≤ 2 ∧ i = .int .i64 k ∧ OrdL w wr w1.heap.size (w1.heap.size + 1) ge [.int .u64 a3, .int .u64 a2, .int .u64 a1, .int .u64 a0] [.int .u64 b3, .int .u64 b2, .int .u64 b1, .int .u64 b0] [.int .u64 c3, .int .u64 c2, .int .u64 c1, .int .u64 c0, .int .u64 d3, .int .u64 d2, .int .u64 d1, .int .u64 d0]) (fun i _ => 2 - (intOf i).toNat)
          case atStart => exact ⟨0, by omega, rfl, I0⟩
          case round =>
            clear I0
            obtain ⟨k, hk, rfl, I0⟩ := hrel
            have x0 := I0.a.c 0 rfl; have x1 := I0.a.c 1 rfl; have x2 := I0.a.c 2 rfl; have x3 := I0.a.c 3 rfl; have xl := I0.a.lt; have y0 := I0.b.c 0 rfl; have y1 := I0.b.c 1 rfl; have y2 := I0.b.c 2 rfl; have y3 := I0.b.c 3 rfl; have yl := I0.b.lt; have z0 := I0.e.c 0 rfl; have z1 := I0.e.c 1 rfl; have z2 := I0.e.c 2 rfl; have z3 := I0.e.c 3 rfl; have z4 := I0.e.c 4 rfl; have z5 := I0.e.c 5 rfl; have z6 := I0.e.c 6 rfl; have z7 := I0.e.c 7 rfl; have zl := I0.e.lt
            rcases (by omega : k = 0 ∨ k = 1 ∨ k = 2) with rfl | rfl | rfl
            · replace I0 := I0.alloc (.cells #[.int .u64 c3, .int .u64 c2, .int .u64 c1, .int .u64 c0] 26)
              go_wp2
              all_goals go_roundw
              all_goals first | exact ⟨0 + 1, by omega, rfl, I0⟩ | simp [intOf]
            · replace I0 := I0.alloc (.cells #[.int .u64 d3, .int .u64 d2, .int .u64 d1, .int .u64 d0] 26)
              go_wp2
              all_goals go_roundw
              all_goals first | exact ⟨1 + 1, by omega, rfl, I0⟩ | simp [intOf]
            · go_wp2
              go_ret
              exact ⟨rfl, I0.below⟩
end Go.Proofs.Ytinilehbhdpdkaa
