/- The law on sums and products of drawn numbers: the walk. -/
import Derived.Test.YtllfpnnngdphfaaBase6
namespace Go.Proofs.Ytllfpnnngdphfaa
open Go.RowKit
set_option maxRecDepth 100000 in
set_option maxHeartbeats 8000000 in
theorem lawSums_any (ao : Option Addr) (n cap : Nat) (cs : List Int) (w : World) (h : n ≤ 1048576 → Code w ao n cs) :
    Calls Try.prog 3 #[.slice ao n cap] w (BoolP true w) := by
  by_cases hn : 1048576 < n
  · go_enter Try.func3, Try.ntmps3
    go_wp2_with fail
    refine (big_any ao n cap _ true (by simpa using hn)).mono ?_
    rintro e w0 ⟨rfl, hB⟩
    go_wp2
    go_ret
    exact ⟨rfl, hB⟩
  · replace h := h (by omega)
    go_enter Try.func3, Try.ntmps3
    go_wp2_with fail
    refine (big_any ao n cap _ false (by simpa using hn)).mono ?_
    rintro e w0 ⟨rfl, hB⟩
    replace h := h.below hB
    have HB0 : Below w.heap.size w w0 := hB
    clear hB
    go_wp2_with fail
    refine (drawMul_any ao n cap cs _ h).mono ?_
    rintro e w1 ⟨a3, a2, a1, a0, b3, b2, b1, b0, rfl, ha, hb, hB⟩
    have HB1 : Below w.heap.size w w1 := HB0.trans (hB.mono HB0.size)
    clear hB HB0
    have A := Blk.new w1 [.int .u64 a3, .int .u64 a2, .int .u64 a1, .int .u64 a0] 26 rfl
    replace HB1 := HB1.alloc HB1.size (.cells #[.int .u64 a3, .int .u64 a2, .int .u64 a1, .int .u64 a0] 26)
    have B := Blk.new (w1.alloc (.cells #[.int .u64 a3, .int .u64 a2, .int .u64 a1, .int .u64 a0] 26)) [.int .u64 b3, .int .u64 b2, .int .u64 b1, .int .u64 b0] 26 (g := w1.heap.size + 1) (by simp)
    replace A := A.alloc (.cells #[.int .u64 b3, .int .u64 b2, .int .u64 b1, .int .u64 b0] 26)
    replace HB1 := HB1.alloc HB1.size (.cells #[.int .u64 b3, .int .u64 b2, .int .u64 b1, .int .u64 b0] 26)
    go_wp2_with fail
    refine (implAdd_any a3 a2 a1 a0 b3 b2 b1 b0 ha.1 ha.2.1 ha.2.2.1 ha.2.2.2 hb.1 hb.2.1 hb.2.2.1 hb.2.2.2 _).mono ?_
    intro e w2 hS
    obtain ⟨s3, s2, s1, s0, p, rfl, hSw, hB⟩ := tell_words4 hS
    replace A := A.step hB
    replace B := B.step hB
    have HB2 : Below w.heap.size w w2 := HB1.trans (hB.mono HB1.size)
    clear hB HB1
    have Ac0 := A.c 0 rfl; have Ac1 := A.c 1 rfl; have Ac2 := A.c 2 rfl; have Ac3 := A.c 3 rfl; have Al := A.lt
    have Bc0 := B.c 0 rfl; have Bc1 := B.c 1 rfl; have Bc2 := B.c 2 rfl; have Bc3 := B.c 3 rfl; have Bl := B.lt
    have S := Blk.new w2 [.int .u64 s3, .int .u64 s2, .int .u64 s1, .int .u64 s0] 26 rfl
    replace A := A.alloc (.cells #[.int .u64 s3, .int .u64 s2, .int .u64 s1, .int .u64 s0] 26)
    replace B := B.alloc (.cells #[.int .u64 s3, .int .u64 s2, .int .u64 s1, .int .u64 s0] 26)
    replace HB2 := HB2.alloc HB2.size (.cells #[.int .u64 s3, .int .u64 s2, .int .u64 s1, .int .u64 s0] 26)
    go_wp2_with fail
    refine (implAdd_any b3 b2 b1 b0 a3 a2 a1 a0 hb.1 hb.2.1 hb.2.2.1 hb.2.2.2 ha.1 ha.2.1 ha.2.2.1 ha.2.2.2 _).mono ?_
    intro e w3 hT
    obtain ⟨t3, t2, t1, t0, p', rfl, hTw, hB⟩ := tell_words4 hT
    rw [Int.add_comm] at hT
    obtain ⟨rfl, rfl, rfl, rfl, rfl⟩ := tellP_same hS hT
    clear hT hTw
    replace A := A.step hB
    replace B := B.step hB
    replace S := S.step hB
    have HB3 : Below w.heap.size w w3 := HB2.trans (hB.mono HB2.size)
    clear Ac0 Ac1 Ac2 Ac3 Al Bc0 Bc1 Bc2 Bc3 Bl
    clear hB HB2
    have Ac0 := A.c 0 rfl; have Ac1 := A.c 1 rfl; have Ac2 := A.c 2 rfl; have Ac3 := A.c 3 rfl; have Al := A.lt
    have Bc0 := B.c 0 rfl; have Bc1 := B.c 1 rfl; have Bc2 := B.c 2 rfl; have Bc3 := B.c 3 rfl; have Bl := B.lt
    have Sc0 := S.c 0 rfl; have Sc1 := S.c 1 rfl; have Sc2 := S.c 2 rfl; have Sc3 := S.c 3 rfl; have Sl := S.lt
    have T := Blk.new w3 [.int .u64 s3, .int .u64 s2, .int .u64 s1, .int .u64 s0] 26 rfl
    replace A := A.alloc (.cells #[.int .u64 s3, .int .u64 s2, .int .u64 s1, .int .u64 s0] 26)
    replace B := B.alloc (.cells #[.int .u64 s3, .int .u64 s2, .int .u64 s1, .int .u64 s0] 26)
    replace S := S.alloc (.cells #[.int .u64 s3, .int .u64 s2, .int .u64 s1, .int .u64 s0] 26)
    replace HB3 := HB3.alloc HB3.size (.cells #[.int .u64 s3, .int .u64 s2, .int .u64 s1, .int .u64 s0] 26)
    go_wp2_with fail
    refine (specAdd_any a3 a2 a1 a0 b3 b2 b1 b0 ha.1 ha.2.1 ha.2.2.1 ha.2.2.2 hb.1 hb.2.1 hb.2.2.1 hb.2.2.2 _).mono ?_
    intro e w4 hT
    obtain ⟨t3, t2, t1, t0, p', rfl, hTw, hB⟩ := tell_words4 hT
    obtain ⟨rfl, rfl, rfl, rfl, rfl⟩ := tellP_same hS hT
    clear hT hTw
    replace A := A.step hB
    replace B := B.step hB
    replace S := S.step hB
    replace T := T.step hB
    have HB4 : Below w.heap.size w w4 := HB3.trans (hB.mono HB3.size)
    clear Ac0 Ac1 Ac2 Ac3 Al Bc0 Bc1 Bc2 Bc3 Bl Sc0 Sc1 Sc2 Sc3 Sl
    clear hB HB3
    have Ac0 := A.c 0 rfl; have Ac1 := A.c 1 rfl; have Ac2 := A.c 2 rfl; have Ac3 := A.c 3 rfl; have Al := A.lt
    have Bc0 := B.c 0 rfl; have Bc1 := B.c 1 rfl; have Bc2 := B.c 2 rfl; have Bc3 := B.c 3 rfl; have Bl := B.lt
    have Sc0 := S.c 0 rfl; have Sc1 := S.c 1 rfl; have Sc2 := S.c 2 rfl; have Sc3 := S.c 3 rfl; have Sl := S.lt
    have Tc0 := T.c 0 rfl; have Tc1 := T.c 1 rfl; have Tc2 := T.c 2 rfl; have Tc3 := T.c 3 rfl; have Tl := T.lt
    have U := Blk.new w4 [.int .u64 s3, .int .u64 s2, .int .u64 s1, .int .u64 s0] 26 rfl
    replace A := A.alloc (.cells #[.int .u64 s3, .int .u64 s2, .int .u64 s1, .int .u64 s0] 26)
    replace B := B.alloc (.cells #[.int .u64 s3, .int .u64 s2, .int .u64 s1, .int .u64 s0] 26)
    replace S := S.alloc (.cells #[.int .u64 s3, .int .u64 s2, .int .u64 s1, .int .u64 s0] 26)
    replace T := T.alloc (.cells #[.int .u64 s3, .int .u64 s2, .int .u64 s1, .int .u64 s0] 26)
    replace HB4 := HB4.alloc HB4.size (.cells #[.int .u64 s3, .int .u64 s2, .int .u64 s1, .int .u64 s0] 26)
    have hpp : (p == p) = true := by simp
    go_wp2_with fail
    refine (implMul_any a3 a2 a1 a0 b3 b2 b1 b0 ha.1 ha.2.1 ha.2.2.1 ha.2.2.2 hb.1 hb.2.1 hb.2.2.1 hb.2.2.2 _).mono ?_
    intro e w5 hM
    obtain ⟨p3, p2, p1, p0, m, rfl, hMw, hB⟩ := tell_words4 hM
    replace A := A.step hB
    replace B := B.step hB
    replace S := S.step hB
    replace T := T.step hB
    replace U := U.step hB
    have HB5 : Below w.heap.size w w5 := HB4.trans (hB.mono HB4.size)
    clear Ac0 Ac1 Ac2 Ac3 Al Bc0 Bc1 Bc2 Bc3 Bl Sc0 Sc1 Sc2 Sc3 Sl Tc0 Tc1 Tc2 Tc3 Tl
    clear hB HB4
    clear T
    clear U
    have Ac0 := A.c 0 rfl; have Ac1 := A.c 1 rfl; have Ac2 := A.c 2 rfl; have Ac3 := A.c 3 rfl; have Al := A.lt
    have Bc0 := B.c 0 rfl; have Bc1 := B.c 1 rfl; have Bc2 := B.c 2 rfl; have Bc3 := B.c 3 rfl; have Bl := B.lt
    have Sc0 := S.c 0 rfl; have Sc1 := S.c 1 rfl; have Sc2 := S.c 2 rfl; have Sc3 := S.c 3 rfl; have Sl := S.lt
    have P := Blk.new w5 [.int .u64 p3, .int .u64 p2, .int .u64 p1, .int .u64 p0] 26 rfl
    replace A := A.alloc (.cells #[.int .u64 p3, .int .u64 p2, .int .u64 p1, .int .u64 p0] 26)
    replace B := B.alloc (.cells #[.int .u64 p3, .int .u64 p2, .int .u64 p1, .int .u64 p0] 26)
    replace S := S.alloc (.cells #[.int .u64 p3, .int .u64 p2, .int .u64 p1, .int .u64 p0] 26)
    replace HB5 := HB5.alloc HB5.size (.cells #[.int .u64 p3, .int .u64 p2, .int .u64 p1, .int .u64 p0] 26)
    go_wp2_with fail
    refine (implMul_any b3 b2 b1 b0 a3 a2 a1 a0 hb.1 hb.2.1 hb.2.2.1 hb.2.2.2 ha.1 ha.2.1 ha.2.2.1 ha.2.2.2 _).mono ?_
    intro e w6 hT
    obtain ⟨t3, t2, t1, t0, m', rfl, hTw, hB⟩ := tell_words4 hT
    rw [Int.mul_comm] at hT
    obtain ⟨rfl, rfl, rfl, rfl, rfl⟩ := tellP_same hM hT
    clear hT hTw
    replace A := A.step hB
    replace B := B.step hB
    replace S := S.step hB
    replace P := P.step hB
    have HB6 : Below w.heap.size w w6 := HB5.trans (hB.mono HB5.size)
    clear Ac0 Ac1 Ac2 Ac3 Al Bc0 Bc1 Bc2 Bc3 Bl Sc0 Sc1 Sc2 Sc3 Sl
    clear hB HB5
    have Ac0 := A.c 0 rfl; have Ac1 := A.c 1 rfl; have Ac2 := A.c 2 rfl; have Ac3 := A.c 3 rfl; have Al := A.lt
    have Bc0 := B.c 0 rfl; have Bc1 := B.c 1 rfl; have Bc2 := B.c 2 rfl; have Bc3 := B.c 3 rfl; have Bl := B.lt
    have Sc0 := S.c 0 rfl; have Sc1 := S.c 1 rfl; have Sc2 := S.c 2 rfl; have Sc3 := S.c 3 rfl; have Sl := S.lt
    have Pc0 := P.c 0 rfl; have Pc1 := P.c 1 rfl; have Pc2 := P.c 2 rfl; have Pc3 := P.c 3 rfl; have Pl := P.lt
    have Q := Blk.new w6 [.int .u64 p3, .int .u64 p2, .int .u64 p1, .int .u64 p0] 26 rfl
    replace A := A.alloc (.cells #[.int .u64 p3, .int .u64 p2, .int .u64 p1, .int .u64 p0] 26)
    replace B := B.alloc (.cells #[.int .u64 p3, .int .u64 p2, .int .u64 p1, .int .u64 p0] 26)
    replace S := S.alloc (.cells #[.int .u64 p3, .int .u64 p2, .int .u64 p1, .int .u64 p0] 26)
    replace P := P.alloc (.cells #[.int .u64 p3, .int .u64 p2, .int .u64 p1, .int .u64 p0] 26)
    replace HB6 := HB6.alloc HB6.size (.cells #[.int .u64 p3, .int .u64 p2, .int .u64 p1, .int .u64 p0] 26)
    have hmm : (m == m) = true := by simp
    cases p
    · skip
      have hok : told (sw a3 a2 a1 a0 + sw b3 b2 b1 b0) = false ∧ (True) := tell_no hS
      go_wp2_with fail
      refine (implOf_any ((n : Int) % 9 - 4) _ (by omega) (by omega)).mono ?_
      rintro e w7 ⟨c3, c2, c1, c0, rfl, hc3, hc2, hc1, hc0, hcv, hB⟩
      have hc : Word c3 ∧ Word c2 ∧ Word c1 ∧ Word c0 := ⟨hc3, hc2, hc1, hc0⟩
      clear hc3 hc2 hc1 hc0
      replace A := A.step hB
      replace B := B.step hB
      replace S := S.step hB
      replace P := P.step hB
      replace Q := Q.step hB
      have HB7 : Below w.heap.size w w7 := HB6.trans (hB.mono HB6.size)
      clear Ac0 Ac1 Ac2 Ac3 Al Bc0 Bc1 Bc2 Bc3 Bl Sc0 Sc1 Sc2 Sc3 Sl Pc0 Pc1 Pc2 Pc3 Pl
      clear hB HB6
      clear P
      clear Q
      have Ac0 := A.c 0 rfl; have Ac1 := A.c 1 rfl; have Ac2 := A.c 2 rfl; have Ac3 := A.c 3 rfl; have Al := A.lt
      have Bc0 := B.c 0 rfl; have Bc1 := B.c 1 rfl; have Bc2 := B.c 2 rfl; have Bc3 := B.c 3 rfl; have Bl := B.lt
      have Sc0 := S.c 0 rfl; have Sc1 := S.c 1 rfl; have Sc2 := S.c 2 rfl; have Sc3 := S.c 3 rfl; have Sl := S.lt
      have C := Blk.new w7 [.int .u64 c3, .int .u64 c2, .int .u64 c1, .int .u64 c0] 26 rfl
      replace A := A.alloc (.cells #[.int .u64 c3, .int .u64 c2, .int .u64 c1, .int .u64 c0] 26)
      replace B := B.alloc (.cells #[.int .u64 c3, .int .u64 c2, .int .u64 c1, .int .u64 c0] 26)
      replace S := S.alloc (.cells #[.int .u64 c3, .int .u64 c2, .int .u64 c1, .int .u64 c0] 26)
      replace HB7 := HB7.alloc HB7.size (.cells #[.int .u64 c3, .int .u64 c2, .int .u64 c1, .int .u64 c0] 26)
      go_wp2_with fail
      refine (implMul_any s3 s2 s1 s0 c3 c2 c1 c0 hSw.1 hSw.2.1 hSw.2.2.1 hSw.2.2.2 hc.1 hc.2.1 hc.2.2.1 hc.2.2.2 _).mono ?_
      intro e w8 hX
      obtain ⟨x3, x2, x1, x0, k3, rfl, hXw, hB⟩ := tell_words4 hX
      replace A := A.step hB
      replace B := B.step hB
      replace S := S.step hB
      replace C := C.step hB
      have HB8 : Below w.heap.size w w8 := HB7.trans (hB.mono HB7.size)
      clear Ac0 Ac1 Ac2 Ac3 Al Bc0 Bc1 Bc2 Bc3 Bl Sc0 Sc1 Sc2 Sc3 Sl
      clear hB HB7
      have Ac0 := A.c 0 rfl; have Ac1 := A.c 1 rfl; have Ac2 := A.c 2 rfl; have Ac3 := A.c 3 rfl; have Al := A.lt
      have Bc0 := B.c 0 rfl; have Bc1 := B.c 1 rfl; have Bc2 := B.c 2 rfl; have Bc3 := B.c 3 rfl; have Bl := B.lt
      have Sc0 := S.c 0 rfl; have Sc1 := S.c 1 rfl; have Sc2 := S.c 2 rfl; have Sc3 := S.c 3 rfl; have Sl := S.lt
      have Cc0 := C.c 0 rfl; have Cc1 := C.c 1 rfl; have Cc2 := C.c 2 rfl; have Cc3 := C.c 3 rfl; have Cl := C.lt
      have X := Blk.new w8 [.int .u64 x3, .int .u64 x2, .int .u64 x1, .int .u64 x0] 26 rfl
      replace A := A.alloc (.cells #[.int .u64 x3, .int .u64 x2, .int .u64 x1, .int .u64 x0] 26)
      replace B := B.alloc (.cells #[.int .u64 x3, .int .u64 x2, .int .u64 x1, .int .u64 x0] 26)
      replace S := S.alloc (.cells #[.int .u64 x3, .int .u64 x2, .int .u64 x1, .int .u64 x0] 26)
      replace C := C.alloc (.cells #[.int .u64 x3, .int .u64 x2, .int .u64 x1, .int .u64 x0] 26)
      replace HB8 := HB8.alloc HB8.size (.cells #[.int .u64 x3, .int .u64 x2, .int .u64 x1, .int .u64 x0] 26)
      go_wp2_with fail
      refine (implMul_any a3 a2 a1 a0 c3 c2 c1 c0 ha.1 ha.2.1 ha.2.2.1 ha.2.2.2 hc.1 hc.2.1 hc.2.2.1 hc.2.2.2 _).mono ?_
      intro e w9 hY
      obtain ⟨y3, y2, y1, y0, k4, rfl, hYw, hB⟩ := tell_words4 hY
      replace A := A.step hB
      replace B := B.step hB
      replace S := S.step hB
      replace C := C.step hB
      replace X := X.step hB
      have HB9 : Below w.heap.size w w9 := HB8.trans (hB.mono HB8.size)
      clear Ac0 Ac1 Ac2 Ac3 Al Bc0 Bc1 Bc2 Bc3 Bl Sc0 Sc1 Sc2 Sc3 Sl Cc0 Cc1 Cc2 Cc3 Cl
      clear hB HB8
      have Ac0 := A.c 0 rfl; have Ac1 := A.c 1 rfl; have Ac2 := A.c 2 rfl; have Ac3 := A.c 3 rfl; have Al := A.lt
      have Bc0 := B.c 0 rfl; have Bc1 := B.c 1 rfl; have Bc2 := B.c 2 rfl; have Bc3 := B.c 3 rfl; have Bl := B.lt
      have Sc0 := S.c 0 rfl; have Sc1 := S.c 1 rfl; have Sc2 := S.c 2 rfl; have Sc3 := S.c 3 rfl; have Sl := S.lt
      have Cc0 := C.c 0 rfl; have Cc1 := C.c 1 rfl; have Cc2 := C.c 2 rfl; have Cc3 := C.c 3 rfl; have Cl := C.lt
      have Xc0 := X.c 0 rfl; have Xc1 := X.c 1 rfl; have Xc2 := X.c 2 rfl; have Xc3 := X.c 3 rfl; have Xl := X.lt
      have Y := Blk.new w9 [.int .u64 y3, .int .u64 y2, .int .u64 y1, .int .u64 y0] 26 rfl
      replace A := A.alloc (.cells #[.int .u64 y3, .int .u64 y2, .int .u64 y1, .int .u64 y0] 26)
      replace B := B.alloc (.cells #[.int .u64 y3, .int .u64 y2, .int .u64 y1, .int .u64 y0] 26)
      replace S := S.alloc (.cells #[.int .u64 y3, .int .u64 y2, .int .u64 y1, .int .u64 y0] 26)
      replace C := C.alloc (.cells #[.int .u64 y3, .int .u64 y2, .int .u64 y1, .int .u64 y0] 26)
      replace X := X.alloc (.cells #[.int .u64 y3, .int .u64 y2, .int .u64 y1, .int .u64 y0] 26)
      replace HB9 := HB9.alloc HB9.size (.cells #[.int .u64 y3, .int .u64 y2, .int .u64 y1, .int .u64 y0] 26)
      go_wp2_with fail
      refine (implMul_any b3 b2 b1 b0 c3 c2 c1 c0 hb.1 hb.2.1 hb.2.2.1 hb.2.2.2 hc.1 hc.2.1 hc.2.2.1 hc.2.2.2 _).mono ?_
      intro e w10 hZ
      obtain ⟨z3, z2, z1, z0, k5, rfl, hZw, hB⟩ := tell_words4 hZ
      replace A := A.step hB
      replace B := B.step hB
      replace S := S.step hB
      replace C := C.step hB
      replace X := X.step hB
      replace Y := Y.step hB
      have HB10 : Below w.heap.size w w10 := HB9.trans (hB.mono HB9.size)
      clear Ac0 Ac1 Ac2 Ac3 Al Bc0 Bc1 Bc2 Bc3 Bl Sc0 Sc1 Sc2 Sc3 Sl Cc0 Cc1 Cc2 Cc3 Cl Xc0 Xc1 Xc2 Xc3 Xl
      clear hB HB9
      clear A
      clear S
      have Bc0 := B.c 0 rfl; have Bc1 := B.c 1 rfl; have Bc2 := B.c 2 rfl; have Bc3 := B.c 3 rfl; have Bl := B.lt
      have Cc0 := C.c 0 rfl; have Cc1 := C.c 1 rfl; have Cc2 := C.c 2 rfl; have Cc3 := C.c 3 rfl; have Cl := C.lt
      have Xc0 := X.c 0 rfl; have Xc1 := X.c 1 rfl; have Xc2 := X.c 2 rfl; have Xc3 := X.c 3 rfl; have Xl := X.lt
      have Yc0 := Y.c 0 rfl; have Yc1 := Y.c 1 rfl; have Yc2 := Y.c 2 rfl; have Yc3 := Y.c 3 rfl; have Yl := Y.lt
      have Z := Blk.new w10 [.int .u64 z3, .int .u64 z2, .int .u64 z1, .int .u64 z0] 26 rfl
      replace B := B.alloc (.cells #[.int .u64 z3, .int .u64 z2, .int .u64 z1, .int .u64 z0] 26)
      replace C := C.alloc (.cells #[.int .u64 z3, .int .u64 z2, .int .u64 z1, .int .u64 z0] 26)
      replace X := X.alloc (.cells #[.int .u64 z3, .int .u64 z2, .int .u64 z1, .int .u64 z0] 26)
      replace Y := Y.alloc (.cells #[.int .u64 z3, .int .u64 z2, .int .u64 z1, .int .u64 z0] 26)
      replace HB10 := HB10.alloc HB10.size (.cells #[.int .u64 z3, .int .u64 z2, .int .u64 z1, .int .u64 z0] 26)
      go_wp2_with fail
      refine (implAdd_any y3 y2 y1 y0 z3 z2 z1 z0 hYw.1 hYw.2.1 hYw.2.2.1 hYw.2.2.2 hZw.1 hZw.2.1 hZw.2.2.1 hZw.2.2.2 _).mono ?_
      intro e w11 hV
      obtain ⟨v3, v2, v1, v0, k6, rfl, hVw, hB⟩ := tell_words4 hV
      replace B := B.step hB
      replace C := C.step hB
      replace X := X.step hB
      replace Y := Y.step hB
      replace Z := Z.step hB
      have HB11 : Below w.heap.size w w11 := HB10.trans (hB.mono HB10.size)
      clear Bc0 Bc1 Bc2 Bc3 Bl Cc0 Cc1 Cc2 Cc3 Cl Xc0 Xc1 Xc2 Xc3 Xl Yc0 Yc1 Yc2 Yc3 Yl
      clear hB HB10
      clear B
      clear C
      clear Y
      clear Z
      have Xc0 := X.c 0 rfl; have Xc1 := X.c 1 rfl; have Xc2 := X.c 2 rfl; have Xc3 := X.c 3 rfl; have Xl := X.lt
      have V := Blk.new w11 [.int .u64 v3, .int .u64 v2, .int .u64 v1, .int .u64 v0] 26 rfl
      replace X := X.alloc (.cells #[.int .u64 v3, .int .u64 v2, .int .u64 v1, .int .u64 v0] 26)
      replace HB11 := HB11.alloc HB11.size (.cells #[.int .u64 v3, .int .u64 v2, .int .u64 v1, .int .u64 v0] 26)
      go_wp2
      all_goals go_ret
      all_goals exact ⟨rfl, HB11⟩
    · skip
      have hok : told (sw a3 a2 a1 a0 + sw b3 b2 b1 b0) = true ∧ (sw s3 s2 s1 s0 = sw a3 a2 a1 a0 + sw b3 b2 b1 b0) := tell_yes hS
      go_wp2_with fail
      refine (implSub_any s3 s2 s1 s0 b3 b2 b1 b0 hSw.1 hSw.2.1 hSw.2.2.1 hSw.2.2.2 hb.1 hb.2.1 hb.2.2.1 hb.2.2.2 _).mono ?_
      intro e w7 hX
      obtain ⟨x3, x2, x1, x0, bk, rfl, hXw, hB⟩ := tell_words4 hX
      obtain ⟨rfl, rfl, rfl, rfl, rfl⟩ := tell_back hX ha (by rw [hok.2]; omega)
      clear hX hXw
      replace A := A.step hB
      replace B := B.step hB
      replace S := S.step hB
      replace P := P.step hB
      replace Q := Q.step hB
      have HB7 : Below w.heap.size w w7 := HB6.trans (hB.mono HB6.size)
      clear Ac0 Ac1 Ac2 Ac3 Al Bc0 Bc1 Bc2 Bc3 Bl Sc0 Sc1 Sc2 Sc3 Sl Pc0 Pc1 Pc2 Pc3 Pl
      clear hB HB6
      clear P
      clear Q
      have Ac0 := A.c 0 rfl; have Ac1 := A.c 1 rfl; have Ac2 := A.c 2 rfl; have Ac3 := A.c 3 rfl; have Al := A.lt
      have Bc0 := B.c 0 rfl; have Bc1 := B.c 1 rfl; have Bc2 := B.c 2 rfl; have Bc3 := B.c 3 rfl; have Bl := B.lt
      have Sc0 := S.c 0 rfl; have Sc1 := S.c 1 rfl; have Sc2 := S.c 2 rfl; have Sc3 := S.c 3 rfl; have Sl := S.lt
      have X := Blk.new w7 [.int .u64 a3, .int .u64 a2, .int .u64 a1, .int .u64 a0] 26 rfl
      replace A := A.alloc (.cells #[.int .u64 a3, .int .u64 a2, .int .u64 a1, .int .u64 a0] 26)
      replace B := B.alloc (.cells #[.int .u64 a3, .int .u64 a2, .int .u64 a1, .int .u64 a0] 26)
      replace S := S.alloc (.cells #[.int .u64 a3, .int .u64 a2, .int .u64 a1, .int .u64 a0] 26)
      replace HB7 := HB7.alloc HB7.size (.cells #[.int .u64 a3, .int .u64 a2, .int .u64 a1, .int .u64 a0] 26)
      have haa : (a3 == a3) = true := by simp
      go_wp2_with fail
      refine (implOf_any ((n : Int) % 9 - 4) _ (by omega) (by omega)).mono ?_
      rintro e w8 ⟨c3, c2, c1, c0, rfl, hc3, hc2, hc1, hc0, hcv, hB⟩
      have hc : Word c3 ∧ Word c2 ∧ Word c1 ∧ Word c0 := ⟨hc3, hc2, hc1, hc0⟩
      clear hc3 hc2 hc1 hc0
      replace A := A.step hB
      replace B := B.step hB
      replace S := S.step hB
      replace X := X.step hB
      have HB8 : Below w.heap.size w w8 := HB7.trans (hB.mono HB7.size)
      clear Ac0 Ac1 Ac2 Ac3 Al Bc0 Bc1 Bc2 Bc3 Bl Sc0 Sc1 Sc2 Sc3 Sl
      clear hB HB7
      clear X
      have Ac0 := A.c 0 rfl; have Ac1 := A.c 1 rfl; have Ac2 := A.c 2 rfl; have Ac3 := A.c 3 rfl; have Al := A.lt
      have Bc0 := B.c 0 rfl; have Bc1 := B.c 1 rfl; have Bc2 := B.c 2 rfl; have Bc3 := B.c 3 rfl; have Bl := B.lt
      have Sc0 := S.c 0 rfl; have Sc1 := S.c 1 rfl; have Sc2 := S.c 2 rfl; have Sc3 := S.c 3 rfl; have Sl := S.lt
      have C := Blk.new w8 [.int .u64 c3, .int .u64 c2, .int .u64 c1, .int .u64 c0] 26 rfl
      replace A := A.alloc (.cells #[.int .u64 c3, .int .u64 c2, .int .u64 c1, .int .u64 c0] 26)
      replace B := B.alloc (.cells #[.int .u64 c3, .int .u64 c2, .int .u64 c1, .int .u64 c0] 26)
      replace S := S.alloc (.cells #[.int .u64 c3, .int .u64 c2, .int .u64 c1, .int .u64 c0] 26)
      replace HB8 := HB8.alloc HB8.size (.cells #[.int .u64 c3, .int .u64 c2, .int .u64 c1, .int .u64 c0] 26)
      go_wp2_with fail
      refine (implMul_any s3 s2 s1 s0 c3 c2 c1 c0 hSw.1 hSw.2.1 hSw.2.2.1 hSw.2.2.2 hc.1 hc.2.1 hc.2.2.1 hc.2.2.2 _).mono ?_
      intro e w9 hX
      obtain ⟨x3, x2, x1, x0, k3, rfl, hXw, hB⟩ := tell_words4 hX
      replace A := A.step hB
      replace B := B.step hB
      replace S := S.step hB
      replace C := C.step hB
      have HB9 : Below w.heap.size w w9 := HB8.trans (hB.mono HB8.size)
      clear Ac0 Ac1 Ac2 Ac3 Al Bc0 Bc1 Bc2 Bc3 Bl Sc0 Sc1 Sc2 Sc3 Sl
      clear hB HB8
      have Ac0 := A.c 0 rfl; have Ac1 := A.c 1 rfl; have Ac2 := A.c 2 rfl; have Ac3 := A.c 3 rfl; have Al := A.lt
      have Bc0 := B.c 0 rfl; have Bc1 := B.c 1 rfl; have Bc2 := B.c 2 rfl; have Bc3 := B.c 3 rfl; have Bl := B.lt
      have Sc0 := S.c 0 rfl; have Sc1 := S.c 1 rfl; have Sc2 := S.c 2 rfl; have Sc3 := S.c 3 rfl; have Sl := S.lt
      have Cc0 := C.c 0 rfl; have Cc1 := C.c 1 rfl; have Cc2 := C.c 2 rfl; have Cc3 := C.c 3 rfl; have Cl := C.lt
      have X := Blk.new w9 [.int .u64 x3, .int .u64 x2, .int .u64 x1, .int .u64 x0] 26 rfl
      replace A := A.alloc (.cells #[.int .u64 x3, .int .u64 x2, .int .u64 x1, .int .u64 x0] 26)
      replace B := B.alloc (.cells #[.int .u64 x3, .int .u64 x2, .int .u64 x1, .int .u64 x0] 26)
      replace S := S.alloc (.cells #[.int .u64 x3, .int .u64 x2, .int .u64 x1, .int .u64 x0] 26)
      replace C := C.alloc (.cells #[.int .u64 x3, .int .u64 x2, .int .u64 x1, .int .u64 x0] 26)
      replace HB9 := HB9.alloc HB9.size (.cells #[.int .u64 x3, .int .u64 x2, .int .u64 x1, .int .u64 x0] 26)
      go_wp2_with fail
      refine (implMul_any a3 a2 a1 a0 c3 c2 c1 c0 ha.1 ha.2.1 ha.2.2.1 ha.2.2.2 hc.1 hc.2.1 hc.2.2.1 hc.2.2.2 _).mono ?_
      intro e w10 hY
      obtain ⟨y3, y2, y1, y0, k4, rfl, hYw, hB⟩ := tell_words4 hY
      replace A := A.step hB
      replace B := B.step hB
      replace S := S.step hB
      replace C := C.step hB
      replace X := X.step hB
      have HB10 : Below w.heap.size w w10 := HB9.trans (hB.mono HB9.size)
      clear Ac0 Ac1 Ac2 Ac3 Al Bc0 Bc1 Bc2 Bc3 Bl Sc0 Sc1 Sc2 Sc3 Sl Cc0 Cc1 Cc2 Cc3 Cl
      clear hB HB9
      have Ac0 := A.c 0 rfl; have Ac1 := A.c 1 rfl; have Ac2 := A.c 2 rfl; have Ac3 := A.c 3 rfl; have Al := A.lt
      have Bc0 := B.c 0 rfl; have Bc1 := B.c 1 rfl; have Bc2 := B.c 2 rfl; have Bc3 := B.c 3 rfl; have Bl := B.lt
      have Sc0 := S.c 0 rfl; have Sc1 := S.c 1 rfl; have Sc2 := S.c 2 rfl; have Sc3 := S.c 3 rfl; have Sl := S.lt
      have Cc0 := C.c 0 rfl; have Cc1 := C.c 1 rfl; have Cc2 := C.c 2 rfl; have Cc3 := C.c 3 rfl; have Cl := C.lt
      have Xc0 := X.c 0 rfl; have Xc1 := X.c 1 rfl; have Xc2 := X.c 2 rfl; have Xc3 := X.c 3 rfl; have Xl := X.lt
      have Y := Blk.new w10 [.int .u64 y3, .int .u64 y2, .int .u64 y1, .int .u64 y0] 26 rfl
      replace A := A.alloc (.cells #[.int .u64 y3, .int .u64 y2, .int .u64 y1, .int .u64 y0] 26)
      replace B := B.alloc (.cells #[.int .u64 y3, .int .u64 y2, .int .u64 y1, .int .u64 y0] 26)
      replace S := S.alloc (.cells #[.int .u64 y3, .int .u64 y2, .int .u64 y1, .int .u64 y0] 26)
      replace C := C.alloc (.cells #[.int .u64 y3, .int .u64 y2, .int .u64 y1, .int .u64 y0] 26)
      replace X := X.alloc (.cells #[.int .u64 y3, .int .u64 y2, .int .u64 y1, .int .u64 y0] 26)
      replace HB10 := HB10.alloc HB10.size (.cells #[.int .u64 y3, .int .u64 y2, .int .u64 y1, .int .u64 y0] 26)
      go_wp2_with fail
      refine (implMul_any b3 b2 b1 b0 c3 c2 c1 c0 hb.1 hb.2.1 hb.2.2.1 hb.2.2.2 hc.1 hc.2.1 hc.2.2.1 hc.2.2.2 _).mono ?_
      intro e w11 hZ
      obtain ⟨z3, z2, z1, z0, k5, rfl, hZw, hB⟩ := tell_words4 hZ
      replace A := A.step hB
      replace B := B.step hB
      replace S := S.step hB
      replace C := C.step hB
      replace X := X.step hB
      replace Y := Y.step hB
      have HB11 : Below w.heap.size w w11 := HB10.trans (hB.mono HB10.size)
      clear Ac0 Ac1 Ac2 Ac3 Al Bc0 Bc1 Bc2 Bc3 Bl Sc0 Sc1 Sc2 Sc3 Sl Cc0 Cc1 Cc2 Cc3 Cl Xc0 Xc1 Xc2 Xc3 Xl
      clear hB HB10
      clear A
      clear S
      have Bc0 := B.c 0 rfl; have Bc1 := B.c 1 rfl; have Bc2 := B.c 2 rfl; have Bc3 := B.c 3 rfl; have Bl := B.lt
      have Cc0 := C.c 0 rfl; have Cc1 := C.c 1 rfl; have Cc2 := C.c 2 rfl; have Cc3 := C.c 3 rfl; have Cl := C.lt
      have Xc0 := X.c 0 rfl; have Xc1 := X.c 1 rfl; have Xc2 := X.c 2 rfl; have Xc3 := X.c 3 rfl; have Xl := X.lt
      have Yc0 := Y.c 0 rfl; have Yc1 := Y.c 1 rfl; have Yc2 := Y.c 2 rfl; have Yc3 := Y.c 3 rfl; have Yl := Y.lt
      have Z := Blk.new w11 [.int .u64 z3, .int .u64 z2, .int .u64 z1, .int .u64 z0] 26 rfl
      replace B := B.alloc (.cells #[.int .u64 z3, .int .u64 z2, .int .u64 z1, .int .u64 z0] 26)
      replace C := C.alloc (.cells #[.int .u64 z3, .int .u64 z2, .int .u64 z1, .int .u64 z0] 26)
      replace X := X.alloc (.cells #[.int .u64 z3, .int .u64 z2, .int .u64 z1, .int .u64 z0] 26)
      replace Y := Y.alloc (.cells #[.int .u64 z3, .int .u64 z2, .int .u64 z1, .int .u64 z0] 26)
      replace HB11 := HB11.alloc HB11.size (.cells #[.int .u64 z3, .int .u64 z2, .int .u64 z1, .int .u64 z0] 26)
      go_wp2_with fail
      refine (implAdd_any y3 y2 y1 y0 z3 z2 z1 z0 hYw.1 hYw.2.1 hYw.2.2.1 hYw.2.2.2 hZw.1 hZw.2.1 hZw.2.2.1 hZw.2.2.2 _).mono ?_
      intro e w12 hV
      obtain ⟨v3, v2, v1, v0, k6, rfl, hVw, hB⟩ := tell_words4 hV
      replace B := B.step hB
      replace C := C.step hB
      replace X := X.step hB
      replace Y := Y.step hB
      replace Z := Z.step hB
      have HB12 : Below w.heap.size w w12 := HB11.trans (hB.mono HB11.size)
      clear Bc0 Bc1 Bc2 Bc3 Bl Cc0 Cc1 Cc2 Cc3 Cl Xc0 Xc1 Xc2 Xc3 Xl Yc0 Yc1 Yc2 Yc3 Yl
      clear hB HB11
      clear B
      clear C
      clear Y
      clear Z
      have Xc0 := X.c 0 rfl; have Xc1 := X.c 1 rfl; have Xc2 := X.c 2 rfl; have Xc3 := X.c 3 rfl; have Xl := X.lt
      have V := Blk.new w12 [.int .u64 v3, .int .u64 v2, .int .u64 v1, .int .u64 v0] 26 rfl
      replace X := X.alloc (.cells #[.int .u64 v3, .int .u64 v2, .int .u64 v1, .int .u64 v0] 26)
      replace HB12 := HB12.alloc HB12.size (.cells #[.int .u64 v3, .int .u64 v2, .int .u64 v1, .int .u64 v0] 26)
      by_cases hk : k3 = true ∧ k4 = true ∧ k5 = true
      · obtain ⟨rfl, rfl, rfl⟩ := hk
        have eX := (tell_yes hX).2
        have eY := (tell_yes hY).2
        have eZ := (tell_yes hZ).2
        obtain ⟨rfl, rfl, rfl, rfl, rfl⟩ := tell_back hV hXw (by rw [eX, eY, eZ, hok.2, Int.add_mul])
        have xx : (x3 == x3) = true := by simp
        clear eX eY eZ hX hY hZ hV
        go_wp2
        all_goals go_ret
        all_goals exact ⟨rfl, HB12⟩
      · clear hX hY hZ hV
        cases k3 <;> cases k4 <;> cases k5 <;> simp at hk
        all_goals go_wp2
        all_goals go_ret
        all_goals exact ⟨rfl, HB12⟩
end Go.Proofs.Ytllfpnnngdphfaa
