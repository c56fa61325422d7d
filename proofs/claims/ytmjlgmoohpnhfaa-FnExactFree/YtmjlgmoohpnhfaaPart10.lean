/- Part 10 of the walks that the proof leans on. -/
import Derived.Test.YtmjlgmoohpnhfaaPart5
import Derived.Test.YtmjlgmoohpnhfaaPart9
import Derived.Test.YtmjlgmoohpnhfaaPart1
import Derived.Deep.RegionHeld3
import Derived.Deep.DeepCutAuto
import Derived.Test.YtmjlgmoohpnhfaaPart7
/- A segment of two spots: the program's walk. -/
namespace Go.Proofs.Ytmjlgmoohpnhfaa
open Go.RowKit
set_option maxRecDepth 100000 in
set_option maxHeartbeats 400000 in
theorem implSegOf_any (x y u v A B C D : Int) (l k : Bool) (hl : lessI u v x y = l) (hk : segOk A B C D = k) (hA : cond l u x = A) (hB : cond l v y = B) (hC : cond l x u = C) (hD : cond l y v = D) (w : World) :
    Calls Try.prog 121 #[Sp x y, Sp u v] w (VP (.tuple #[Sg (cond k A 0) (cond k B 0) (cond k C 0) (cond k D 0), .bool k]) w) := by
  cases l <;> simp only [cond_true, cond_false] at hA hB hC hD <;> subst hA hB hC hD
  · have B0 := Blk.new w [.int .i64 x, .int .i64 y] 55 rfl
    have HB0 : Below w.heap.size w _ := (Below.refl _ w).alloc (Nat.le_refl _) (.cells #[.int .i64 x, .int .i64 y] 55)
    have B1 := Blk.new (w.alloc (.cells #[.int .i64 x, .int .i64 y] 55)) [.int .i64 u, .int .i64 v] 55 (g := w.heap.size + 1) (by simp)
    replace B0 := B0.alloc (.cells #[.int .i64 u, .int .i64 v] 55)
    replace HB0 := HB0.alloc (by simp) (.cells #[.int .i64 u, .int .i64 v] 55)
    have B2 := Blk.new ((w.alloc (.cells #[.int .i64 x, .int .i64 y] 55)).alloc (.cells #[.int .i64 u, .int .i64 v] 55)) [.int .i64 0, .int .i64 0, .int .i64 0, .int .i64 0] 103 (g := w.heap.size + 1 + 1) (by simp)
    replace B0 := B0.alloc (.cells #[.int .i64 0, .int .i64 0, .int .i64 0, .int .i64 0] 103)
    replace B1 := B1.alloc (.cells #[.int .i64 0, .int .i64 0, .int .i64 0, .int .i64 0] 103)
    replace HB0 := HB0.alloc (by simp; omega) (.cells #[.int .i64 0, .int .i64 0, .int .i64 0, .int .i64 0] 103)
    have B3 := Blk.new (((w.alloc (.cells #[.int .i64 x, .int .i64 y] 55)).alloc (.cells #[.int .i64 u, .int .i64 v] 55)).alloc (.cells #[.int .i64 0, .int .i64 0, .int .i64 0, .int .i64 0] 103)) [.int .i64 x, .int .i64 y, .int .i64 u, .int .i64 v] 103 (g := w.heap.size + 1 + 1 + 1) (by simp)
    replace B0 := B0.alloc (.cells #[.int .i64 x, .int .i64 y, .int .i64 u, .int .i64 v] 103)
    replace B1 := B1.alloc (.cells #[.int .i64 x, .int .i64 y, .int .i64 u, .int .i64 v] 103)
    replace B2 := B2.alloc (.cells #[.int .i64 x, .int .i64 y, .int .i64 u, .int .i64 v] 103)
    replace HB0 := HB0.alloc (by simp; omega) (.cells #[.int .i64 x, .int .i64 y, .int .i64 u, .int .i64 v] 103)
    go_enter Try.func121, Try.ntmps121
    go_wp2_with fail
    refine (isAhead_any _ _ _ _ false hl _).mono ?_
    rintro e w1 ⟨rfl, hB⟩
    replace B0 := B0.step hB; replace B1 := B1.step hB; replace B2 := B2.step hB; replace B3 := B3.step hB
    have HB : Below w.heap.size w w1 := HB0.trans (hB.mono HB0.size)
    clear hB HB0
    have cB00 := B0.c 0 rfl; have fB00 := B0.f 0 rfl; have cB01 := B0.c 1 rfl; have fB01 := B0.f 1 rfl; have cB10 := B1.c 0 rfl; have fB10 := B1.f 0 rfl; have cB11 := B1.c 1 rfl; have fB11 := B1.f 1 rfl; have cB20 := B2.c 0 rfl; have fB20 := B2.f 0 rfl; have cB21 := B2.c 1 rfl; have fB21 := B2.f 1 rfl; have cB22 := B2.c 2 rfl; have fB22 := B2.f 2 rfl; have cB23 := B2.c 3 rfl; have fB23 := B2.f 3 rfl; have cB30 := B3.c 0 rfl; have fB30 := B3.f 0 rfl; have cB31 := B3.c 1 rfl; have fB31 := B3.f 1 rfl; have cB32 := B3.c 2 rfl; have fB32 := B3.f 2 rfl; have cB33 := B3.c 3 rfl; have fB33 := B3.f 3 rfl; have ltB0 := B0.lt; have ltB1 := B1.lt; have ltB2 := B2.lt; have ltB3 := B3.lt
    go_wp2_with fail
    have D2 := B2
    have D3 := B3
    have HC := HB
    refine (implSegOk_any _ _ _ _ k hk _).mono ?_
    rintro e w2 ⟨rfl, hB⟩
    replace D2 := D2.step hB
    replace D3 := D3.step hB
    have HD : Below w.heap.size w w2 := HC.trans (hB.mono HC.size)
    clear hB HC HB B0 B1 B2 B3 cB00 fB00 cB01 fB01 cB10 fB10 cB11 fB11 cB20 fB20 cB21 fB21 cB22 fB22 cB23 fB23 cB30 fB30 cB31 fB31 cB32 fB32 cB33 fB33 ltB0 ltB1 ltB2 ltB3
    have cD20 := D2.c 0 rfl; have fD20 := D2.f 0 rfl; have cD21 := D2.c 1 rfl; have fD21 := D2.f 1 rfl; have cD22 := D2.c 2 rfl; have fD22 := D2.f 2 rfl; have cD23 := D2.c 3 rfl; have fD23 := D2.f 3 rfl; have cD30 := D3.c 0 rfl; have fD30 := D3.f 0 rfl; have cD31 := D3.c 1 rfl; have fD31 := D3.f 1 rfl; have cD32 := D3.c 2 rfl; have fD32 := D3.f 2 rfl; have cD33 := D3.c 3 rfl; have fD33 := D3.f 3 rfl
    have ltD2 := D2.lt; have ltD3 := D3.lt
    cases k
    · go_wp2
      refine bodyPost_ret (v := .tuple #[Sg 0 0 0 0, .bool false]) (by simp [results, Try.results121, go_sem, cD20, cD21, cD22, cD23]) rfl ?_
      refine ⟨rfl, ?_⟩
      repeat' (refine Below.setCell ?_ (by simp; try omega) _)
      exact HD
    · go_wp2
      refine bodyPost_ret (v := .tuple #[Sg x y u v, .bool true]) (by simp [results, Try.results121, go_sem, cD20, cD21, cD22, cD23]) rfl ?_
      refine ⟨rfl, ?_⟩
      repeat' (refine Below.setCell ?_ (by simp; try omega) _)
      exact HD
  · have B0 := Blk.new w [.int .i64 x, .int .i64 y] 55 rfl
    have HB0 : Below w.heap.size w _ := (Below.refl _ w).alloc (Nat.le_refl _) (.cells #[.int .i64 x, .int .i64 y] 55)
    have B1 := Blk.new (w.alloc (.cells #[.int .i64 x, .int .i64 y] 55)) [.int .i64 u, .int .i64 v] 55 (g := w.heap.size + 1) (by simp)
    replace B0 := B0.alloc (.cells #[.int .i64 u, .int .i64 v] 55)
    replace HB0 := HB0.alloc (by simp) (.cells #[.int .i64 u, .int .i64 v] 55)
    have B2 := Blk.new ((w.alloc (.cells #[.int .i64 x, .int .i64 y] 55)).alloc (.cells #[.int .i64 u, .int .i64 v] 55)) [.int .i64 0, .int .i64 0, .int .i64 0, .int .i64 0] 103 (g := w.heap.size + 1 + 1) (by simp)
    replace B0 := B0.alloc (.cells #[.int .i64 0, .int .i64 0, .int .i64 0, .int .i64 0] 103)
    replace B1 := B1.alloc (.cells #[.int .i64 0, .int .i64 0, .int .i64 0, .int .i64 0] 103)
    replace HB0 := HB0.alloc (by simp; omega) (.cells #[.int .i64 0, .int .i64 0, .int .i64 0, .int .i64 0] 103)
    have B3 := Blk.new (((w.alloc (.cells #[.int .i64 x, .int .i64 y] 55)).alloc (.cells #[.int .i64 u, .int .i64 v] 55)).alloc (.cells #[.int .i64 0, .int .i64 0, .int .i64 0, .int .i64 0] 103)) [.int .i64 x, .int .i64 y, .int .i64 u, .int .i64 v] 103 (g := w.heap.size + 1 + 1 + 1) (by simp)
    replace B0 := B0.alloc (.cells #[.int .i64 x, .int .i64 y, .int .i64 u, .int .i64 v] 103)
    replace B1 := B1.alloc (.cells #[.int .i64 x, .int .i64 y, .int .i64 u, .int .i64 v] 103)
    replace B2 := B2.alloc (.cells #[.int .i64 x, .int .i64 y, .int .i64 u, .int .i64 v] 103)
    replace HB0 := HB0.alloc (by simp; omega) (.cells #[.int .i64 x, .int .i64 y, .int .i64 u, .int .i64 v] 103)
    go_enter Try.func121, Try.ntmps121
    go_wp2_with fail
    refine (isAhead_any _ _ _ _ true hl _).mono ?_
    rintro e w1 ⟨rfl, hB⟩
    replace B0 := B0.step hB; replace B1 := B1.step hB; replace B2 := B2.step hB; replace B3 := B3.step hB
    have HB : Below w.heap.size w w1 := HB0.trans (hB.mono HB0.size)
    clear hB HB0
    have cB00 := B0.c 0 rfl; have fB00 := B0.f 0 rfl; have cB01 := B0.c 1 rfl; have fB01 := B0.f 1 rfl; have cB10 := B1.c 0 rfl; have fB10 := B1.f 0 rfl; have cB11 := B1.c 1 rfl; have fB11 := B1.f 1 rfl; have cB20 := B2.c 0 rfl; have fB20 := B2.f 0 rfl; have cB21 := B2.c 1 rfl; have fB21 := B2.f 1 rfl; have cB22 := B2.c 2 rfl; have fB22 := B2.f 2 rfl; have cB23 := B2.c 3 rfl; have fB23 := B2.f 3 rfl; have cB30 := B3.c 0 rfl; have fB30 := B3.f 0 rfl; have cB31 := B3.c 1 rfl; have fB31 := B3.f 1 rfl; have cB32 := B3.c 2 rfl; have fB32 := B3.f 2 rfl; have cB33 := B3.c 3 rfl; have fB33 := B3.f 3 rfl; have ltB0 := B0.lt; have ltB1 := B1.lt; have ltB2 := B2.lt; have ltB3 := B3.lt
    go_wp2_with fail
    have D2 := ((((B2.setO (p := ⟨w.heap.size + 1 + 1 + 1, 0, none⟩) (by simp) (.int .i64 u)).setO (p := ⟨w.heap.size + 1 + 1 + 1, 1, none⟩) (by simp) (.int .i64 v)).setO (p := ⟨w.heap.size + 1 + 1 + 1, 2, none⟩) (by simp) (.int .i64 x)).setO (p := ⟨w.heap.size + 1 + 1 + 1, 3, none⟩) (by simp) (.int .i64 y))
    have D3 := ((((B3.setI 0 (by simp) (.int .i64 u)).setI 1 (by simp) (.int .i64 v)).setI 2 (by simp) (.int .i64 x)).setI 3 (by simp) (.int .i64 y))
    simp only [List.set_cons_zero, List.set_cons_succ] at D3
    have HC := ((((HB.setCell (p := ⟨w.heap.size + 1 + 1 + 1, 0, none⟩) (by simp; omega) (.int .i64 u)).setCell (p := ⟨w.heap.size + 1 + 1 + 1, 1, none⟩) (by simp; omega) (.int .i64 v)).setCell (p := ⟨w.heap.size + 1 + 1 + 1, 2, none⟩) (by simp; omega) (.int .i64 x)).setCell (p := ⟨w.heap.size + 1 + 1 + 1, 3, none⟩) (by simp; omega) (.int .i64 y))
    refine (implSegOk_any _ _ _ _ k hk _).mono ?_
    rintro e w2 ⟨rfl, hB⟩
    replace D2 := D2.step hB
    replace D3 := D3.step hB
    have HD : Below w.heap.size w w2 := HC.trans (hB.mono HC.size)
    clear hB HC HB B0 B1 B2 B3 cB00 fB00 cB01 fB01 cB10 fB10 cB11 fB11 cB20 fB20 cB21 fB21 cB22 fB22 cB23 fB23 cB30 fB30 cB31 fB31 cB32 fB32 cB33 fB33 ltB0 ltB1 ltB2 ltB3
    have cD20 := D2.c 0 rfl; have fD20 := D2.f 0 rfl; have cD21 := D2.c 1 rfl; have fD21 := D2.f 1 rfl; have cD22 := D2.c 2 rfl; have fD22 := D2.f 2 rfl; have cD23 := D2.c 3 rfl; have fD23 := D2.f 3 rfl; have cD30 := D3.c 0 rfl; have fD30 := D3.f 0 rfl; have cD31 := D3.c 1 rfl; have fD31 := D3.f 1 rfl; have cD32 := D3.c 2 rfl; have fD32 := D3.f 2 rfl; have cD33 := D3.c 3 rfl; have fD33 := D3.f 3 rfl
    have ltD2 := D2.lt; have ltD3 := D3.lt
    cases k
    · go_wp2
      refine bodyPost_ret (v := .tuple #[Sg 0 0 0 0, .bool false]) (by simp [results, Try.results121, go_sem, cD20, cD21, cD22, cD23]) rfl ?_
      refine ⟨rfl, ?_⟩
      repeat' (refine Below.setCell ?_ (by simp; try omega) _)
      exact HD
    · go_wp2
      refine bodyPost_ret (v := .tuple #[Sg u v x y, .bool true]) (by simp [results, Try.results121, go_sem, cD20, cD21, cD22, cD23]) rfl ?_
      refine ⟨rfl, ?_⟩
      repeat' (refine Below.setCell ?_ (by simp; try omega) _)
      exact HD
end Go.Proofs.Ytmjlgmoohpnhfaa

/- Whether a segment has a point of a step: the program's walk. -/
namespace Go.Proofs.Ytmjlgmoohpnhfaa
open Go.RowKit
theorem in6_spot {x y : Int} (h : spotOk x y = true) : (-1000000 ≤ x ∧ x ≤ 1000000) ∧ (-1000000 ≤ y ∧ y ≤ 1000000) := by
  have := of_decide_eq_true h
  omega
/-- Whether a segment has a point of the step between two spots. -/
def stB (a b c d p q u v : Int) : Bool := if segOk (cond (lessI u v p q) u p) (cond (lessI u v p q) v q) (cond (lessI u v p q) p u) (cond (lessI u v p q) q v) = true then (!(kndZ a b c d (cond (lessI u v p q) u p) (cond (lessI u v p q) v q) (cond (lessI u v p q) p u) (cond (lessI u v p q) q v) == 0)) else (overJ a b c d p q 1 == 0)
set_option maxRecDepth 100000 in
set_option maxHeartbeats 4000000 in
theorem isOnStep_any (a b c d p q u v : Int) (hs : segOk a b c d = true) (hp : spotOk p q = true) (hu : spotOk u v = true) (w : World) : Calls Try.prog 76 #[.agg #[.int .i64 a, .int .i64 b, .int .i64 c, .int .i64 d], .agg #[.int .i64 p, .int .i64 q], .agg #[.int .i64 u, .int .i64 v]] w (VP (.bool (stB a b c d p q u v)) w) := by
  obtain ⟨ia, ib, ic, id⟩ := in6_seg hs
  obtain ⟨ip, iq⟩ := in6_spot hp
  obtain ⟨iu, iv⟩ := in6_spot hu
  obtain ⟨A, hA⟩ : ∃ A, cond (lessI u v p q) u p = A := ⟨_, rfl⟩
  obtain ⟨B, hB⟩ : ∃ B, cond (lessI u v p q) v q = B := ⟨_, rfl⟩
  obtain ⟨C, hC⟩ : ∃ C, cond (lessI u v p q) p u = C := ⟨_, rfl⟩
  obtain ⟨D, hD⟩ : ∃ D, cond (lessI u v p q) q v = D := ⟨_, rfl⟩
  have jA : -1000000 ≤ A ∧ A ≤ 1000000 := by rw [← hA]; cases lessI u v p q <;> assumption
  have jB : -1000000 ≤ B ∧ B ≤ 1000000 := by rw [← hB]; cases lessI u v p q <;> assumption
  have jC : -1000000 ≤ C ∧ C ≤ 1000000 := by rw [← hC]; cases lessI u v p q <;> assumption
  have jD : -1000000 ≤ D ∧ D ≤ 1000000 := by rw [← hD]; cases lessI u v p q <;> assumption
  obtain ⟨k, hk⟩ : ∃ k, segOk A B C D = k := ⟨_, rfl⟩
  have CS := fun w => implSegOf_any p q u v A B C D _ k rfl hk hA hB hC hD w
  have HO : Hid (stB a b c d p q u v = if k = true then (!(kndZ a b c d A B C D == 0)) else (overJ a b c d p q 1 == 0)) := by show _ = _; unfold stB; rw [hA, hB, hC, hD, hk]
  have X3 := ((Blk.new w [.int .i64 a, .int .i64 b, .int .i64 c, .int .i64 d] 103 rfl).alloc (.cells #[.int .i64 p, .int .i64 q] 55)).alloc (.cells #[.int .i64 u, .int .i64 v] 55)
  have X4 := (Blk.new (w.alloc (.cells #[.int .i64 a, .int .i64 b, .int .i64 c, .int .i64 d] 103)) [.int .i64 p, .int .i64 q] 55 (g := w.heap.size + 1) (by simp)).alloc (.cells #[.int .i64 u, .int .i64 v] 55)
  have HB : Below w.heap.size w (((w.alloc (.cells #[.int .i64 a, .int .i64 b, .int .i64 c, .int .i64 d] 103)).alloc (.cells #[.int .i64 p, .int .i64 q] 55)).alloc (.cells #[.int .i64 u, .int .i64 v] 55)) := (((Below.refl _ _).alloc (Nat.le_refl _) _).alloc (by simp) _).alloc (by simp; omega) _
  clear hA hB hC hD hk hs hp hu
  go_enter Try.func76, Try.ntmps76
  go_wp2_with fail
  generalize (((w.alloc (.cells #[.int .i64 a, .int .i64 b, .int .i64 c, .int .i64 d] 103)).alloc (.cells #[.int .i64 p, .int .i64 q] 55)).alloc (.cells #[.int .i64 u, .int .i64 v] 55)) = W at *
  generalize w.heap.size + 1 = g4 at *
  refine (CS _).mono ?_
  rintro e w1 ⟨rfl, hB⟩
  replace HB := HB.trans (hB.mono HB.size)
  replace X3 := X3.step hB
  replace X4 := X4.step hB
  clear hB CS
  cases k
  · have H2 : Hid (stB a b c d p q u v = (overJ a b c d p q 1 == 0)) := HO.out
    have Z7 := Blk.new w1 [.int .i64 0, .int .i64 0, .int .i64 0, .int .i64 0] 103 rfl
    replace HB := HB.alloc HB.size (.cells #[.int .i64 0, .int .i64 0, .int .i64 0, .int .i64 0] 103)
    replace X3 := X3.alloc (.cells #[.int .i64 0, .int .i64 0, .int .i64 0, .int .i64 0] 103)
    replace X4 := X4.alloc (.cells #[.int .i64 0, .int .i64 0, .int .i64 0, .int .i64 0] 103)
    clear Z7 HO
    have C1 := pointOfI p q ip iq
    have C2 := overAt_det a b c d p q 1 ia ib ic id (small_int (by omega) (by omega)) (small_int (by omega) (by omega)) (by decide)
    generalize overJ a b c d p q 1 = m at *
    go_upto_region 3 with fail
    generalize (w1.alloc (.cells #[.int .i64 0, .int .i64 0, .int .i64 0, .int .i64 0] 103)) = W1 at *
    go_region_held3 (fun w' => (w'.cell? ⟨w.heap.size, 0, none⟩ = some (.int .i64 a) ∧ w'.cell? ⟨w.heap.size, 1, none⟩ = some (.int .i64 b) ∧ w'.cell? ⟨w.heap.size, 2, none⟩ = some (.int .i64 c) ∧ w'.cell? ⟨w.heap.size, 3, none⟩ = some (.int .i64 d)) ∧ (w'.cell? ⟨g4, 0, none⟩ = some (.int .i64 p) ∧ w'.cell? ⟨g4, 1, none⟩ = some (.int .i64 q))) ((refine ⟨Blk.cs4 (vs := []) ?_, Blk.cs2 (vs := []) ?_⟩ <;> repeat (first | (with_reducible exact X3) | (with_reducible exact X4) | (with_reducible refine Blk.drew ?_))))
      (first
        | (go_at_call 123; refine (C1 _).mono ?_; rintro e w2 ⟨rfl, hB⟩; (first | (replace X3 := X3.step hB; replace X4 := X4.step hB; replace HB := HB.trans (hB.mono HB.size)) | (replace X3 := X3.drew.step hB; replace X4 := X4.drew.step hB; replace HB := HB.drew.trans (hB.mono HB.size))); clear hB)
        | (go_at_call 122; refine (C2 _).mono ?_; rintro e w3 ⟨rfl, hB⟩; (first | (replace X3 := X3.step hB; replace X4 := X4.step hB; replace HB := HB.trans (hB.mono HB.size)) | (replace X3 := X3.drew.step hB; replace X4 := X4.drew.step hB; replace HB := HB.drew.trans (hB.mono HB.size))); clear hB))
    all_goals go_wp2
    all_goals go_ret
    all_goals exact ⟨by rw [H2.out]; rfl, by first | exact HB | exact HB.drew⟩
  · have H2 : Hid (stB a b c d p q u v = (!(kndZ a b c d A B C D == 0))) := HO.out
    clear HO
    have CM := meet_det a b c d A B C D ia ib ic id jA jB jC jD
    obtain ⟨r0, r1, r2, r3, r4, r5, r6, r7, r8, r9, r10, r11, s0, s1, s2, s3, s4, s5, s6, s7, s8, s9, s10, s11, hm⟩ := meetW_12 a b c d A B C D
    rw [hm] at CM
    clear hm
    generalize kndZ a b c d A B C D = m at *
    have X7 := Blk.new w1 [.int .i64 A, .int .i64 B, .int .i64 C, .int .i64 D] 103 rfl
    rw [show ([.int .i64 A, .int .i64 B, .int .i64 C, .int .i64 D] : List Value).toArray = #[.int .i64 A, .int .i64 B, .int .i64 C, .int .i64 D] from rfl] at X7
    replace HB := HB.alloc HB.size (.cells #[.int .i64 A, .int .i64 B, .int .i64 C, .int .i64 D] 103)
    replace X3 := X3.alloc (.cells #[.int .i64 A, .int .i64 B, .int .i64 C, .int .i64 D] 103)
    obtain ⟨c0, c1, c2, c3⟩ := X3.cs4
    obtain ⟨d0, d1, d2, d3⟩ := X7.cs4
    go_wp2_with fail
    clear c0 c1 c2 c3 d0 d1 d2 d3 X3 X7 X4
    generalize (w1.alloc (.cells #[.int .i64 A, .int .i64 B, .int .i64 C, .int .i64 D] 103)) = W1 at *
    refine (CM _).mono ?_
    rintro e w2 ⟨rfl, hB⟩
    replace HB := HB.trans (hB.mono HB.size)
    clear hB CM
    have HB2 := (HB.alloc HB.size (.cells #[.int .u64 r0, .int .u64 r1, .int .u64 r2, .int .u64 r3, .int .u64 r4, .int .u64 r5, .int .u64 r6, .int .u64 r7, .int .u64 r8, .int .u64 r9, .int .u64 r10, .int .u64 r11] 83)).alloc (HB.alloc HB.size (.cells #[.int .u64 r0, .int .u64 r1, .int .u64 r2, .int .u64 r3, .int .u64 r4, .int .u64 r5, .int .u64 r6, .int .u64 r7, .int .u64 r8, .int .u64 r9, .int .u64 r10, .int .u64 r11] 83)).size (.cells #[.int .u64 s0, .int .u64 s1, .int .u64 s2, .int .u64 s3, .int .u64 s4, .int .u64 s5, .int .u64 s6, .int .u64 s7, .int .u64 s8, .int .u64 s9, .int .u64 s10, .int .u64 s11] 83)
    clear HB
    go_wp2
    go_ret
    exact ⟨by rw [H2.out]; rfl, HB2⟩
set_option maxRecDepth 100000 in
set_option maxHeartbeats 4000000 in
theorem free1_any (a b c d p q u v : Int) (hs : segOk a b c d = true) (hp : spotOk p q = true) (hu : spotOk u v = true) (gf gt : Nat) (w : World) (XF : Blk w gf [.int .i64 p, .int .i64 q]) (XT : Blk w gt [.int .i64 u, .int .i64 v]) : Calls Try.prog 75 #[.agg #[.int .i64 a, .int .i64 b, .int .i64 c, .int .i64 d], .pointer (some ⟨gf, 0, none⟩), .pointer (some ⟨gt, 0, none⟩)] w (VP (.bool (stB a b c d p q u v)) w) := by
  have C := isOnStep_any a b c d p q u v hs hp hu
  have HB := (Below.refl w.heap.size w).alloc (Nat.le_refl _) (.cells #[.int .i64 a, .int .i64 b, .int .i64 c, .int .i64 d] 103)
  replace XF := XF.alloc (.cells #[.int .i64 a, .int .i64 b, .int .i64 c, .int .i64 d] 103)
  replace XT := XT.alloc (.cells #[.int .i64 a, .int .i64 b, .int .i64 c, .int .i64 d] 103)
  obtain ⟨p0, p1⟩ := XF.cs2
  obtain ⟨q0, q1⟩ := XT.cs2
  clear hs hp hu
  generalize stB a b c d p q u v = r at *
  go_enter Try.func75, Try.ntmps75
  go_wp2_with fail
  refine (C _).mono ?_
  rintro e w1 ⟨rfl, hB⟩
  replace HB := HB.trans (hB.mono HB.size)
  clear hB p0 p1 q0 q1 XF XT
  go_wp2
  go_ret
  exact ⟨rfl, HB⟩
end Go.Proofs.Ytmjlgmoohpnhfaa

/- Rows of segments: copied and held against one another; the law of what is at fault in them. -/
namespace Go.Proofs.Ytmjlgmoohpnhfaa
open Go.RowKit
theorem eqSpot_same (x y : Int) (w : World) : Calls Try.prog 77 #[Sp x y, Sp x y] w (BoolP true w) := by
  go_enter Try.func77, Try.ntmps77
  go_wp2
  go_ret
  exact ⟨rfl, ((Below.refl _ _).alloc (Nat.le_refl _) _).alloc (by simp) _⟩
set_option maxRecDepth 100000 in
theorem eqSeg_same (a b c d : Int) (w : World) : Calls Try.prog 67 #[Sg a b c d, Sg a b c d] w (BoolP true w) := by
  have B0 := (Blk.new w [.int .i64 a, .int .i64 b, .int .i64 c, .int .i64 d] 103 rfl).alloc (.cells #[.int .i64 a, .int .i64 b, .int .i64 c, .int .i64 d] 103)
  have B1 := Blk.new (w.alloc (.cells #[.int .i64 a, .int .i64 b, .int .i64 c, .int .i64 d] 103)) [.int .i64 a, .int .i64 b, .int .i64 c, .int .i64 d] 103 (g := w.heap.size + 1) (by simp)
  have HB0 := ((Below.refl _ w).alloc (Nat.le_refl _) (.cells #[.int .i64 a, .int .i64 b, .int .i64 c, .int .i64 d] 103)).alloc (by simp) (.cells #[.int .i64 a, .int .i64 b, .int .i64 c, .int .i64 d] 103)
  go_enter Try.func67, Try.ntmps67
  go_wp2_with fail
  refine (eqSpot_same _ _ _).mono ?_
  rintro e w1 ⟨rfl, hB⟩
  replace B0 := B0.step hB; replace B1 := B1.step hB
  have HB : Below w.heap.size w w1 := HB0.trans (hB.mono HB0.size)
  clear hB HB0
  have p2 := B0.c 2 rfl; have p3 := B0.c 3 rfl; have q2 := B1.c 2 rfl; have q3 := B1.c 3 rfl
  go_wp2_with fail
  refine (eqSpot_same _ _ _).mono ?_
  rintro e w2 ⟨rfl, hB⟩
  have HB2 : Below w.heap.size w w2 := HB.trans (hB.mono HB.size)
  clear hB HB
  go_wp2
  go_ret
  exact ⟨rfl, HB2⟩
theorem Try.infoSeg : (Try.prog.info? 103).map (fun i => (i.zero, i.size, i.bytes)) = some (some (.agg #[.int .i64 0, .int .i64 0, .int .i64 0, .int .i64 0]), 4, 32) := by kernel_rfl
theorem make_segs (n : Nat) (hn : n ≤ 1048576) (w : World) : (Instr.makeSlice 53 (.int .i64 (n : Int)) (.int .i64 (n : Int))).run Try.prog w = .ok (.slice (some ⟨w.heap.size, 0, none⟩) n n) (w.alloc (.cells (madeCells #[.int .i64 0, .int .i64 0, .int .i64 0, .int .i64 0] (n * 4)) 103)) := by
  obtain ⟨i, hi, hzz⟩ := Option.map_eq_some_iff.1 Try.infoSeg
  simp only [Prod.mk.injEq] at hzz
  obtain ⟨hz, hs, hb⟩ := hzz
  have hr := run_make (P := Try.prog) w 53 103 i (.agg #[.int .i64 0, .int .i64 0, .int .i64 0, .int .i64 0]) Try.underlying53 hi hz .i64 .i64 n n (by omega) (Int.le_refl _) (by rw [hb]; omega) (by omega)
  simp only [Int.toNat_natCast, hs, Value.cells] at hr
  exact hr
theorem row_made (w : World) (n : Nat) (T : TypeId) : (w.alloc (.cells (madeCells #[.int .i64 0, .int .i64 0, .int .i64 0, .int .i64 0] (n * 4)) T)).rowIs w.heap.size T (n * 4) (fun _ => .int .i64 0) := by
  have h := World.rowIs_alloc w (madeCells #[.int .i64 0, .int .i64 0, .int .i64 0, .int .i64 0] (n * 4)) T (fun _ => .int .i64 0) (fun i hi => by
    rw [size_madeCells] at hi
    simp [madeCells, hi]
    rcases (show i % 4 = 0 ∨ i % 4 = 1 ∨ i % 4 = 2 ∨ i % 4 = 3 by omega) with h | h | h | h <;> simp [h])
  rwa [size_madeCells] at h
/-- So far the row holds what was copied, behind it zeros. -/
def cpF (x : Nat → Int) (c : Nat) (i : Nat) : Value := .int .i64 (if i < c * 4 then x i else 0)
theorem row_step {w w' : World} {g n : Nat} {T : TypeId} {f : Nat → Value} (h : w.rowIs g T n f) (hB : Below w.heap.size w w') : w'.rowIs g T n f := h.of_block (hB.block g h.lt)
theorem cp_step {w : World} {g n c : Nat} {T : TypeId} {x : Nat → Int} (h : w.rowIs g T (n * 4) (cpF x c)) (_hc : c < n) :
    ((((w.setCell ⟨g, c * 4, none⟩ (.int .i64 (x (c * 4)))).setCell ⟨g, c * 4 + 1, none⟩ (.int .i64 (x (c * 4 + 1)))).setCell ⟨g, c * 4 + 2, none⟩ (.int .i64 (x (c * 4 + 2)))).setCell ⟨g, c * 4 + 3, none⟩ (.int .i64 (x (c * 4 + 3)))).rowIs g T (n * 4) (cpF x (c + 1)) := by
  refine ((((h.set (c * 4) (.int .i64 (x (c * 4)))).set (c * 4 + 1) (.int .i64 (x (c * 4 + 1)))).set (c * 4 + 2) (.int .i64 (x (c * 4 + 2)))).set (c * 4 + 3) (.int .i64 (x (c * 4 + 3)))).congr (fun i hi => ?_)
  unfold cpF
  by_cases h3 : i = c * 4 + 3
  · subst h3; simp <;> omega
  by_cases h2 : i = c * 4 + 2
  · subst h2; simp <;> omega
  by_cases h1 : i = c * 4 + 1
  · subst h1; simp <;> omega
  by_cases h0 : i = c * 4
  · subst h0; simp <;> omega
  simp [h3, h2, h1, h0]
  by_cases hl : i < c * 4
  · simp [hl] <;> omega
  · simp [hl] <;> omega
set_option maxRecDepth 100000 in
set_option maxHeartbeats 2000000 in
theorem toSegS_any (ao : Option Addr) (n cap : Nat) (x : Nat → Int) (hn : n ≤ 1048576) (w : World) (hS : SegIn w ao n x) : Calls Try.prog 24 #[.slice ao n cap] w (fun e w' => ∃ g, e = .returned (.slice (some ⟨g, 0, none⟩) n n) ∧ w'.rowIs g 103 (n * 4) (fun i => .int .i64 (x i)) ∧ Below w.heap.size w w') := by
  have MK := make_segs n hn
  have HS : Hid (SegIn w ao n x) := hS
  clear hS
  go_enter Try.func24, Try.ntmps24
  go_wp2_with fail
  have R0 := row_made w n 103
  have B0 : Below w.heap.size w (w.alloc (.cells (madeCells #[.int .i64 0, .int .i64 0, .int .i64 0, .int .i64 0] (n * 4)) 103)) := (Below.refl _ _).alloc (Nat.le_refl _) _
  generalize w.alloc (.cells (madeCells #[.int .i64 0, .int .i64 0, .int .i64 0, .int .i64 0] (n * 4)) 103) = W1 at *
  have hnI : (n : Int) ≤ 1048576 := by omega
  clear MK
  go_loopw [4] (fun i wr => ∃ c : Nat, c ≤ n ∧ i = .int .i64 c ∧ wr.rowIs w.heap.size 103 (n * 4) (cpF x c) ∧ Below w.heap.size w wr) (fun i _ => n - (intOf i).toNat)
  case atStart => exact ⟨0, by omega, rfl, R0.congr (fun i _ => by unfold cpF; simp), B0⟩
  case round =>
    clear R0 B0
    obtain ⟨c, hc, rfl, R, HB⟩ := hrel
    by_cases hcn : c < n
    · obtain ⟨A, off, rfl, hA, hcell⟩ := HS.out c hcn
      have e0 : ∀ o, wr.cell? ⟨A, o, none⟩ = w.cell? ⟨A, o, none⟩ := fun o => HB.cell (p := ⟨A, o, none⟩) hA
      have q0 := (e0 _).trans (hcell 0 (by omega)); have q1 := (e0 _).trans (hcell 1 (by omega)); have q2 := (e0 _).trans (hcell 2 (by omega)); have q3 := (e0 _).trans (hcell 3 (by omega))
      simp only [Nat.add_zero] at q0
      have hcI : (c : Int) < n := by omega
      clear hcell e0
      go_wp2_with fail
      refine (toSeg_any (x (c * 4)) (x (c * 4 + 1)) (x (c * 4 + 2)) (x (c * 4 + 3)) _).mono ?_
      rintro e w1 ⟨rfl, hB⟩
      replace R := row_step R hB
      replace HB := HB.trans (hB.mono HB.size)
      have o0 := R.cell (i := c * 4) (by omega); have o1 := R.cell (i := c * 4 + 1) (by omega); have o2 := R.cell (i := c * 4 + 2) (by omega); have o3 := R.cell (i := c * 4 + 3) (by omega)
      have f0 := R.frozen (c * 4); have f1 := R.frozen (c * 4 + 1); have f2 := R.frozen (c * 4 + 2); have f3 := R.frozen (c * 4 + 3)
      have RN := cp_step R hcn
      have HN : Below w.heap.size w ((((w1.setCell ⟨w.heap.size, c * 4, none⟩ (.int .i64 (x (c * 4)))).setCell ⟨w.heap.size, c * 4 + 1, none⟩ (.int .i64 (x (c * 4 + 1)))).setCell ⟨w.heap.size, c * 4 + 2, none⟩ (.int .i64 (x (c * 4 + 2)))).setCell ⟨w.heap.size, c * 4 + 3, none⟩ (.int .i64 (x (c * 4 + 3)))) := (((HB.setCell (by simp) _).setCell (by simp) _).setCell (by simp) _).setCell (by simp) _
      clear hB q0 q1 q2 q3 hA R HB
      go_wp2
      go_roundw
      case rel => exact ⟨c + 1, by omega, by go_num, RN, HN⟩
      case measure => simp [intOf]; omega
    · obtain rfl : c = n := by omega
      have RN : wr.rowIs w.heap.size 103 (c * 4) (fun i => .int .i64 (x i)) := R.congr (fun i hi => by unfold cpF; rw [if_pos hi])
      clear R HS
      go_wp2
      go_ret
      exact ⟨_, rfl, RN, HB⟩
end Go.Proofs.Ytmjlgmoohpnhfaa

/- Rows of segments: the law of what is at fault in them. -/
namespace Go.Proofs.Ytmjlgmoohpnhfaa
open Go.RowKit
set_option maxRecDepth 100000 in
set_option maxHeartbeats 2000000 in
theorem eqSegS_any (ao bo : Option Addr) (n ca cb : Nat) (x : Nat → Int) (hn : n ≤ 1048576) (w : World) (hA : SegIn w ao n x) (hC : SegIn w bo n x) : Calls Try.prog 28 #[.slice ao n ca, .slice bo n cb] w (BoolP true w) := by
  have HA : Hid (SegIn w ao n x) := hA
  have HC : Hid (SegIn w bo n x) := hC
  have hnI : (n : Int) ≤ 1048576 := by omega
  clear hA hC
  go_enter Try.func28, Try.ntmps28
  go_wp2_with fail
  go_loopw [5] (fun i wr => ∃ c : Nat, c ≤ n ∧ i = .int .i64 c ∧ Below w.heap.size w wr) (fun i _ => n - (intOf i).toNat)
  case atStart => exact ⟨0, by omega, rfl, Below.refl _ _⟩
  case round =>
    obtain ⟨c, hc, rfl, HB⟩ := hrel
    by_cases hcn : c < n
    · obtain ⟨A, off, rfl, hA, hcell⟩ := HA.out.step HB c hcn
      have q0 := hcell 0 (by omega); have q1 := hcell 1 (by omega); have q2 := hcell 2 (by omega); have q3 := hcell 3 (by omega)
      simp only [Nat.add_zero] at q0
      obtain ⟨B, off', rfl, hB', hcell'⟩ := HC.out.step HB c hcn
      have r0 := hcell' 0 (by omega); have r1 := hcell' 1 (by omega); have r2 := hcell' 2 (by omega); have r3 := hcell' 3 (by omega)
      simp only [Nat.add_zero] at r0
      have hcI : (c : Int) < n := by omega
      clear hcell hcell'
      have KS : (fun w' => w'.cell? ⟨A, off + c * 4, none⟩ = some (.int .i64 (x (c * 4))) ∧ w'.cell? ⟨A, off + c * 4 + 1, none⟩ = some (.int .i64 (x (c * 4 + 1))) ∧ w'.cell? ⟨A, off + c * 4 + 2, none⟩ = some (.int .i64 (x (c * 4 + 2))) ∧ w'.cell? ⟨A, off + c * 4 + 3, none⟩ = some (.int .i64 (x (c * 4 + 3))) ∧ w'.cell? ⟨B, off' + c * 4, none⟩ = some (.int .i64 (x (c * 4))) ∧ w'.cell? ⟨B, off' + c * 4 + 1, none⟩ = some (.int .i64 (x (c * 4 + 1))) ∧ w'.cell? ⟨B, off' + c * 4 + 2, none⟩ = some (.int .i64 (x (c * 4 + 2))) ∧ w'.cell? ⟨B, off' + c * 4 + 3, none⟩ = some (.int .i64 (x (c * 4 + 3)))) wr := ⟨q0, q1, q2, q3, r0, r1, r2, r3⟩
      go_wp2_with fail
      go_region_held3 (fun w' => w'.cell? ⟨A, off + c * 4, none⟩ = some (.int .i64 (x (c * 4))) ∧ w'.cell? ⟨A, off + c * 4 + 1, none⟩ = some (.int .i64 (x (c * 4 + 1))) ∧ w'.cell? ⟨A, off + c * 4 + 2, none⟩ = some (.int .i64 (x (c * 4 + 2))) ∧ w'.cell? ⟨A, off + c * 4 + 3, none⟩ = some (.int .i64 (x (c * 4 + 3))) ∧ w'.cell? ⟨B, off' + c * 4, none⟩ = some (.int .i64 (x (c * 4))) ∧ w'.cell? ⟨B, off' + c * 4 + 1, none⟩ = some (.int .i64 (x (c * 4 + 1))) ∧ w'.cell? ⟨B, off' + c * 4 + 2, none⟩ = some (.int .i64 (x (c * 4 + 2))) ∧ w'.cell? ⟨B, off' + c * 4 + 3, none⟩ = some (.int .i64 (x (c * 4 + 3)))) (first | (exact KS) | (exact KS'))
        (first
          | (go_at_call 67; refine (eqSeg_same (x (c * 4)) (x (c * 4 + 1)) (x (c * 4 + 2)) (x (c * 4 + 3)) _).mono ?_; rintro e w1 ⟨rfl, hB⟩; have KS' : (fun w' => w'.cell? ⟨A, off + c * 4, none⟩ = some (.int .i64 (x (c * 4))) ∧ w'.cell? ⟨A, off + c * 4 + 1, none⟩ = some (.int .i64 (x (c * 4 + 1))) ∧ w'.cell? ⟨A, off + c * 4 + 2, none⟩ = some (.int .i64 (x (c * 4 + 2))) ∧ w'.cell? ⟨A, off + c * 4 + 3, none⟩ = some (.int .i64 (x (c * 4 + 3))) ∧ w'.cell? ⟨B, off' + c * 4, none⟩ = some (.int .i64 (x (c * 4))) ∧ w'.cell? ⟨B, off' + c * 4 + 1, none⟩ = some (.int .i64 (x (c * 4 + 1))) ∧ w'.cell? ⟨B, off' + c * 4 + 2, none⟩ = some (.int .i64 (x (c * 4 + 2))) ∧ w'.cell? ⟨B, off' + c * 4 + 3, none⟩ = some (.int .i64 (x (c * 4 + 3)))) w1 := ⟨(hB.cell (p := ⟨A, _, none⟩) hA).trans q0, (hB.cell (p := ⟨A, _, none⟩) hA).trans q1, (hB.cell (p := ⟨A, _, none⟩) hA).trans q2, (hB.cell (p := ⟨A, _, none⟩) hA).trans q3, (hB.cell (p := ⟨B, _, none⟩) hB').trans r0, (hB.cell (p := ⟨B, _, none⟩) hB').trans r1, (hB.cell (p := ⟨B, _, none⟩) hB').trans r2, (hB.cell (p := ⟨B, _, none⟩) hB').trans r3⟩; (first | (have HB2 := HB.trans (hB.mono HB.size)) | (have HB2 := HB.drew.trans (hB.mono HB.drew.size))); clear hB))
      all_goals clear HB KS q0 q1 q2 q3 r0 r1 r2 r3
      all_goals go_wp2
      all_goals go_roundw
      case rel => exact ⟨c + 1, by omega, by go_num, HB2⟩
      case measure => simp [intOf]; omega
    · obtain rfl : c = n := by omega
      clear HA HC
      go_wp2
      go_ret
      exact ⟨rfl, HB⟩
theorem szSegS_any (ao : Option Addr) (n cap : Nat) (hn : n ≤ 9223372036854775807) (w : World) : Calls Try.prog 22 #[.slice ao n cap, .int .i64 1048576] w (VP (.int .i64 (if n ≤ 1048576 then 1048576 - n else -1)) w) := by
  have hnI : (n : Int) ≤ 9223372036854775807 := by omega
  by_cases h : n ≤ 1048576
  · rw [if_pos h]
    have h' : (n : Int) ≤ 1048576 := by omega
    go_enter Try.func22, Try.ntmps22
    go_wp2
    go_ret
    exact ⟨rfl, Below.refl _ _⟩
  · rw [if_neg h]
    have h' : (1048576 : Int) < n := by omega
    go_enter Try.func22, Try.ntmps22
    go_wp2
    go_ret
    exact ⟨rfl, Below.refl _ _⟩
end Go.Proofs.Ytmjlgmoohpnhfaa

/- Rows of numbers: how they lie; copied, held against one another. -/
namespace Go.Proofs.Ytmjlgmoohpnhfaa
open Go.RowKit
/-- n numbers lie behind a slice's address. -/
def NoIn (w : World) (ao : Option Addr) (n : Nat) (x : Nat → Int) : Prop :=
  ∀ i, i < n → ∃ A off, ao = some ⟨A, off, none⟩ ∧ A < w.heap.size ∧ w.cell? ⟨A, off + i, none⟩ = some (.int .i64 (x i))
theorem NoIn.step {w w' : World} {ao : Option Addr} {n : Nat} {x : Nat → Int} (h : NoIn w ao n x) (hB : Below w.heap.size w w') : NoIn w' ao n x := fun i hi => by
  obtain ⟨A, off, e, hA, hc⟩ := h i hi
  exact ⟨A, off, e, Nat.lt_of_lt_of_le hA hB.size, (hB.cell (p := ⟨A, off + i, none⟩) hA).trans hc⟩
end Go.Proofs.Ytmjlgmoohpnhfaa

/- Answers that own their rows of numbers: held against one another, marked, held again; a row of segments marked. -/
namespace Go.Proofs.Ytmjlgmoohpnhfaa
open Go.RowKit
/-- A slice of the call's own, with these numbers. -/
def NoOwn (w : World) (base : Nat) (v : Value) (L : List Int) : Prop :=
  (v = .slice none 0 0 ∧ L = []) ∨ ∃ g cap f, v = .slice (some ⟨g, 0, none⟩) L.length cap ∧ base ≤ g ∧ L.length ≤ cap ∧ w.rowIs g 2 cap f ∧ ∀ i, i < L.length → f i = .int .i64 (L.getD i 0)
theorem NoOwn.step {w w' : World} {base : Nat} {v : Value} {L : List Int} (h : NoOwn w base v L) (hB : Below w.heap.size w w') : NoOwn w' base v L := by
  rcases h with h | ⟨g, cap, f, h1, h2, h3, h4, h5⟩
  · exact .inl h
  · exact .inr ⟨g, cap, f, h1, h2, h3, row_step h4 hB, h5⟩
theorem NoOwn.of {w : World} {base : Nat} {v : Value} {L : List Int} (h : w.ownsRow base 2 1 v L.length (L.map (Value.int .i64))) : NoOwn w base v L := by
  rcases h.2 with ⟨h1, h2⟩ | ⟨g, cap, cur, h1, h2, h3, h4, h5, h6, h7⟩
  · exact .inl ⟨h1, List.length_eq_zero_iff.1 h2⟩
  · refine .inr ⟨g, cap, fun i => cur.getD i undef, h1, h2, h4, ⟨cur, h3, by omega, fun i hi => ?_⟩, fun i hi => ?_⟩
    · simp [Array.getD_eq_getD_getElem?, show i < cur.size by omega]
    · have e : (cur.toList.take (L.length * 1))[i]? = (L.map (Value.int .i64))[i]? := by rw [h7]
      rw [List.getElem?_take_of_lt (by omega), List.getElem?_map, List.getElem?_eq_getElem hi] at e
      simp only [Array.getElem?_toList, Option.map_some] at e
      show cur.getD i undef = _
      rw [Array.getD_eq_getD_getElem?, e]
      simp [List.getD_eq_getElem?_getD, hi]
/-- The slice's own parts, and that its numbers lie there. -/
theorem NoOwn.in {w : World} {base : Nat} {v : Value} {L : List Int} (h : NoOwn w base v L) : ∃ ao cap, v = .slice ao L.length cap ∧ NoIn w ao L.length (fun i => L.getD i 0) := by
  rcases h with ⟨h1, h2⟩ | ⟨g, cap, f, h1, h2, h3, h4, h5⟩
  · subst h2
    exact ⟨none, 0, h1, fun i hi => by simp at hi⟩
  · exact ⟨some ⟨g, 0, none⟩, cap, h1, fun i hi => ⟨g, 0, rfl, h4.lt, by rw [Nat.zero_add, h4.cell (by omega), h5 i hi]⟩⟩
/-- No block has turned but one of those that a base leaves free. -/
def OtherB (h : Option Nat) (w w' : World) : Prop :=
  (∀ g, some g ≠ h → g < w.heap.size → w'.heap[g]? = w.heap[g]?) ∧ w.heap.size ≤ w'.heap.size ∧ ∀ w0 : World, (∀ g, h = some g → w0.heap.size ≤ g) → Below w0.heap.size w0 w → Below w0.heap.size w0 w'
theorem OtherB.row {h : Option Nat} {w w' : World} (k : OtherB h w w') {g n : Nat} {T : TypeId} {f : Nat → Value} (hne : some g ≠ h) (r : w.rowIs g T n f) : w'.rowIs g T n f := r.of_block (k.1 g hne r.lt)
theorem OtherB.own {h : Option Nat} {w w' : World} (k : OtherB h w w') {base : Nat} {v : Value} {L : List Int} (r : NoOwn w base v L) (hne : ∀ g, v.ownBlock = some g → some g ≠ h) : NoOwn w' base v L := by
  rcases r with r | ⟨g, cap, f, h1, h2, h3, h4, h5⟩
  · exact .inl r
  · exact .inr ⟨g, cap, f, h1, h2, h3, k.row (hne g (by subst h1; rfl)) h4, h5⟩
theorem OtherB.refl (h : Option Nat) (w : World) : OtherB h w w := ⟨fun _ _ _ => rfl, Nat.le_refl _, fun _ _ H => H⟩
theorem OtherB.set {h : Nat} {w w' : World} (k : OtherB (some h) w w') (i : Nat) (v : Value) : OtherB (some h) w (w'.setCell ⟨h, i, none⟩ v) := by
  refine ⟨fun g hne hg => ?_, by simpa [World.setCell] using k.2.1, fun w0 hb H => (k.2.2 w0 hb H).setCell (by exact hb h rfl) _⟩
  rw [Below.heap_setCell _ _ _ _ (fun e => hne (congrArg some e))]
  exact k.1 g hne hg
theorem OtherB.step {h : Option Nat} {w w' w'' : World} (k : OtherB h w w') (hB : Below w'.heap.size w' w'') : OtherB h w w'' :=
  ⟨fun g hne hg => (hB.block g (Nat.lt_of_lt_of_le hg k.2.1)).trans (k.1 g hne hg), Nat.le_trans k.2.1 hB.size, fun w0 hb H => (k.2.2 w0 hb H).trans (hB.mono (k.2.2 w0 hb H).size)⟩
end Go.Proofs.Ytmjlgmoohpnhfaa

/- The turn of three spots: the walks. -/
namespace Go.Proofs.Ytmjlgmoohpnhfaa
open Go.RowKit
end Go.Proofs.Ytmjlgmoohpnhfaa

/- The sides of a segment on which spots are: the walk of the program's loop. -/
namespace Go.Proofs.Ytmjlgmoohpnhfaa
open Go.RowKit
structure PartI (w wr : World) (g : Nat) (sg sl : List Value) : Prop where
  below : Below w.heap.size w wr
  seg : Blk wr w.heap.size sg
  row : Blk wr g sl
theorem PartI.step {w wr wr' : World} {g : Nat} {sg sl : List Value} (h : PartI w wr g sg sl) (hB : Below wr.heap.size wr wr') : PartI w wr' g sg sl := ⟨h.below.trans (hB.mono h.below.size), h.seg.step hB, h.row.step hB⟩
theorem PartI.alloc {w wr : World} {g : Nat} {sg sl : List Value} (h : PartI w wr g sg sl) (o : Obj) : PartI w (wr.alloc o) g sg sl := h.step ((Below.refl _ _).alloc (Nat.le_refl _) o)
end Go.Proofs.Ytmjlgmoohpnhfaa

/- Whether a segment meets a box: the walk of the model's part that is asked of right ones. -/
namespace Go.Proofs.Ytmjlgmoohpnhfaa
open Go.RowKit
end Go.Proofs.Ytmjlgmoohpnhfaa

/- Whether a segment meets a box: the walks of the program and of the model, and of the law. -/
namespace Go.Proofs.Ytmjlgmoohpnhfaa
open Go.RowKit
end Go.Proofs.Ytmjlgmoohpnhfaa

/- Whether a segment meets a box: the walk of the program. -/
namespace Go.Proofs.Ytmjlgmoohpnhfaa
open Go.RowKit
end Go.Proofs.Ytmjlgmoohpnhfaa

/- Segments that meet a box, by their numbers: both sides. -/
namespace Go.Proofs.Ytmjlgmoohpnhfaa
open Go.RowKit
theorem sgI_zero {n : Nat} {x : Nat → Int} (h : sgI n x = 0) : n ≤ 40 ∧ ∀ i, i < n → segOk (x (i * 4)) (x (i * 4 + 1)) (x (i * 4 + 2)) (x (i * 4 + 3)) = true := by
  unfold sgI at h
  split at h
  · cases h
  · split at h
    · exact ⟨by omega, by assumption⟩
    · cases h
theorem NoOwn.mono {w : World} {b b' : Nat} {v : Value} {L : List Int} (h : NoOwn w b' v L) (hb : b ≤ b') : NoOwn w b v L := by
  rcases h with h | ⟨g, cap, f, h1, h2, h3⟩
  · exact .inl h
  · exact .inr ⟨g, cap, f, h1, by omega, h3⟩
set_option maxRecDepth 100000 in
theorem l7Ok_any (ao : Option Addr) (n cap : Nat) (x : Nat → Int) (w : World) (hS : SegIn w ao n x) : Calls Try.prog 57 #[.slice ao n cap] w (BoolP (decide (sgI n x = 0)) w) := by
  have C := specSegsFault_any ao n cap x w hS
  revert C
  generalize sgI n x = o
  intro C
  clear hS
  go_enter Try.func57, Try.ntmps57
  go_wp2_with fail
  refine C.mono ?_
  rintro e w1 ⟨rfl, hB⟩
  by_cases h : o = 0
  · subst h
    go_wp2
    go_ret
    exact ⟨rfl, hB⟩
  · have hf : (o == 0) = false := by simp; omega
    have HD : Hid (decide (o = 0) = false) := decide_eq_false h
    go_wp2
    go_ret
    exact ⟨by rw [HD.out]; rfl, hB⟩
end Go.Proofs.Ytmjlgmoohpnhfaa

/- Whether a way keeps clear of segments: the program's walk. -/
namespace Go.Proofs.Ytmjlgmoohpnhfaa
open Go.RowKit
/-- That no step has a point of a segment. -/
def frP (m : Nat) (x : Nat → Int) (n : Nat) (p : Ps) : Prop := sgI m x = 0 ∧ paB n p ∧ ∀ c, c < n → ∀ k, k < m → stB (x (k * 4)) (x (k * 4 + 1)) (x (k * 4 + 2)) (x (k * 4 + 3)) (p (c - 1)).1 (p (c - 1)).2 (p c).1 (p c).2 = false
theorem bool_of (P : Prop) : ∃ r : Bool, r = true ↔ P := ⟨@decide P (Classical.propDecidable P), by simp⟩
set_option maxRecDepth 100000 in
set_option maxHeartbeats 4000000 in
theorem implFree_any (ao bo : Option Addr) (m n ca cb : Nat) (x : Nat → Int) (p : Ps) (r : Bool) (hr : r = true ↔ frP m x n p) (w : World) (hS : SegIn w ao m x) (hP : SpIn w bo n p) : Calls Try.prog 32 #[.slice ao m ca, .slice bo n cb] w (VP (.bool r) w) := by
  have HS : Hid (SegIn w ao m x) := hS
  have HP : Hid (SpIn w bo n p) := hP
  have HR : Hid (r = true ↔ frP m x n p) := hr
  have CS := implSegsFault_any ao m ca x w hS
  clear hS hP hr
  go_enter Try.func32, Try.ntmps32
  go_wp2_with fail
  refine CS.mono ?_
  rintro e w1 ⟨rfl, HB⟩
  clear CS
  by_cases hsg : sgI m x = 0
  · rw [hsg]
    obtain ⟨b, hb⟩ := bool_of (paB n p)
    have CP := isPath_any bo n cb p b hb _ (HP.out.step HB)
    go_wp2_with fail
    refine CP.mono ?_
    rintro e w2 ⟨rfl, hB⟩
    replace HB := HB.trans (hB.mono HB.size)
    clear hB CP
    cases b
    · have hf : r = false := Bool.eq_false_iff.2 fun h => by
        have := hb.2 (HR.out.1 h).2.1
        cases this
      subst hf
      clear hb hsg
      go_wp2
      go_ret
      exact ⟨rfl, HB⟩
    · have hpa := hb.1 rfl
      obtain ⟨h1, h12, hsp⟩ := hpa
      obtain ⟨h40, hall⟩ := sgI_zero hsg
      have HA : Hid (∀ i, i < m → segOk (x (i * 4)) (x (i * 4 + 1)) (x (i * 4 + 2)) (x (i * 4 + 3)) = true) := hall
      have HQ : Hid (∀ i, i < n → spotOk (p i).1 (p i).2 = true) := hsp
      have HG : Hid (sgI m x = 0 ∧ paB n p) := ⟨hsg, h1, h12, hsp⟩
      clear hall hsp hsg hb
      obtain ⟨A, off, hbo, hA, q0, q1⟩ := HP.out.step HB 0 (by omega)
      subst hbo
      simp only [Nat.zero_mul, Nat.add_zero] at q0 q1
      have h0I : (0 : Int) < n := by omega
      have X5 := Blk.new w2 [.int .i64 (p 0).1, .int .i64 (p 0).2] 55 rfl
      rw [show ([.int .i64 (p 0).1, .int .i64 (p 0).2] : List Value).toArray = #[.int .i64 (p 0).1, .int .i64 (p 0).2] from rfl] at X5
      have hg5 : w.heap.size ≤ w2.heap.size := HB.size
      replace HB := HB.alloc HB.size (.cells #[.int .i64 (p 0).1, .int .i64 (p 0).2] 55)
      go_wp2_with fail
      clear q0 q1 hA
      generalize (w2.alloc (.cells #[.int .i64 (p 0).1, .int .i64 (p 0).2] 55)) = W2 at *
      generalize w2.heap.size = g5 at *
      go_loopw [21] (fun i wr => ∃ c : Nat, c ≤ n ∧ i = .int .i64 c ∧ Blk wr g5 [.int .i64 (p (c - 1)).1, .int .i64 (p (c - 1)).2] ∧ (∀ c', c' < c → ∀ k, k < m → stB (x (k * 4)) (x (k * 4 + 1)) (x (k * 4 + 2)) (x (k * 4 + 3)) (p (c' - 1)).1 (p (c' - 1)).2 (p c').1 (p c').2 = false) ∧ Below w.heap.size w wr) (fun i _ => n - (intOf i).toNat)
      case atStart => exact ⟨0, by omega, rfl, X5, fun j hj => by omega, HB⟩
      case round =>
        clear X5 HB
        obtain ⟨c, hc, rfl, X5, hall, HB⟩ := hrel
        have HL : Hid (∀ c', c' < c → ∀ k, k < m → stB (x (k * 4)) (x (k * 4 + 1)) (x (k * 4 + 2)) (x (k * 4 + 3)) (p (c' - 1)).1 (p (c' - 1)).2 (p c').1 (p c').2 = false) := hall
        clear hall
        by_cases hcn : c < n
        · obtain ⟨A', off', hao, hA, q0, q1⟩ := HP.out.step HB c hcn
          obtain ⟨rfl, rfl⟩ : A = A' ∧ off = off' := by simpa using hao
          clear hao
          have hcI : (c : Int) < n := by omega
          have X7 := Blk.new wr [.int .i64 (p c).1, .int .i64 (p c).2] 55 rfl
          rw [show ([.int .i64 (p c).1, .int .i64 (p c).2] : List Value).toArray = #[.int .i64 (p c).1, .int .i64 (p c).2] from rfl] at X7
          have hl5 := X5.lt
          replace X5 := X5.alloc (.cells #[.int .i64 (p c).1, .int .i64 (p c).2] 55)
          replace HB := HB.alloc HB.size (.cells #[.int .i64 (p c).1, .int .i64 (p c).2] 55)
          obtain ⟨t, ht⟩ := bool_of (∃ k, k < m ∧ stB (x (k * 4)) (x (k * 4 + 1)) (x (k * 4 + 2)) (x (k * 4 + 3)) (p (c - 1)).1 (p (c - 1)).2 (p c).1 (p c).2 = true)
          have CC := containsF_any ao m ca x g5 wr.heap.size (fun k => stB (x (k * 4)) (x (k * 4 + 1)) (x (k * 4 + 2)) (x (k * 4 + 3)) (p (c - 1)).1 (p (c - 1)).2 (p c).1 (p c).2) t ht (wr.alloc (.cells #[.int .i64 (p c).1, .int .i64 (p c).2] 55)) h40 (HS.out.step HB) (fun k hk w' hB => free1_any _ _ _ _ _ _ _ _ (HA.out k hk) (HQ.out _ (by omega)) (HQ.out c hcn) g5 wr.heap.size w' (X5.step hB) (X7.step hB))
          go_wp2_with fail
          generalize (wr.alloc (.cells #[.int .i64 (p c).1, .int .i64 (p c).2] 55)) = W7 at *
          generalize wr.heap.size = g7 at *
          refine CC.mono ?_
          rintro e w3 ⟨rfl, hB⟩
          replace HB := HB.trans (hB.mono HB.size)
          replace X5 := X5.step hB
          replace X7 := X7.step hB
          clear hB CC q0 q1 hA
          cases t
          · have HN : Hid (∀ k, k < m → stB (x (k * 4)) (x (k * 4 + 1)) (x (k * 4 + 2)) (x (k * 4 + 3)) (p (c - 1)).1 (p (c - 1)).2 (p c).1 (p c).2 = false) := fun k hk => Bool.eq_false_iff.2 fun h => by
              have := ht.2 ⟨k, hk, h⟩
              cases this
            clear ht
            obtain ⟨c0, c1⟩ := X7.cs2
            obtain ⟨d0, f0, d1, f1⟩ := X5.cf2
            have dl := X5.lt
            have HB2 := (HB.setCell (p := ⟨g5, 0, none⟩) (by omega) (.int .i64 (p c).1)).setCell (p := ⟨g5, 1, none⟩) (by omega) (.int .i64 (p c).2)
            have Y5 : Blk ((w3.setCell ⟨g5, 0, none⟩ (.int .i64 (p c).1)).setCell ⟨g5, 1, none⟩ (.int .i64 (p c).2)) g5 [.int .i64 (p c).1, .int .i64 (p c).2] := (X5.setI 0 (by simp) _).setI 1 (by simp) _
            have HY : Hid (Blk ((w3.setCell ⟨g5, 0, none⟩ (.int .i64 (p c).1)).setCell ⟨g5, 1, none⟩ (.int .i64 (p c).2)) g5 [.int .i64 (p c).1, .int .i64 (p c).2]) := Y5
            clear Y5 X5 X7 HB
            go_wp2
            go_roundw
            case rel => exact ⟨c + 1, by omega, by go_num, HY.out, fun c' hc' => by
              rcases Nat.lt_or_ge c' c with h | h
              · exact HL.out c' h
              · obtain rfl : c' = c := by omega
                exact HN.out, HB2⟩
            case measure => simp [intOf]; omega
          · have hf : r = false := Bool.eq_false_iff.2 fun h => by
              obtain ⟨k, hk, h1⟩ := ht.1 rfl
              rw [(HR.out.1 h).2.2 c hcn k hk] at h1
              cases h1
            subst hf
            clear ht X5 X7
            go_wp2
            go_ret
            exact ⟨rfl, HB⟩
        · obtain rfl : c = n := by omega
          have hf : r = true := HR.out.2 ⟨HG.out.1, HG.out.2, HL.out⟩
          subst hf
          clear X5 HL
          go_wp2
          go_ret
          exact ⟨rfl, HB⟩
  · have hf : r = false := Bool.eq_false_iff.2 fun h => hsg (HR.out.1 h).1
    have hs0 : (sgI m x == 0) = false := beq_eq_false_iff_ne.2 hsg
    subst hf
    generalize sgI m x = sg at *
    go_wp2
    go_ret
    exact ⟨rfl, HB⟩
end Go.Proofs.Ytmjlgmoohpnhfaa

/- What lies between two points: the reckoning, and the program's walks. -/
namespace Go.Proofs.Ytmjlgmoohpnhfaa
open Go.RowKit
/-- Whether the third point lies between the two, as the model says it. -/
def btwS (x y z u v t a b c : Int) : Bool := if 0 < ordI x y z u v t then decide (ordI u v t a b c ≤ 0) && decide (ordI a b c x y z ≤ 0) && decide (turnI u v t x y z a b c = 0) else decide (ordI x y z a b c ≤ 0) && decide (ordI a b c u v t ≤ 0) && decide (turnI x y z u v t a b c = 0)
end Go.Proofs.Ytmjlgmoohpnhfaa

/- What lies between two points: the program's walks. -/
namespace Go.Proofs.Ytmjlgmoohpnhfaa
open Go.RowKit
end Go.Proofs.Ytmjlgmoohpnhfaa

/- What lies between two points: the model's walk, and both sides. -/
namespace Go.Proofs.Ytmjlgmoohpnhfaa
open Go.RowKit
theorem swap_args {ps1 ps2 ps3 : Bool} {po1 po2 po3 : Option Addr} {pn1 pc1 pn2 pc2 pn3 pc3 : Nat} {qs1 qs2 qs3 : Bool} {qo1 qo2 qo3 : Option Addr} {qn1 qc1 qn2 qc2 qn3 qc3 : Nat} {rs1 rs2 rs3 : Bool} {ro1 ro2 ro3 : Option Addr} {rn1 rc1 rn2 rc2 rn3 rc3 : Nat} {w W : World} (T0 : ArgsB w W [[.bool ps1, .slice po1 pn1 pc1, .bool ps2, .slice po2 pn2 pc2, .bool ps3, .slice po3 pn3 pc3], [.bool qs1, .slice qo1 qn1 qc1, .bool qs2, .slice qo2 qn2 qc2, .bool qs3, .slice qo3 qn3 qc3], [.bool rs1, .slice ro1 rn1 rc1, .bool rs2, .slice ro2 rn2 rc2, .bool rs3, .slice ro3 rn3 rc3]]) : ArgsB w ((((((((((((W.setCell ⟨w.heap.size, 0, none⟩ (.bool qs1)).setCell ⟨w.heap.size, 1, none⟩ (.slice qo1 qn1 qc1)).setCell ⟨w.heap.size, 2, none⟩ (.bool qs2)).setCell ⟨w.heap.size, 3, none⟩ (.slice qo2 qn2 qc2)).setCell ⟨w.heap.size, 4, none⟩ (.bool qs3)).setCell ⟨w.heap.size, 5, none⟩ (.slice qo3 qn3 qc3)).setCell ⟨w.heap.size + 1, 0, none⟩ (.bool ps1)).setCell ⟨w.heap.size + 1, 1, none⟩ (.slice po1 pn1 pc1)).setCell ⟨w.heap.size + 1, 2, none⟩ (.bool ps2)).setCell ⟨w.heap.size + 1, 3, none⟩ (.slice po2 pn2 pc2)).setCell ⟨w.heap.size + 1, 4, none⟩ (.bool ps3)).setCell ⟨w.heap.size + 1, 5, none⟩ (.slice po3 pn3 pc3)) [[.bool qs1, .slice qo1 qn1 qc1, .bool qs2, .slice qo2 qn2 qc2, .bool qs3, .slice qo3 qn3 qc3], [.bool ps1, .slice po1 pn1 pc1, .bool ps2, .slice po2 pn2 pc2, .bool ps3, .slice po3 pn3 pc3], [.bool rs1, .slice ro1 rn1 rc1, .bool rs2, .slice ro2 rn2 rc2, .bool rs3, .slice ro3 rn3 rc3]] := by
  have X0 : Blk W w.heap.size [.bool ps1, .slice po1 pn1 pc1, .bool ps2, .slice po2 pn2 pc2, .bool ps3, .slice po3 pn3 pc3] := T0.b 0 rfl
  have Y0 : Blk W (w.heap.size + 1) [.bool qs1, .slice qo1 qn1 qc1, .bool qs2, .slice qo2 qn2 qc2, .bool qs3, .slice qo3 qn3 qc3] := T0.b 1 rfl
  have Z0 : Blk W (w.heap.size + 2) [.bool rs1, .slice ro1 rn1 rc1, .bool rs2, .slice ro2 rn2 rc2, .bool rs3, .slice ro3 rn3 rc3] := T0.b 2 rfl
  have X1 := ((((((X0.setI 0 (by simp) (.bool qs1)).setI 1 (by simp) (.slice qo1 qn1 qc1)).setI 2 (by simp) (.bool qs2)).setI 3 (by simp) (.slice qo2 qn2 qc2)).setI 4 (by simp) (.bool qs3)).setI 5 (by simp) (.slice qo3 qn3 qc3))
  simp only [List.set_cons_zero, List.set_cons_succ] at X1
  have X2 := ((((((X1.setO (p := ⟨w.heap.size + 1, 0, none⟩) (by show w.heap.size ≠ w.heap.size + 1; omega) (.bool ps1)).setO (p := ⟨w.heap.size + 1, 1, none⟩) (by show w.heap.size ≠ w.heap.size + 1; omega) (.slice po1 pn1 pc1)).setO (p := ⟨w.heap.size + 1, 2, none⟩) (by show w.heap.size ≠ w.heap.size + 1; omega) (.bool ps2)).setO (p := ⟨w.heap.size + 1, 3, none⟩) (by show w.heap.size ≠ w.heap.size + 1; omega) (.slice po2 pn2 pc2)).setO (p := ⟨w.heap.size + 1, 4, none⟩) (by show w.heap.size ≠ w.heap.size + 1; omega) (.bool ps3)).setO (p := ⟨w.heap.size + 1, 5, none⟩) (by show w.heap.size ≠ w.heap.size + 1; omega) (.slice po3 pn3 pc3))
  have Y1 := ((((((Y0.setO (p := ⟨w.heap.size, 0, none⟩) (by show w.heap.size + 1 ≠ w.heap.size; omega) (.bool qs1)).setO (p := ⟨w.heap.size, 1, none⟩) (by show w.heap.size + 1 ≠ w.heap.size; omega) (.slice qo1 qn1 qc1)).setO (p := ⟨w.heap.size, 2, none⟩) (by show w.heap.size + 1 ≠ w.heap.size; omega) (.bool qs2)).setO (p := ⟨w.heap.size, 3, none⟩) (by show w.heap.size + 1 ≠ w.heap.size; omega) (.slice qo2 qn2 qc2)).setO (p := ⟨w.heap.size, 4, none⟩) (by show w.heap.size + 1 ≠ w.heap.size; omega) (.bool qs3)).setO (p := ⟨w.heap.size, 5, none⟩) (by show w.heap.size + 1 ≠ w.heap.size; omega) (.slice qo3 qn3 qc3))
  have Y2 := ((((((Y1.setI 0 (by simp) (.bool ps1)).setI 1 (by simp) (.slice po1 pn1 pc1)).setI 2 (by simp) (.bool ps2)).setI 3 (by simp) (.slice po2 pn2 pc2)).setI 4 (by simp) (.bool ps3)).setI 5 (by simp) (.slice po3 pn3 pc3))
  simp only [List.set_cons_zero, List.set_cons_succ] at Y2
  have Z1 := ((((((Z0.setO (p := ⟨w.heap.size, 0, none⟩) (by show w.heap.size + 2 ≠ w.heap.size; omega) (.bool qs1)).setO (p := ⟨w.heap.size, 1, none⟩) (by show w.heap.size + 2 ≠ w.heap.size; omega) (.slice qo1 qn1 qc1)).setO (p := ⟨w.heap.size, 2, none⟩) (by show w.heap.size + 2 ≠ w.heap.size; omega) (.bool qs2)).setO (p := ⟨w.heap.size, 3, none⟩) (by show w.heap.size + 2 ≠ w.heap.size; omega) (.slice qo2 qn2 qc2)).setO (p := ⟨w.heap.size, 4, none⟩) (by show w.heap.size + 2 ≠ w.heap.size; omega) (.bool qs3)).setO (p := ⟨w.heap.size, 5, none⟩) (by show w.heap.size + 2 ≠ w.heap.size; omega) (.slice qo3 qn3 qc3))
  have Z2 := ((((((Z1.setO (p := ⟨w.heap.size + 1, 0, none⟩) (by show w.heap.size + 2 ≠ w.heap.size + 1; omega) (.bool ps1)).setO (p := ⟨w.heap.size + 1, 1, none⟩) (by show w.heap.size + 2 ≠ w.heap.size + 1; omega) (.slice po1 pn1 pc1)).setO (p := ⟨w.heap.size + 1, 2, none⟩) (by show w.heap.size + 2 ≠ w.heap.size + 1; omega) (.bool ps2)).setO (p := ⟨w.heap.size + 1, 3, none⟩) (by show w.heap.size + 2 ≠ w.heap.size + 1; omega) (.slice po2 pn2 pc2)).setO (p := ⟨w.heap.size + 1, 4, none⟩) (by show w.heap.size + 2 ≠ w.heap.size + 1; omega) (.bool ps3)).setO (p := ⟨w.heap.size + 1, 5, none⟩) (by show w.heap.size + 2 ≠ w.heap.size + 1; omega) (.slice po3 pn3 pc3))
  refine ⟨?_, fun j vs hj => ?_⟩
  · repeat' (refine Below.setCell ?_ (by simp) _)
    exact T0.below
  · match j, hj with
    | 0, hj => cases hj; exact X2
    | 1, hj => cases hj; exact Y2
    | 2, hj => cases hj; exact Z2
    | j + 3, hj => simp at hj
theorem num_set6g {w : World} {s : Bool} {ao : Option Addr} {n cap : Nat} {ds : List Int} {z : Int} {k R : Nat} (h : IsNum w s ao n cap ds z k) {qs1 qs2 qs3 : Bool} {qo1 qo2 qo3 : Option Addr} {qn1 qc1 qn2 qc2 qn3 qc3 : Nat} (B : Blk w R [.bool qs1, .slice qo1 qn1 qc1, .bool qs2, .slice qo2 qn2 qc2, .bool qs3, .slice qo3 qn3 qc3]) (v0 v1 v2 v3 v4 v5 : Value) : IsNum ((((((w.setCell ⟨R, 0, none⟩ v0).setCell ⟨R, 1, none⟩ v1).setCell ⟨R, 2, none⟩ v2).setCell ⟨R, 3, none⟩ v3).setCell ⟨R, 4, none⟩ v4).setCell ⟨R, 5, none⟩ v5) s ao n cap ds z k := by
  have h1 := h.setp v0 (B.c 0 rfl) (by intro x e; cases e)
  have B1 := B.setI 0 (by simp) v0
  have h2 := h1.setp v1 (B1.c 1 rfl) (by intro x e; cases e)
  have B2 := B1.setI 1 (by simp) v1
  have h3 := h2.setp v2 (B2.c 2 rfl) (by intro x e; cases e)
  have B3 := B2.setI 2 (by simp) v2
  have h4 := h3.setp v3 (B3.c 3 rfl) (by intro x e; cases e)
  have B4 := B3.setI 3 (by simp) v3
  have h5 := h4.setp v4 (B4.c 4 rfl) (by intro x e; cases e)
  have B5 := B4.setI 4 (by simp) v4
  exact h5.setp v5 (B5.c 5 rfl) (by intro x e; cases e)
theorem swap_num {w W : World} {s : Bool} {ao : Option Addr} {n cap : Nat} {ds : List Int} {z : Int} {k : Nat} (h : IsNum W s ao n cap ds z k) {ps1 ps2 ps3 : Bool} {po1 po2 po3 : Option Addr} {pn1 pc1 pn2 pc2 pn3 pc3 : Nat} {qs1 qs2 qs3 : Bool} {qo1 qo2 qo3 : Option Addr} {qn1 qc1 qn2 qc2 qn3 qc3 : Nat} {rs1 rs2 rs3 : Bool} {ro1 ro2 ro3 : Option Addr} {rn1 rc1 rn2 rc2 rn3 rc3 : Nat} (T0 : ArgsB w W [[.bool ps1, .slice po1 pn1 pc1, .bool ps2, .slice po2 pn2 pc2, .bool ps3, .slice po3 pn3 pc3], [.bool qs1, .slice qo1 qn1 qc1, .bool qs2, .slice qo2 qn2 qc2, .bool qs3, .slice qo3 qn3 qc3], [.bool rs1, .slice ro1 rn1 rc1, .bool rs2, .slice ro2 rn2 rc2, .bool rs3, .slice ro3 rn3 rc3]]) : IsNum ((((((((((((W.setCell ⟨w.heap.size, 0, none⟩ (.bool qs1)).setCell ⟨w.heap.size, 1, none⟩ (.slice qo1 qn1 qc1)).setCell ⟨w.heap.size, 2, none⟩ (.bool qs2)).setCell ⟨w.heap.size, 3, none⟩ (.slice qo2 qn2 qc2)).setCell ⟨w.heap.size, 4, none⟩ (.bool qs3)).setCell ⟨w.heap.size, 5, none⟩ (.slice qo3 qn3 qc3)).setCell ⟨w.heap.size + 1, 0, none⟩ (.bool ps1)).setCell ⟨w.heap.size + 1, 1, none⟩ (.slice po1 pn1 pc1)).setCell ⟨w.heap.size + 1, 2, none⟩ (.bool ps2)).setCell ⟨w.heap.size + 1, 3, none⟩ (.slice po2 pn2 pc2)).setCell ⟨w.heap.size + 1, 4, none⟩ (.bool ps3)).setCell ⟨w.heap.size + 1, 5, none⟩ (.slice po3 pn3 pc3)) s ao n cap ds z k := by
  have X0 : Blk W w.heap.size [.bool ps1, .slice po1 pn1 pc1, .bool ps2, .slice po2 pn2 pc2, .bool ps3, .slice po3 pn3 pc3] := T0.b 0 rfl
  have Y0 : Blk W (w.heap.size + 1) [.bool qs1, .slice qo1 qn1 qc1, .bool qs2, .slice qo2 qn2 qc2, .bool qs3, .slice qo3 qn3 qc3] := T0.b 1 rfl
  have Y1 := ((((((Y0.setO (p := ⟨w.heap.size, 0, none⟩) (by show w.heap.size + 1 ≠ w.heap.size; omega) (.bool qs1)).setO (p := ⟨w.heap.size, 1, none⟩) (by show w.heap.size + 1 ≠ w.heap.size; omega) (.slice qo1 qn1 qc1)).setO (p := ⟨w.heap.size, 2, none⟩) (by show w.heap.size + 1 ≠ w.heap.size; omega) (.bool qs2)).setO (p := ⟨w.heap.size, 3, none⟩) (by show w.heap.size + 1 ≠ w.heap.size; omega) (.slice qo2 qn2 qc2)).setO (p := ⟨w.heap.size, 4, none⟩) (by show w.heap.size + 1 ≠ w.heap.size; omega) (.bool qs3)).setO (p := ⟨w.heap.size, 5, none⟩) (by show w.heap.size + 1 ≠ w.heap.size; omega) (.slice qo3 qn3 qc3))
  exact num_set6g (num_set6g h X0 _ _ _ _ _ _) Y1 _ _ _ _ _ _
set_option maxRecDepth 100000 in
set_option maxHeartbeats 8000000 in
theorem l3Between_any (ps1 ps2 ps3 : Bool) (po1 po2 po3 : Option Addr) (pn1 pc1 pn2 pc2 pn3 pc3 : Nat) (qs1 qs2 qs3 : Bool) (qo1 qo2 qo3 : Option Addr) (qn1 qc1 qn2 qc2 qn3 qc3 : Nat) (rs1 rs2 rs3 : Bool) (ro1 ro2 ro3 : Option Addr) (rn1 rc1 rn2 rc2 rn3 rc3 : Nat) (pd1 pd2 pd3 qd1 qd2 qd3 rd1 rd2 rd3 : List Int) (x y z u v t a b c : Int) (k : Nat) (hk : k ≤ 1000) (w : World) (Np1 : IsNum w ps1 po1 pn1 pc1 pd1 x k) (Np2 : IsNum w ps2 po2 pn2 pc2 pd2 y k) (Np3 : IsNum w ps3 po3 pn3 pc3 pd3 z k) (Nq1 : IsNum w qs1 qo1 qn1 qc1 qd1 u k) (Nq2 : IsNum w qs2 qo2 qn2 qc2 qd2 v k) (Nq3 : IsNum w qs3 qo3 qn3 qc3 qd3 t k) (Nr1 : IsNum w rs1 ro1 rn1 rc1 rd1 a k) (Nr2 : IsNum w rs2 ro2 rn2 rc2 rd2 b k) (Nr3 : IsNum w rs3 ro3 rn3 rc3 rd3 c k) : Calls Try.prog 115 #[.agg #[.bool ps1, .slice po1 pn1 pc1, .bool ps2, .slice po2 pn2 pc2, .bool ps3, .slice po3 pn3 pc3], .agg #[.bool qs1, .slice qo1 qn1 qc1, .bool qs2, .slice qo2 qn2 qc2, .bool qs3, .slice qo3 qn3 qc3], .agg #[.bool rs1, .slice ro1 rn1 rc1, .bool rs2, .slice ro2 rn2 rc2, .bool rs3, .slice ro3 rn3 rc3]] w (VP (.bool (btwS x y z u v t a b c)) w) := by
  have T0 : ArgsB w (((w.alloc (.cells #[.bool ps1, .slice po1 pn1 pc1, .bool ps2, .slice po2 pn2 pc2, .bool ps3, .slice po3 pn3 pc3] 91)).alloc (.cells #[.bool qs1, .slice qo1 qn1 qc1, .bool qs2, .slice qo2 qn2 qc2, .bool qs3, .slice qo3 qn3 qc3] 91)).alloc (.cells #[.bool rs1, .slice ro1 rn1 rc1, .bool rs2, .slice ro2 rn2 rc2, .bool rs3, .slice ro3 rn3 rc3] 91)) [[.bool ps1, .slice po1 pn1 pc1, .bool ps2, .slice po2 pn2 pc2, .bool ps3, .slice po3 pn3 pc3], [.bool qs1, .slice qo1 qn1 qc1, .bool qs2, .slice qo2 qn2 qc2, .bool qs3, .slice qo3 qn3 qc3], [.bool rs1, .slice ro1 rn1 rc1, .bool rs2, .slice ro2 rn2 rc2, .bool rs3, .slice ro3 rn3 rc3]] := ar3 _ _ _ _ _ _ w
  replace Np1 := Np1.below T0.below
  replace Np2 := Np2.below T0.below
  replace Np3 := Np3.below T0.below
  replace Nq1 := Nq1.below T0.below
  replace Nq2 := Nq2.below T0.below
  replace Nq3 := Nq3.below T0.below
  replace Nr1 := Nr1.below T0.below
  replace Nr2 := Nr2.below T0.below
  replace Nr3 := Nr3.below T0.below
  go_enter Try.func115, Try.ntmps115
  go_wp2_with fail
  generalize (((w.alloc (.cells #[.bool ps1, .slice po1 pn1 pc1, .bool ps2, .slice po2 pn2 pc2, .bool ps3, .slice po3 pn3 pc3] 91)).alloc (.cells #[.bool qs1, .slice qo1 qn1 qc1, .bool qs2, .slice qo2 qn2 qc2, .bool qs3, .slice qo3 qn3 qc3] 91)).alloc (.cells #[.bool rs1, .slice ro1 rn1 rc1, .bool rs2, .slice ro2 rn2 rc2, .bool rs3, .slice ro3 rn3 rc3] 91)) = W at *
  refine (l3Cmp_any ps1 ps2 ps3 po1 po2 po3 pn1 pc1 pn2 pc2 pn3 pc3 qs1 qs2 qs3 qo1 qo2 qo3 qn1 qc1 qn2 qc2 qn3 qc3 pd1 pd2 pd3 qd1 qd2 qd3 x y z u v t k hk _ Np1 Np2 Np3 Nq1 Nq2 Nq3).mono ?_
  rintro e w1 ⟨rfl, hB⟩
  replace T0 := T0.step hB
  replace Np1 := Np1.below hB
  replace Np2 := Np2.below hB
  replace Np3 := Np3.below hB
  replace Nq1 := Nq1.below hB
  replace Nq2 := Nq2.below hB
  replace Nq3 := Nq3.below hB
  replace Nr1 := Nr1.below hB
  replace Nr2 := Nr2.below hB
  replace Nr3 := Nr3.below hB
  clear hB
  by_cases h1 : 0 < ordI x y z u v t
  · have d1 : decide (0 < ordI x y z u v t) = true := decide_eq_true h1
    have HC : (if 0 < ordI x y z u v t then decide (ordI u v t a b c ≤ 0) && decide (ordI a b c x y z ≤ 0) && decide (turnI u v t x y z a b c = 0) else decide (ordI x y z a b c ≤ 0) && decide (ordI a b c u v t ≤ 0) && decide (turnI x y z u v t a b c = 0)) = (decide (ordI u v t a b c ≤ 0) && decide (ordI a b c x y z ≤ 0) && decide (turnI u v t x y z a b c = 0)) := if_pos h1
    have X0 : Blk _ w.heap.size _ := T0.b 0 rfl
    have Y0 : Blk _ (w.heap.size + 1) _ := T0.b 1 rfl
    have p0 := X0.c 0 rfl; have pf0 := X0.f 0 rfl; have q0 := Y0.c 0 rfl; have qf0 := Y0.f 0 rfl; have p1 := X0.c 1 rfl; have pf1 := X0.f 1 rfl; have q1 := Y0.c 1 rfl; have qf1 := Y0.f 1 rfl; have p2 := X0.c 2 rfl; have pf2 := X0.f 2 rfl; have q2 := Y0.c 2 rfl; have qf2 := Y0.f 2 rfl; have p3 := X0.c 3 rfl; have pf3 := X0.f 3 rfl; have q3 := Y0.c 3 rfl; have qf3 := Y0.f 3 rfl; have p4 := X0.c 4 rfl; have pf4 := X0.f 4 rfl; have q4 := Y0.c 4 rfl; have qf4 := Y0.f 4 rfl; have p5 := X0.c 5 rfl; have pf5 := X0.f 5 rfl; have q5 := Y0.c 5 rfl; have qf5 := Y0.f 5 rfl
    have xl := X0.lt; have yl := Y0.lt
    go_upto_region 3 with fail
    clear p0 pf0 q0 qf0 p1 pf1 q1 qf1 p2 pf2 q2 qf2 p3 pf3 q3 qf3 p4 pf4 q4 qf4 p5 pf5 q5 qf5 xl yl X0 Y0
    replace Np1 := swap_num Np1 T0
    replace Np2 := swap_num Np2 T0
    replace Np3 := swap_num Np3 T0
    replace Nq1 := swap_num Nq1 T0
    replace Nq2 := swap_num Nq2 T0
    replace Nq3 := swap_num Nq3 T0
    replace Nr1 := swap_num Nr1 T0
    replace Nr2 := swap_num Nr2 T0
    replace Nr3 := swap_num Nr3 T0
    replace T0 := swap_args T0
    generalize ((((((((((((w1.setCell ⟨w.heap.size, 0, none⟩ (.bool qs1)).setCell ⟨w.heap.size, 1, none⟩ (.slice qo1 qn1 qc1)).setCell ⟨w.heap.size, 2, none⟩ (.bool qs2)).setCell ⟨w.heap.size, 3, none⟩ (.slice qo2 qn2 qc2)).setCell ⟨w.heap.size, 4, none⟩ (.bool qs3)).setCell ⟨w.heap.size, 5, none⟩ (.slice qo3 qn3 qc3)).setCell ⟨w.heap.size + 1, 0, none⟩ (.bool ps1)).setCell ⟨w.heap.size + 1, 1, none⟩ (.slice po1 pn1 pc1)).setCell ⟨w.heap.size + 1, 2, none⟩ (.bool ps2)).setCell ⟨w.heap.size + 1, 3, none⟩ (.slice po2 pn2 pc2)).setCell ⟨w.heap.size + 1, 4, none⟩ (.bool ps3)).setCell ⟨w.heap.size + 1, 5, none⟩ (.slice po3 pn3 pc3)) = W1 at *
    have X0 : Blk _ w.heap.size _ := T0.b 0 rfl; have Y0 : Blk _ (w.heap.size + 1) _ := T0.b 1 rfl; have Z0 : Blk _ (w.heap.size + 1 + 1) _ := T0.b 2 rfl; have p0 := X0.c 0 rfl; have q0 := Y0.c 0 rfl; have r0 := Z0.c 0 rfl; have p1 := X0.c 1 rfl; have q1 := Y0.c 1 rfl; have r1 := Z0.c 1 rfl; have p2 := X0.c 2 rfl; have q2 := Y0.c 2 rfl; have r2 := Z0.c 2 rfl; have p3 := X0.c 3 rfl; have q3 := Y0.c 3 rfl; have r3 := Z0.c 3 rfl; have p4 := X0.c 4 rfl; have q4 := Y0.c 4 rfl; have r4 := Z0.c 4 rfl; have p5 := X0.c 5 rfl; have q5 := Y0.c 5 rfl; have r5 := Z0.c 5 rfl; clear X0 Y0 Z0
    go_wp2_with fail
    refine (l3Cmp_any qs1 qs2 qs3 qo1 qo2 qo3 qn1 qc1 qn2 qc2 qn3 qc3 rs1 rs2 rs3 ro1 ro2 ro3 rn1 rc1 rn2 rc2 rn3 rc3 qd1 qd2 qd3 rd1 rd2 rd3 u v t a b c k hk _ Nq1 Nq2 Nq3 Nr1 Nr2 Nr3).mono ?_
    rintro e f1 ⟨rfl, hB⟩
    replace T0 := T0.step hB
    replace Np1 := Np1.below hB
    replace Np2 := Np2.below hB
    replace Np3 := Np3.below hB
    replace Nq1 := Nq1.below hB
    replace Nq2 := Nq2.below hB
    replace Nq3 := Nq3.below hB
    replace Nr1 := Nr1.below hB
    replace Nr2 := Nr2.below hB
    replace Nr3 := Nr3.below hB
    clear hB p0 q0 r0 p1 q1 r1 p2 q2 r2 p3 q3 r3 p4 q4 r4 p5 q5 r5
    by_cases h2 : ordI u v t a b c ≤ 0
    · have d2 : decide (ordI u v t a b c ≤ 0) = true := decide_eq_true h2
      have X0 : Blk _ w.heap.size _ := T0.b 0 rfl; have Y0 : Blk _ (w.heap.size + 1) _ := T0.b 1 rfl; have Z0 : Blk _ (w.heap.size + 1 + 1) _ := T0.b 2 rfl; have p0 := X0.c 0 rfl; have q0 := Y0.c 0 rfl; have r0 := Z0.c 0 rfl; have p1 := X0.c 1 rfl; have q1 := Y0.c 1 rfl; have r1 := Z0.c 1 rfl; have p2 := X0.c 2 rfl; have q2 := Y0.c 2 rfl; have r2 := Z0.c 2 rfl; have p3 := X0.c 3 rfl; have q3 := Y0.c 3 rfl; have r3 := Z0.c 3 rfl; have p4 := X0.c 4 rfl; have q4 := Y0.c 4 rfl; have r4 := Z0.c 4 rfl; have p5 := X0.c 5 rfl; have q5 := Y0.c 5 rfl; have r5 := Z0.c 5 rfl; clear X0 Y0 Z0
      go_wp2_with fail
      refine (l3Cmp_any rs1 rs2 rs3 ro1 ro2 ro3 rn1 rc1 rn2 rc2 rn3 rc3 ps1 ps2 ps3 po1 po2 po3 pn1 pc1 pn2 pc2 pn3 pc3 rd1 rd2 rd3 pd1 pd2 pd3 a b c x y z k hk _ Nr1 Nr2 Nr3 Np1 Np2 Np3).mono ?_
      rintro e f2 ⟨rfl, hB⟩
      replace T0 := T0.step hB
      replace Np1 := Np1.below hB
      replace Np2 := Np2.below hB
      replace Np3 := Np3.below hB
      replace Nq1 := Nq1.below hB
      replace Nq2 := Nq2.below hB
      replace Nq3 := Nq3.below hB
      replace Nr1 := Nr1.below hB
      replace Nr2 := Nr2.below hB
      replace Nr3 := Nr3.below hB
      clear hB p0 q0 r0 p1 q1 r1 p2 q2 r2 p3 q3 r3 p4 q4 r4 p5 q5 r5
      by_cases h3 : ordI a b c x y z ≤ 0
      · have d3 : decide (ordI a b c x y z ≤ 0) = true := decide_eq_true h3
        have X0 : Blk _ w.heap.size _ := T0.b 0 rfl; have Y0 : Blk _ (w.heap.size + 1) _ := T0.b 1 rfl; have Z0 : Blk _ (w.heap.size + 1 + 1) _ := T0.b 2 rfl; have p0 := X0.c 0 rfl; have q0 := Y0.c 0 rfl; have r0 := Z0.c 0 rfl; have p1 := X0.c 1 rfl; have q1 := Y0.c 1 rfl; have r1 := Z0.c 1 rfl; have p2 := X0.c 2 rfl; have q2 := Y0.c 2 rfl; have r2 := Z0.c 2 rfl; have p3 := X0.c 3 rfl; have q3 := Y0.c 3 rfl; have r3 := Z0.c 3 rfl; have p4 := X0.c 4 rfl; have q4 := Y0.c 4 rfl; have r4 := Z0.c 4 rfl; have p5 := X0.c 5 rfl; have q5 := Y0.c 5 rfl; have r5 := Z0.c 5 rfl; clear X0 Y0 Z0
        go_wp2_with fail
        refine (l3Orient_any qs1 qs2 qs3 qo1 qo2 qo3 qn1 qc1 qn2 qc2 qn3 qc3 ps1 ps2 ps3 po1 po2 po3 pn1 pc1 pn2 pc2 pn3 pc3 rs1 rs2 rs3 ro1 ro2 ro3 rn1 rc1 rn2 rc2 rn3 rc3 qd1 qd2 qd3 pd1 pd2 pd3 rd1 rd2 rd3 u v t x y z a b c k hk _ Nq1 Nq2 Nq3 Np1 Np2 Np3 Nr1 Nr2 Nr3).mono ?_
        rintro e f3 ⟨rfl, hB⟩
        have HB := (T0.step hB).below
        have HR : Hid (btwS x y z u v t a b c = (turnI u v t x y z a b c == 0)) := by
          show _ = _
          unfold btwS
          rw [HC]
          simp only [h2, h3, decide_true, Bool.true_and]
          rw [Bool.eq_iff_iff, decide_eq_true_iff, beq_iff_eq]
        clear hB T0 p0 q0 r0 p1 q1 r1 p2 q2 r2 p3 q3 r3 p4 q4 r4 p5 q5 r5 Np1 Np2 Np3 Nq1 Nq2 Nq3 Nr1 Nr2 Nr3 HC h2 h3
        go_wp2
        go_ret
        exact ⟨by rw [HR.out]; rfl, HB⟩
      · have d3 : decide (ordI a b c x y z ≤ 0) = false := decide_eq_false h3
        have HR : Hid (btwS x y z u v t a b c = false) := by show _ = _; unfold btwS; rw [HC]; simp [h3]
        have HB := T0.below
        clear T0 Np1 Np2 Np3 Nq1 Nq2 Nq3 Nr1 Nr2 Nr3 HC h2 h3
        go_wp2
        go_ret
        exact ⟨by rw [HR.out]; rfl, HB⟩
    · have d2 : decide (ordI u v t a b c ≤ 0) = false := decide_eq_false h2
      have HR : Hid (btwS x y z u v t a b c = false) := by show _ = _; unfold btwS; rw [HC]; simp [h2]
      have HB := T0.below
      clear T0 Np1 Np2 Np3 Nq1 Nq2 Nq3 Nr1 Nr2 Nr3 HC h2
      go_wp2
      go_ret
      exact ⟨by rw [HR.out]; rfl, HB⟩
  · have d1 : decide (0 < ordI x y z u v t) = false := decide_eq_false h1
    have HC : (if 0 < ordI x y z u v t then decide (ordI u v t a b c ≤ 0) && decide (ordI a b c x y z ≤ 0) && decide (turnI u v t x y z a b c = 0) else decide (ordI x y z a b c ≤ 0) && decide (ordI a b c u v t ≤ 0) && decide (turnI x y z u v t a b c = 0)) = (decide (ordI x y z a b c ≤ 0) && decide (ordI a b c u v t ≤ 0) && decide (turnI x y z u v t a b c = 0)) := if_neg h1
    have X0 : Blk _ w.heap.size _ := T0.b 0 rfl; have Y0 : Blk _ (w.heap.size + 1) _ := T0.b 1 rfl; have Z0 : Blk _ (w.heap.size + 1 + 1) _ := T0.b 2 rfl; have p0 := X0.c 0 rfl; have q0 := Y0.c 0 rfl; have r0 := Z0.c 0 rfl; have p1 := X0.c 1 rfl; have q1 := Y0.c 1 rfl; have r1 := Z0.c 1 rfl; have p2 := X0.c 2 rfl; have q2 := Y0.c 2 rfl; have r2 := Z0.c 2 rfl; have p3 := X0.c 3 rfl; have q3 := Y0.c 3 rfl; have r3 := Z0.c 3 rfl; have p4 := X0.c 4 rfl; have q4 := Y0.c 4 rfl; have r4 := Z0.c 4 rfl; have p5 := X0.c 5 rfl; have q5 := Y0.c 5 rfl; have r5 := Z0.c 5 rfl; clear X0 Y0 Z0
    go_wp2_with fail
    refine (l3Cmp_any ps1 ps2 ps3 po1 po2 po3 pn1 pc1 pn2 pc2 pn3 pc3 rs1 rs2 rs3 ro1 ro2 ro3 rn1 rc1 rn2 rc2 rn3 rc3 pd1 pd2 pd3 rd1 rd2 rd3 x y z a b c k hk _ Np1 Np2 Np3 Nr1 Nr2 Nr3).mono ?_
    rintro e f1 ⟨rfl, hB⟩
    replace T0 := T0.step hB
    replace Np1 := Np1.below hB
    replace Np2 := Np2.below hB
    replace Np3 := Np3.below hB
    replace Nq1 := Nq1.below hB
    replace Nq2 := Nq2.below hB
    replace Nq3 := Nq3.below hB
    replace Nr1 := Nr1.below hB
    replace Nr2 := Nr2.below hB
    replace Nr3 := Nr3.below hB
    clear hB p0 q0 r0 p1 q1 r1 p2 q2 r2 p3 q3 r3 p4 q4 r4 p5 q5 r5
    by_cases h2 : ordI x y z a b c ≤ 0
    · have d2 : decide (ordI x y z a b c ≤ 0) = true := decide_eq_true h2
      have X0 : Blk _ w.heap.size _ := T0.b 0 rfl; have Y0 : Blk _ (w.heap.size + 1) _ := T0.b 1 rfl; have Z0 : Blk _ (w.heap.size + 1 + 1) _ := T0.b 2 rfl; have p0 := X0.c 0 rfl; have q0 := Y0.c 0 rfl; have r0 := Z0.c 0 rfl; have p1 := X0.c 1 rfl; have q1 := Y0.c 1 rfl; have r1 := Z0.c 1 rfl; have p2 := X0.c 2 rfl; have q2 := Y0.c 2 rfl; have r2 := Z0.c 2 rfl; have p3 := X0.c 3 rfl; have q3 := Y0.c 3 rfl; have r3 := Z0.c 3 rfl; have p4 := X0.c 4 rfl; have q4 := Y0.c 4 rfl; have r4 := Z0.c 4 rfl; have p5 := X0.c 5 rfl; have q5 := Y0.c 5 rfl; have r5 := Z0.c 5 rfl; clear X0 Y0 Z0
      go_wp2_with fail
      refine (l3Cmp_any rs1 rs2 rs3 ro1 ro2 ro3 rn1 rc1 rn2 rc2 rn3 rc3 qs1 qs2 qs3 qo1 qo2 qo3 qn1 qc1 qn2 qc2 qn3 qc3 rd1 rd2 rd3 qd1 qd2 qd3 a b c u v t k hk _ Nr1 Nr2 Nr3 Nq1 Nq2 Nq3).mono ?_
      rintro e f2 ⟨rfl, hB⟩
      replace T0 := T0.step hB
      replace Np1 := Np1.below hB
      replace Np2 := Np2.below hB
      replace Np3 := Np3.below hB
      replace Nq1 := Nq1.below hB
      replace Nq2 := Nq2.below hB
      replace Nq3 := Nq3.below hB
      replace Nr1 := Nr1.below hB
      replace Nr2 := Nr2.below hB
      replace Nr3 := Nr3.below hB
      clear hB p0 q0 r0 p1 q1 r1 p2 q2 r2 p3 q3 r3 p4 q4 r4 p5 q5 r5
      by_cases h3 : ordI a b c u v t ≤ 0
      · have d3 : decide (ordI a b c u v t ≤ 0) = true := decide_eq_true h3
        have X0 : Blk _ w.heap.size _ := T0.b 0 rfl; have Y0 : Blk _ (w.heap.size + 1) _ := T0.b 1 rfl; have Z0 : Blk _ (w.heap.size + 1 + 1) _ := T0.b 2 rfl; have p0 := X0.c 0 rfl; have q0 := Y0.c 0 rfl; have r0 := Z0.c 0 rfl; have p1 := X0.c 1 rfl; have q1 := Y0.c 1 rfl; have r1 := Z0.c 1 rfl; have p2 := X0.c 2 rfl; have q2 := Y0.c 2 rfl; have r2 := Z0.c 2 rfl; have p3 := X0.c 3 rfl; have q3 := Y0.c 3 rfl; have r3 := Z0.c 3 rfl; have p4 := X0.c 4 rfl; have q4 := Y0.c 4 rfl; have r4 := Z0.c 4 rfl; have p5 := X0.c 5 rfl; have q5 := Y0.c 5 rfl; have r5 := Z0.c 5 rfl; clear X0 Y0 Z0
        go_wp2_with fail
        refine (l3Orient_any ps1 ps2 ps3 po1 po2 po3 pn1 pc1 pn2 pc2 pn3 pc3 qs1 qs2 qs3 qo1 qo2 qo3 qn1 qc1 qn2 qc2 qn3 qc3 rs1 rs2 rs3 ro1 ro2 ro3 rn1 rc1 rn2 rc2 rn3 rc3 pd1 pd2 pd3 qd1 qd2 qd3 rd1 rd2 rd3 x y z u v t a b c k hk _ Np1 Np2 Np3 Nq1 Nq2 Nq3 Nr1 Nr2 Nr3).mono ?_
        rintro e f3 ⟨rfl, hB⟩
        have HB := (T0.step hB).below
        have HR : Hid (btwS x y z u v t a b c = (turnI x y z u v t a b c == 0)) := by
          show _ = _
          unfold btwS
          rw [HC]
          simp only [h2, h3, decide_true, Bool.true_and]
          rw [Bool.eq_iff_iff, decide_eq_true_iff, beq_iff_eq]
        clear hB T0 p0 q0 r0 p1 q1 r1 p2 q2 r2 p3 q3 r3 p4 q4 r4 p5 q5 r5 Np1 Np2 Np3 Nq1 Nq2 Nq3 Nr1 Nr2 Nr3 HC h2 h3
        go_wp2
        go_ret
        exact ⟨by rw [HR.out]; rfl, HB⟩
      · have d3 : decide (ordI a b c u v t ≤ 0) = false := decide_eq_false h3
        have HR : Hid (btwS x y z u v t a b c = false) := by show _ = _; unfold btwS; rw [HC]; simp [h3]
        have HB := T0.below
        clear T0 Np1 Np2 Np3 Nq1 Nq2 Nq3 Nr1 Nr2 Nr3 HC h2 h3
        go_wp2
        go_ret
        exact ⟨by rw [HR.out]; rfl, HB⟩
    · have d2 : decide (ordI x y z a b c ≤ 0) = false := decide_eq_false h2
      have HR : Hid (btwS x y z u v t a b c = false) := by show _ = _; unfold btwS; rw [HC]; simp [h2]
      have HB := T0.below
      clear T0 Np1 Np2 Np3 Nq1 Nq2 Nq3 Nr1 Nr2 Nr3 HC h2
      go_wp2
      go_ret
      exact ⟨by rw [HR.out]; rfl, HB⟩
end Go.Proofs.Ytmjlgmoohpnhfaa

/- What lies between two points: both sides. -/
namespace Go.Proofs.Ytmjlgmoohpnhfaa
open Go.RowKit
end Go.Proofs.Ytmjlgmoohpnhfaa

/- Whether a point lies on a segment: both sides. -/
namespace Go.Proofs.Ytmjlgmoohpnhfaa
open Go.RowKit
theorem on_cells {a b c d : Int} {rs1 rs2 rs3 : Bool} {ro1 ro2 ro3 : Option Addr} {rn1 rc1 rn2 rc2 rn3 rc3 : Nat} {w W : World} (T0 : ArgsB w W [[.int .i64 a, .int .i64 b, .int .i64 c, .int .i64 d], [.bool rs1, .slice ro1 rn1 rc1, .bool rs2, .slice ro2 rn2 rc2, .bool rs3, .slice ro3 rn3 rc3]]) : (fun w' => w'.cell? ⟨w.heap.size, 0, none⟩ = some (.int .i64 a) ∧ w'.cell? ⟨w.heap.size, 1, none⟩ = some (.int .i64 b) ∧ w'.cell? ⟨w.heap.size, 2, none⟩ = some (.int .i64 c) ∧ w'.cell? ⟨w.heap.size, 3, none⟩ = some (.int .i64 d) ∧ w'.cell? ⟨w.heap.size + 1, 0, none⟩ = some (.bool rs1) ∧ w'.cell? ⟨w.heap.size + 1, 1, none⟩ = some (.slice ro1 rn1 rc1) ∧ w'.cell? ⟨w.heap.size + 1, 2, none⟩ = some (.bool rs2) ∧ w'.cell? ⟨w.heap.size + 1, 3, none⟩ = some (.slice ro2 rn2 rc2) ∧ w'.cell? ⟨w.heap.size + 1, 4, none⟩ = some (.bool rs3) ∧ w'.cell? ⟨w.heap.size + 1, 5, none⟩ = some (.slice ro3 rn3 rc3)) W := ⟨(T0.b 0 rfl).c 0 rfl, (T0.b 0 rfl).c 1 rfl, (T0.b 0 rfl).c 2 rfl, (T0.b 0 rfl).c 3 rfl, (T0.b 1 rfl).c 0 rfl, (T0.b 1 rfl).c 1 rfl, (T0.b 1 rfl).c 2 rfl, (T0.b 1 rfl).c 3 rfl, (T0.b 1 rfl).c 4 rfl, (T0.b 1 rfl).c 5 rfl⟩
set_option maxRecDepth 100000 in
set_option maxHeartbeats 2000000 in
theorem l4On_any (rs1 rs2 rs3 : Bool) (ro1 ro2 ro3 : Option Addr) (rn1 rc1 rn2 rc2 rn3 rc3 : Nat) (rd1 rd2 rd3 : List Int) (a b c d x y z : Int) (ha : -1000000 ≤ a ∧ a ≤ 1000000) (hb : -1000000 ≤ b ∧ b ≤ 1000000) (hc : -1000000 ≤ c ∧ c ≤ 1000000) (hd : -1000000 ≤ d ∧ d ≤ 1000000) (w : World) (Nr1 : IsNum w rs1 ro1 rn1 rc1 rd1 x 8) (Nr2 : IsNum w rs2 ro2 rn2 rc2 rd2 y 8) (Nr3 : IsNum w rs3 ro3 rn3 rc3 rd3 z 8) : Calls Try.prog 69 #[Sg a b c d, .agg #[.bool rs1, .slice ro1 rn1 rc1, .bool rs2, .slice ro2 rn2 rc2, .bool rs3, .slice ro3 rn3 rc3]] w (VP (.bool (btwS a b 1 c d 1 x y z)) w) := by
  have T0 : ArgsB w ((w.alloc (.cells #[.int .i64 a, .int .i64 b, .int .i64 c, .int .i64 d] 103)).alloc (.cells #[.bool rs1, .slice ro1 rn1 rc1, .bool rs2, .slice ro2 rn2 rc2, .bool rs3, .slice ro3 rn3 rc3] 91)) [[.int .i64 a, .int .i64 b, .int .i64 c, .int .i64 d], [.bool rs1, .slice ro1 rn1 rc1, .bool rs2, .slice ro2 rn2 rc2, .bool rs3, .slice ro3 rn3 rc3]] := ar2 _ _ _ _ w
  have F1 := l3Spot_det a b ha hb
  have F2 := l3Spot_det c d hc hd
  have hBw : Below w.heap.size w ((w.alloc (.cells #[.int .i64 a, .int .i64 b, .int .i64 c, .int .i64 d] 103)).alloc (.cells #[.bool rs1, .slice ro1 rn1 rc1, .bool rs2, .slice ro2 rn2 rc2, .bool rs3, .slice ro3 rn3 rc3] 91)) := T0.below
  replace Nr1 := (Nr1.below hBw).drew; replace Nr2 := (Nr2.below hBw).drew; replace Nr3 := (Nr3.below hBw).drew
  clear ha hb hc hd hBw
  have tok1 : True := trivial
  go_enter Try.func69, Try.ntmps69
  go_upto_region 1 with fail
  generalize ((w.alloc (.cells #[.int .i64 a, .int .i64 b, .int .i64 c, .int .i64 d] 103)).alloc (.cells #[.bool rs1, .slice ro1 rn1 rc1, .bool rs2, .slice ro2 rn2 rc2, .bool rs3, .slice ro3 rn3 rc3] 91)) = W at *
  go_region_held3 (fun w' => w'.cell? ⟨w.heap.size, 0, none⟩ = some (.int .i64 a) ∧ w'.cell? ⟨w.heap.size, 1, none⟩ = some (.int .i64 b) ∧ w'.cell? ⟨w.heap.size, 2, none⟩ = some (.int .i64 c) ∧ w'.cell? ⟨w.heap.size, 3, none⟩ = some (.int .i64 d) ∧ w'.cell? ⟨w.heap.size + 1, 0, none⟩ = some (.bool rs1) ∧ w'.cell? ⟨w.heap.size + 1, 1, none⟩ = some (.slice ro1 rn1 rc1) ∧ w'.cell? ⟨w.heap.size + 1, 2, none⟩ = some (.bool rs2) ∧ w'.cell? ⟨w.heap.size + 1, 3, none⟩ = some (.slice ro2 rn2 rc2) ∧ w'.cell? ⟨w.heap.size + 1, 4, none⟩ = some (.bool rs3) ∧ w'.cell? ⟨w.heap.size + 1, 5, none⟩ = some (.slice ro3 rn3 rc3)) (first | (with_reducible exact on_cells T0) | (with_reducible exact on_cells T0.drew))
    (first
      | (go_at_call 70; have _t := tok1; refine (F1 _).mono ?_; rintro e v1 ⟨ps1, po1, pn1, pc1, pd1, ps2, po2, pn2, pc2, pd2, ps3, po3, pn3, pc3, pd3, rfl, Np1, Np2, Np3, hB⟩; (first | (have T1 := T0.step hB) | (have T1 := T0.drew.step hB)); clear T0; have T0 := T1; clear T1; replace Nr1 := Nr1.below hB; replace Nr2 := Nr2.below hB; replace Nr3 := Nr3.below hB; clear hB tok1 _t)
      | (go_at_call 70; refine (F2 _).mono ?_; rintro e v2 ⟨qs1, qo1, qn1, qc1, qd1, qs2, qo2, qn2, qc2, qd2, qs3, qo3, qn3, qc3, qd3, rfl, Nq1, Nq2, Nq3, hB⟩; (first | (have T1 := T0.step hB) | (have T1 := T0.drew.step hB)); clear T0; have T0 := T1; clear T1; replace Nr1 := Nr1.below hB; replace Nr2 := Nr2.below hB; replace Nr3 := Nr3.below hB; replace Np1 := Np1.below hB; replace Np2 := Np2.below hB; replace Np3 := Np3.below hB; clear hB)
      | (go_at_call 115; refine (l3Between_any ps1 ps2 ps3 po1 po2 po3 pn1 pc1 pn2 pc2 pn3 pc3 qs1 qs2 qs3 qo1 qo2 qo3 qn1 qc1 qn2 qc2 qn3 qc3 rs1 rs2 rs3 ro1 ro2 ro3 rn1 rc1 rn2 rc2 rn3 rc3 pd1 pd2 pd3 qd1 qd2 qd3 rd1 rd2 rd3 a b 1 c d 1 x y z 8 (by omega) _ Np1 Np2 Np3 Nq1 Nq2 Nq3 Nr1 Nr2 Nr3).mono ?_; rintro e v4 ⟨rfl, hB⟩; (first | (have T1 := T0.step hB) | (have T1 := T0.drew.step hB)); clear T0; have T0 := T1; clear T1; clear hB))
  all_goals have HB := T0.below
  all_goals clear T0
  all_goals go_wp2
  all_goals go_ret
  all_goals exact ⟨rfl, by first | exact HB | exact HB.drew⟩
end Go.Proofs.Ytmjlgmoohpnhfaa
