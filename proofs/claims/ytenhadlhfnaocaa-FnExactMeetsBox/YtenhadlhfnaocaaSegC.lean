/- Segments of two spots: the walks. -/
import Derived.Test.YtenhadlhfnaocaaSegB
import Derived.Test.YtenhadlhfnaocaaBlk
namespace Go.Proofs.Ytenhadlhfnaocaa
open Go.RowKit
def VP (v : Value) (w : World) (e : Ending) (w' : World) : Prop := e = .returned v ∧ Below w.heap.size w w'
set_option maxRecDepth 100000 in
set_option maxHeartbeats 400000 in
theorem specSegOf_any (x y u v A B C D : Int) (l k : Bool) (hl : lessI u v x y = l) (hk : segOk A B C D = k) (hA : cond l u x = A) (hB : cond l v y = B) (hC : cond l x u = C) (hD : cond l y v = D) (w : World) :
    Calls Try.prog 13 #[Sp x y, Sp u v] w (VP (.tuple #[Sg (cond k A 0) (cond k B 0) (cond k C 0) (cond k D 0), .bool k]) w) := by
  cases l <;> simp only [cond_true, cond_false] at hA hB hC hD <;> subst hA hB hC hD
  · have B0 := Blk.new w [.int .i64 x, .int .i64 y] 25 rfl
    have HB0 : Below w.heap.size w _ := (Below.refl _ w).alloc (Nat.le_refl _) (.cells #[.int .i64 x, .int .i64 y] 25)
    have B1 := Blk.new (w.alloc (.cells #[.int .i64 x, .int .i64 y] 25)) [.int .i64 u, .int .i64 v] 25 (g := w.heap.size + 1) (by simp)
    replace B0 := B0.alloc (.cells #[.int .i64 u, .int .i64 v] 25)
    replace HB0 := HB0.alloc (by simp) (.cells #[.int .i64 u, .int .i64 v] 25)
    have B2 := Blk.new ((w.alloc (.cells #[.int .i64 x, .int .i64 y] 25)).alloc (.cells #[.int .i64 u, .int .i64 v] 25)) [.int .i64 0, .int .i64 0, .int .i64 0, .int .i64 0] 32 (g := w.heap.size + 1 + 1) (by simp)
    replace B0 := B0.alloc (.cells #[.int .i64 0, .int .i64 0, .int .i64 0, .int .i64 0] 32)
    replace B1 := B1.alloc (.cells #[.int .i64 0, .int .i64 0, .int .i64 0, .int .i64 0] 32)
    replace HB0 := HB0.alloc (by simp; omega) (.cells #[.int .i64 0, .int .i64 0, .int .i64 0, .int .i64 0] 32)
    go_enter Try.func13, Try.ntmps13
    go_wp2_with fail
    refine (l4Less_any _ _ _ _ false hl _).mono ?_
    rintro e w1 ⟨rfl, hB⟩
    replace B0 := B0.step hB; replace B1 := B1.step hB; replace B2 := B2.step hB
    have HB : Below w.heap.size w w1 := HB0.trans (hB.mono HB0.size)
    clear hB HB0
    have cB00 := B0.c 0 rfl; have fB00 := B0.f 0 rfl; have cB01 := B0.c 1 rfl; have fB01 := B0.f 1 rfl; have cB10 := B1.c 0 rfl; have fB10 := B1.f 0 rfl; have cB11 := B1.c 1 rfl; have fB11 := B1.f 1 rfl; have cB20 := B2.c 0 rfl; have fB20 := B2.f 0 rfl; have cB21 := B2.c 1 rfl; have fB21 := B2.f 1 rfl; have cB22 := B2.c 2 rfl; have fB22 := B2.f 2 rfl; have cB23 := B2.c 3 rfl; have fB23 := B2.f 3 rfl; have ltB0 := B0.lt; have ltB1 := B1.lt; have ltB2 := B2.lt
    go_wp2_with fail
    have D2 := B2.alloc (.cells #[.int .i64 x, .int .i64 y, .int .i64 u, .int .i64 v] 32)
    have D3 := Blk.new w1 [.int .i64 x, .int .i64 y, .int .i64 u, .int .i64 v] 32 rfl
    have HC := HB.alloc HB.size (.cells #[.int .i64 x, .int .i64 y, .int .i64 u, .int .i64 v] 32)
    refine (specSegOk_any _ _ _ _ k hk _).mono ?_
    rintro e w2 ⟨rfl, hB⟩
    replace D2 := D2.step hB
    replace D3 := D3.step hB
    have HD : Below w.heap.size w w2 := HC.trans (hB.mono HC.size)
    clear hB HC HB B0 B1 B2 cB00 fB00 cB01 fB01 cB10 fB10 cB11 fB11 cB20 fB20 cB21 fB21 cB22 fB22 cB23 fB23 ltB0 ltB1 ltB2
    have cD20 := D2.c 0 rfl; have fD20 := D2.f 0 rfl; have cD21 := D2.c 1 rfl; have fD21 := D2.f 1 rfl; have cD22 := D2.c 2 rfl; have fD22 := D2.f 2 rfl; have cD23 := D2.c 3 rfl; have fD23 := D2.f 3 rfl; have cD30 := D3.c 0 rfl; have fD30 := D3.f 0 rfl; have cD31 := D3.c 1 rfl; have fD31 := D3.f 1 rfl; have cD32 := D3.c 2 rfl; have fD32 := D3.f 2 rfl; have cD33 := D3.c 3 rfl; have fD33 := D3.f 3 rfl
    have ltD2 := D2.lt; have ltD3 := D3.lt
    cases k
    · go_wp2
      refine bodyPost_ret (v := .tuple #[Sg 0 0 0 0, .bool false]) (by simp [results, Try.results13, go_sem, cD20, cD21, cD22, cD23]) rfl ?_
      refine ⟨rfl, ?_⟩
      repeat' (refine Below.setCell ?_ (by simp; try omega) _)
      exact HD
    · go_wp2
      refine bodyPost_ret (v := .tuple #[Sg x y u v, .bool true]) (by simp [results, Try.results13, go_sem, cD20, cD21, cD22, cD23]) rfl ?_
      refine ⟨rfl, ?_⟩
      repeat' (refine Below.setCell ?_ (by simp; try omega) _)
      exact HD
  · have B0 := Blk.new w [.int .i64 x, .int .i64 y] 25 rfl
    have HB0 : Below w.heap.size w _ := (Below.refl _ w).alloc (Nat.le_refl _) (.cells #[.int .i64 x, .int .i64 y] 25)
    have B1 := Blk.new (w.alloc (.cells #[.int .i64 x, .int .i64 y] 25)) [.int .i64 u, .int .i64 v] 25 (g := w.heap.size + 1) (by simp)
    replace B0 := B0.alloc (.cells #[.int .i64 u, .int .i64 v] 25)
    replace HB0 := HB0.alloc (by simp) (.cells #[.int .i64 u, .int .i64 v] 25)
    have B2 := Blk.new ((w.alloc (.cells #[.int .i64 x, .int .i64 y] 25)).alloc (.cells #[.int .i64 u, .int .i64 v] 25)) [.int .i64 0, .int .i64 0, .int .i64 0, .int .i64 0] 32 (g := w.heap.size + 1 + 1) (by simp)
    replace B0 := B0.alloc (.cells #[.int .i64 0, .int .i64 0, .int .i64 0, .int .i64 0] 32)
    replace B1 := B1.alloc (.cells #[.int .i64 0, .int .i64 0, .int .i64 0, .int .i64 0] 32)
    replace HB0 := HB0.alloc (by simp; omega) (.cells #[.int .i64 0, .int .i64 0, .int .i64 0, .int .i64 0] 32)
    go_enter Try.func13, Try.ntmps13
    go_wp2_with fail
    refine (l4Less_any _ _ _ _ true hl _).mono ?_
    rintro e w1 ⟨rfl, hB⟩
    replace B0 := B0.step hB; replace B1 := B1.step hB; replace B2 := B2.step hB
    have HB : Below w.heap.size w w1 := HB0.trans (hB.mono HB0.size)
    clear hB HB0
    have cB00 := B0.c 0 rfl; have fB00 := B0.f 0 rfl; have cB01 := B0.c 1 rfl; have fB01 := B0.f 1 rfl; have cB10 := B1.c 0 rfl; have fB10 := B1.f 0 rfl; have cB11 := B1.c 1 rfl; have fB11 := B1.f 1 rfl; have cB20 := B2.c 0 rfl; have fB20 := B2.f 0 rfl; have cB21 := B2.c 1 rfl; have fB21 := B2.f 1 rfl; have cB22 := B2.c 2 rfl; have fB22 := B2.f 2 rfl; have cB23 := B2.c 3 rfl; have fB23 := B2.f 3 rfl; have ltB0 := B0.lt; have ltB1 := B1.lt; have ltB2 := B2.lt
    go_wp2_with fail
    have D2 := ((((B2.setO (p := ⟨w.heap.size, 0, none⟩) (by simp; omega) (.int .i64 u)).setO (p := ⟨w.heap.size, 1, none⟩) (by simp; omega) (.int .i64 v)).setO (p := ⟨w.heap.size + 1, 0, none⟩) (by simp) (.int .i64 x)).setO (p := ⟨w.heap.size + 1, 1, none⟩) (by simp) (.int .i64 y)).alloc (.cells #[.int .i64 u, .int .i64 v, .int .i64 x, .int .i64 y] 32)
    have HC := ((((HB.setCell (p := ⟨w.heap.size, 0, none⟩) (by simp) (.int .i64 u)).setCell (p := ⟨w.heap.size, 1, none⟩) (by simp) (.int .i64 v)).setCell (p := ⟨w.heap.size + 1, 0, none⟩) (by simp) (.int .i64 x)).setCell (p := ⟨w.heap.size + 1, 1, none⟩) (by simp) (.int .i64 y))
    have D3 := Blk.new ((((w1.setCell ⟨w.heap.size, 0, none⟩ (.int .i64 u)).setCell ⟨w.heap.size, 1, none⟩ (.int .i64 v)).setCell ⟨w.heap.size + 1, 0, none⟩ (.int .i64 x)).setCell ⟨w.heap.size + 1, 1, none⟩ (.int .i64 y)) [.int .i64 u, .int .i64 v, .int .i64 x, .int .i64 y] 32 (g := w1.heap.size) (by simp [World.setCell])
    replace HC := HC.alloc (by have := HB.size; simpa [World.setCell] using this) (.cells #[.int .i64 u, .int .i64 v, .int .i64 x, .int .i64 y] 32)
    refine (specSegOk_any _ _ _ _ k hk _).mono ?_
    rintro e w2 ⟨rfl, hB⟩
    replace D2 := D2.step hB
    replace D3 := D3.step hB
    have HD : Below w.heap.size w w2 := HC.trans (hB.mono HC.size)
    clear hB HC HB B0 B1 B2 cB00 fB00 cB01 fB01 cB10 fB10 cB11 fB11 cB20 fB20 cB21 fB21 cB22 fB22 cB23 fB23 ltB0 ltB1 ltB2
    have cD20 := D2.c 0 rfl; have fD20 := D2.f 0 rfl; have cD21 := D2.c 1 rfl; have fD21 := D2.f 1 rfl; have cD22 := D2.c 2 rfl; have fD22 := D2.f 2 rfl; have cD23 := D2.c 3 rfl; have fD23 := D2.f 3 rfl; have cD30 := D3.c 0 rfl; have fD30 := D3.f 0 rfl; have cD31 := D3.c 1 rfl; have fD31 := D3.f 1 rfl; have cD32 := D3.c 2 rfl; have fD32 := D3.f 2 rfl; have cD33 := D3.c 3 rfl; have fD33 := D3.f 3 rfl
    have ltD2 := D2.lt; have ltD3 := D3.lt
    cases k
    · go_wp2
      refine bodyPost_ret (v := .tuple #[Sg 0 0 0 0, .bool false]) (by simp [results, Try.results13, go_sem, cD20, cD21, cD22, cD23]) rfl ?_
      refine ⟨rfl, ?_⟩
      repeat' (refine Below.setCell ?_ (by simp; try omega) _)
      exact HD
    · go_wp2
      refine bodyPost_ret (v := .tuple #[Sg u v x y, .bool true]) (by simp [results, Try.results13, go_sem, cD20, cD21, cD22, cD23]) rfl ?_
      refine ⟨rfl, ?_⟩
      repeat' (refine Below.setCell ?_ (by simp; try omega) _)
      exact HD
set_option maxRecDepth 100000 in
set_option maxHeartbeats 400000 in
theorem implSegOf_any (x y u v A B C D : Int) (l k : Bool) (hl : lessI u v x y = l) (hk : segOk A B C D = k) (hA : cond l u x = A) (hB : cond l v y = B) (hC : cond l x u = C) (hD : cond l y v = D) (w : World) :
    Calls Try.prog 14 #[Sp x y, Sp u v] w (VP (.tuple #[Sg (cond k A 0) (cond k B 0) (cond k C 0) (cond k D 0), .bool k]) w) := by
  cases l <;> simp only [cond_true, cond_false] at hA hB hC hD <;> subst hA hB hC hD
  · have B0 := Blk.new w [.int .i64 x, .int .i64 y] 25 rfl
    have HB0 : Below w.heap.size w _ := (Below.refl _ w).alloc (Nat.le_refl _) (.cells #[.int .i64 x, .int .i64 y] 25)
    have B1 := Blk.new (w.alloc (.cells #[.int .i64 x, .int .i64 y] 25)) [.int .i64 u, .int .i64 v] 25 (g := w.heap.size + 1) (by simp)
    replace B0 := B0.alloc (.cells #[.int .i64 u, .int .i64 v] 25)
    replace HB0 := HB0.alloc (by simp) (.cells #[.int .i64 u, .int .i64 v] 25)
    have B2 := Blk.new ((w.alloc (.cells #[.int .i64 x, .int .i64 y] 25)).alloc (.cells #[.int .i64 u, .int .i64 v] 25)) [.int .i64 0, .int .i64 0, .int .i64 0, .int .i64 0] 32 (g := w.heap.size + 1 + 1) (by simp)
    replace B0 := B0.alloc (.cells #[.int .i64 0, .int .i64 0, .int .i64 0, .int .i64 0] 32)
    replace B1 := B1.alloc (.cells #[.int .i64 0, .int .i64 0, .int .i64 0, .int .i64 0] 32)
    replace HB0 := HB0.alloc (by simp; omega) (.cells #[.int .i64 0, .int .i64 0, .int .i64 0, .int .i64 0] 32)
    have B3 := Blk.new (((w.alloc (.cells #[.int .i64 x, .int .i64 y] 25)).alloc (.cells #[.int .i64 u, .int .i64 v] 25)).alloc (.cells #[.int .i64 0, .int .i64 0, .int .i64 0, .int .i64 0] 32)) [.int .i64 x, .int .i64 y, .int .i64 u, .int .i64 v] 32 (g := w.heap.size + 1 + 1 + 1) (by simp)
    replace B0 := B0.alloc (.cells #[.int .i64 x, .int .i64 y, .int .i64 u, .int .i64 v] 32)
    replace B1 := B1.alloc (.cells #[.int .i64 x, .int .i64 y, .int .i64 u, .int .i64 v] 32)
    replace B2 := B2.alloc (.cells #[.int .i64 x, .int .i64 y, .int .i64 u, .int .i64 v] 32)
    replace HB0 := HB0.alloc (by simp; omega) (.cells #[.int .i64 x, .int .i64 y, .int .i64 u, .int .i64 v] 32)
    go_enter Try.func14, Try.ntmps14
    go_wp2_with fail
    refine (isAhead_any _ _ _ _ false hl _).mono ?_
    rintro e w1 ⟨rfl, hB⟩
    replace B0 := B0.step hB; replace B1 := B1.step hB; replace B2 := B2.step hB; replace B3 := B3.step hB
    have HB : Below w.heap.size w w1 := HB0.trans (hB.mono HB0.size)
    clear hB HB0
    have cB00 := B0.c 0 rfl; have fB00 := B0.f 0 rfl; have cB01 := B0.c 1 rfl; have fB01 := B0.f 1 rfl; have cB10 := B1.c 0 rfl; have fB10 := B1.f 0 rfl; have cB11 := B1.c 1 rfl; have fB11 := B1.f 1 rfl; have cB20 := B2.c 0 rfl; have fB20 := B2.f 0 rfl; have cB21 := B2.c 1 rfl; have fB21 := B2.f 1 rfl; have cB22 := B2.c 2 rfl; have fB22 := B2.f 2 rfl; have cB23 := B2.c 3 rfl; have fB23 := B2.f 3 rfl; have cB30 := B3.c 0 rfl; have fB30 := B3.f 0 rfl; have cB31 := B3.c 1 rfl; have fB31 := B3.f 1 rfl; have cB32 := B3.c 2 rfl; have fB32 := B3.f 2 rfl; have cB33 := B3.c 3 rfl; have fB33 := B3.f 3 rfl; have ltB0 := B0.lt; have ltB1 := B1.lt; have ltB2 := B2.lt; have ltB3 := B3.lt
    go_wp2_with fail
    have D2 := B2
    have D3 := B3
    have HC := HB
    refine (implSegOk_any _ _ _ _ k hk _).mono ?_
    rintro e w2 ⟨rfl, hB⟩
    replace D2 := D2.step hB
    replace D3 := D3.step hB
    have HD : Below w.heap.size w w2 := HC.trans (hB.mono HC.size)
    clear hB HC HB B0 B1 B2 B3 cB00 fB00 cB01 fB01 cB10 fB10 cB11 fB11 cB20 fB20 cB21 fB21 cB22 fB22 cB23 fB23 cB30 fB30 cB31 fB31 cB32 fB32 cB33 fB33 ltB0 ltB1 ltB2 ltB3
    have cD20 := D2.c 0 rfl; have fD20 := D2.f 0 rfl; have cD21 := D2.c 1 rfl; have fD21 := D2.f 1 rfl; have cD22 := D2.c 2 rfl; have fD22 := D2.f 2 rfl; have cD23 := D2.c 3 rfl; have fD23 := D2.f 3 rfl; have cD30 := D3.c 0 rfl; have fD30 := D3.f 0 rfl; have cD31 := D3.c 1 rfl; have fD31 := D3.f 1 rfl; have cD32 := D3.c 2 rfl; have fD32 := D3.f 2 rfl; have cD33 := D3.c 3 rfl; have fD33 := D3.f 3 rfl
    have ltD2 := D2.lt; have ltD3 := D3.lt
    cases k
    · go_wp2
      refine bodyPost_ret (v := .tuple #[Sg 0 0 0 0, .bool false]) (by simp [results, Try.results14, go_sem, cD20, cD21, cD22, cD23]) rfl ?_
      refine ⟨rfl, ?_⟩
      repeat' (refine Below.setCell ?_ (by simp; try omega) _)
      exact HD
    · go_wp2
      refine bodyPost_ret (v := .tuple #[Sg x y u v, .bool true]) (by simp [results, Try.results14, go_sem, cD20, cD21, cD22, cD23]) rfl ?_
      refine ⟨rfl, ?_⟩
      repeat' (refine Below.setCell ?_ (by simp; try omega) _)
      exact HD
  · have B0 := Blk.new w [.int .i64 x, .int .i64 y] 25 rfl
    have HB0 : Below w.heap.size w _ := (Below.refl _ w).alloc (Nat.le_refl _) (.cells #[.int .i64 x, .int .i64 y] 25)
    have B1 := Blk.new (w.alloc (.cells #[.int .i64 x, .int .i64 y] 25)) [.int .i64 u, .int .i64 v] 25 (g := w.heap.size + 1) (by simp)
    replace B0 := B0.alloc (.cells #[.int .i64 u, .int .i64 v] 25)
    replace HB0 := HB0.alloc (by simp) (.cells #[.int .i64 u, .int .i64 v] 25)
    have B2 := Blk.new ((w.alloc (.cells #[.int .i64 x, .int .i64 y] 25)).alloc (.cells #[.int .i64 u, .int .i64 v] 25)) [.int .i64 0, .int .i64 0, .int .i64 0, .int .i64 0] 32 (g := w.heap.size + 1 + 1) (by simp)
    replace B0 := B0.alloc (.cells #[.int .i64 0, .int .i64 0, .int .i64 0, .int .i64 0] 32)
    replace B1 := B1.alloc (.cells #[.int .i64 0, .int .i64 0, .int .i64 0, .int .i64 0] 32)
    replace HB0 := HB0.alloc (by simp; omega) (.cells #[.int .i64 0, .int .i64 0, .int .i64 0, .int .i64 0] 32)
    have B3 := Blk.new (((w.alloc (.cells #[.int .i64 x, .int .i64 y] 25)).alloc (.cells #[.int .i64 u, .int .i64 v] 25)).alloc (.cells #[.int .i64 0, .int .i64 0, .int .i64 0, .int .i64 0] 32)) [.int .i64 x, .int .i64 y, .int .i64 u, .int .i64 v] 32 (g := w.heap.size + 1 + 1 + 1) (by simp)
    replace B0 := B0.alloc (.cells #[.int .i64 x, .int .i64 y, .int .i64 u, .int .i64 v] 32)
    replace B1 := B1.alloc (.cells #[.int .i64 x, .int .i64 y, .int .i64 u, .int .i64 v] 32)
    replace B2 := B2.alloc (.cells #[.int .i64 x, .int .i64 y, .int .i64 u, .int .i64 v] 32)
    replace HB0 := HB0.alloc (by simp; omega) (.cells #[.int .i64 x, .int .i64 y, .int .i64 u, .int .i64 v] 32)
    go_enter Try.func14, Try.ntmps14
    go_wp2_with fail
    refine (isAhead_any _ _ _ _ true hl _).mono ?_
    rintro e w1 ⟨rfl, hB⟩
    replace B0 := B0.step hB; replace B1 := B1.step hB; replace B2 := B2.step hB; replace B3 := B3.step hB
    have HB : Below w.heap.size w w1 := HB0.trans (hB.mono HB0.size)
    clear hB HB0
    have cB00 := B0.c 0 rfl; have fB00 := B0.f 0 rfl; have cB01 := B0.c 1 rfl; have fB01 := B0.f 1 rfl; have cB10 := B1.c 0 rfl; have fB10 := B1.f 0 rfl; have cB11 := B1.c 1 rfl; have fB11 := B1.f 1 rfl; have cB20 := B2.c 0 rfl; have fB20 := B2.f 0 rfl; have cB21 := B2.c 1 rfl; have fB21 := B2.f 1 rfl; have cB22 := B2.c 2 rfl; have fB22 := B2.f 2 rfl; have cB23 := B2.c 3 rfl; have fB23 := B2.f 3 rfl; have cB30 := B3.c 0 rfl; have fB30 := B3.f 0 rfl; have cB31 := B3.c 1 rfl; have fB31 := B3.f 1 rfl; have cB32 := B3.c 2 rfl; have fB32 := B3.f 2 rfl; have cB33 := B3.c 3 rfl; have fB33 := B3.f 3 rfl; have ltB0 := B0.lt; have ltB1 := B1.lt; have ltB2 := B2.lt; have ltB3 := B3.lt
    go_wp2_with fail
    have D2 := ((((B2.setO (p := ⟨w.heap.size + 1 + 1 + 1, 0, none⟩) (by simp) (.int .i64 u)).setO (p := ⟨w.heap.size + 1 + 1 + 1, 1, none⟩) (by simp) (.int .i64 v)).setO (p := ⟨w.heap.size + 1 + 1 + 1, 2, none⟩) (by simp) (.int .i64 x)).setO (p := ⟨w.heap.size + 1 + 1 + 1, 3, none⟩) (by simp) (.int .i64 y))
    have D3 := ((((B3.setI 0 (by simp) (.int .i64 u)).setI 1 (by simp) (.int .i64 v)).setI 2 (by simp) (.int .i64 x)).setI 3 (by simp) (.int .i64 y))
    simp only [List.set_cons_zero, List.set_cons_succ] at D3
    have HC := ((((HB.setCell (p := ⟨w.heap.size + 1 + 1 + 1, 0, none⟩) (by simp; omega) (.int .i64 u)).setCell (p := ⟨w.heap.size + 1 + 1 + 1, 1, none⟩) (by simp; omega) (.int .i64 v)).setCell (p := ⟨w.heap.size + 1 + 1 + 1, 2, none⟩) (by simp; omega) (.int .i64 x)).setCell (p := ⟨w.heap.size + 1 + 1 + 1, 3, none⟩) (by simp; omega) (.int .i64 y))
    refine (implSegOk_any _ _ _ _ k hk _).mono ?_
    rintro e w2 ⟨rfl, hB⟩
    replace D2 := D2.step hB
    replace D3 := D3.step hB
    have HD : Below w.heap.size w w2 := HC.trans (hB.mono HC.size)
    clear hB HC HB B0 B1 B2 B3 cB00 fB00 cB01 fB01 cB10 fB10 cB11 fB11 cB20 fB20 cB21 fB21 cB22 fB22 cB23 fB23 cB30 fB30 cB31 fB31 cB32 fB32 cB33 fB33 ltB0 ltB1 ltB2 ltB3
    have cD20 := D2.c 0 rfl; have fD20 := D2.f 0 rfl; have cD21 := D2.c 1 rfl; have fD21 := D2.f 1 rfl; have cD22 := D2.c 2 rfl; have fD22 := D2.f 2 rfl; have cD23 := D2.c 3 rfl; have fD23 := D2.f 3 rfl; have cD30 := D3.c 0 rfl; have fD30 := D3.f 0 rfl; have cD31 := D3.c 1 rfl; have fD31 := D3.f 1 rfl; have cD32 := D3.c 2 rfl; have fD32 := D3.f 2 rfl; have cD33 := D3.c 3 rfl; have fD33 := D3.f 3 rfl
    have ltD2 := D2.lt; have ltD3 := D3.lt
    cases k
    · go_wp2
      refine bodyPost_ret (v := .tuple #[Sg 0 0 0 0, .bool false]) (by simp [results, Try.results14, go_sem, cD20, cD21, cD22, cD23]) rfl ?_
      refine ⟨rfl, ?_⟩
      repeat' (refine Below.setCell ?_ (by simp; try omega) _)
      exact HD
    · go_wp2
      refine bodyPost_ret (v := .tuple #[Sg u v x y, .bool true]) (by simp [results, Try.results14, go_sem, cD20, cD21, cD22, cD23]) rfl ?_
      refine ⟨rfl, ?_⟩
      repeat' (refine Below.setCell ?_ (by simp; try omega) _)
      exact HD
end Go.Proofs.Ytenhadlhfnaocaa
