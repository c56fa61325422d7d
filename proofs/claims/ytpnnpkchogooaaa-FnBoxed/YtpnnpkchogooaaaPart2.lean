/- Part 2 of the walks that the proof leans on. -/
import Derived.Test.YtpnnpkchogooaaaPart1
import Derived.Deep.RegionHeld3
import Derived.Deep.DeepCutAuto
import Derived.Deep.QuietTactic
import Derived.BigQuiet
import Derived.Deep.RegionWith
import Derived.Deep.OwnRows
/- A segment of two spots: the model's walk. -/
namespace Go.Proofs.Ytpnnpkchogooaaa
open Go.RowKit
set_option maxRecDepth 100000 in
set_option maxHeartbeats 400000 in
theorem specSegOf_any (x y u v A B C D : Int) (l k : Bool) (hl : lessI u v x y = l) (hk : segOk A B C D = k) (hA : cond l u x = A) (hB : cond l v y = B) (hC : cond l x u = C) (hD : cond l y v = D) (w : World) :
    Calls Try.prog 24 #[Sp x y, Sp u v] w (VP (.tuple #[Sg (cond k A 0) (cond k B 0) (cond k C 0) (cond k D 0), .bool k]) w) := by
  cases l <;> simp only [cond_true, cond_false] at hA hB hC hD <;> subst hA hB hC hD
  · have B0 := Blk.new w [.int .i64 x, .int .i64 y] 25 rfl
    have HB0 : Below w.heap.size w _ := (Below.refl _ w).alloc (Nat.le_refl _) (.cells #[.int .i64 x, .int .i64 y] 25)
    have B1 := Blk.new (w.alloc (.cells #[.int .i64 x, .int .i64 y] 25)) [.int .i64 u, .int .i64 v] 25 (g := w.heap.size + 1) (by simp)
    replace B0 := B0.alloc (.cells #[.int .i64 u, .int .i64 v] 25)
    replace HB0 := HB0.alloc (by simp) (.cells #[.int .i64 u, .int .i64 v] 25)
    have B2 := Blk.new ((w.alloc (.cells #[.int .i64 x, .int .i64 y] 25)).alloc (.cells #[.int .i64 u, .int .i64 v] 25)) [.int .i64 0, .int .i64 0, .int .i64 0, .int .i64 0] 27 (g := w.heap.size + 1 + 1) (by simp)
    replace B0 := B0.alloc (.cells #[.int .i64 0, .int .i64 0, .int .i64 0, .int .i64 0] 27)
    replace B1 := B1.alloc (.cells #[.int .i64 0, .int .i64 0, .int .i64 0, .int .i64 0] 27)
    replace HB0 := HB0.alloc (by simp; omega) (.cells #[.int .i64 0, .int .i64 0, .int .i64 0, .int .i64 0] 27)
    go_enter Try.func24, Try.ntmps24
    go_wp2_with fail
    refine (l4Less_any _ _ _ _ false hl _).mono ?_
    rintro e w1 ⟨rfl, hB⟩
    replace B0 := B0.step hB; replace B1 := B1.step hB; replace B2 := B2.step hB
    have HB : Below w.heap.size w w1 := HB0.trans (hB.mono HB0.size)
    clear hB HB0
    have cB00 := B0.c 0 rfl; have fB00 := B0.f 0 rfl; have cB01 := B0.c 1 rfl; have fB01 := B0.f 1 rfl; have cB10 := B1.c 0 rfl; have fB10 := B1.f 0 rfl; have cB11 := B1.c 1 rfl; have fB11 := B1.f 1 rfl; have cB20 := B2.c 0 rfl; have fB20 := B2.f 0 rfl; have cB21 := B2.c 1 rfl; have fB21 := B2.f 1 rfl; have cB22 := B2.c 2 rfl; have fB22 := B2.f 2 rfl; have cB23 := B2.c 3 rfl; have fB23 := B2.f 3 rfl; have ltB0 := B0.lt; have ltB1 := B1.lt; have ltB2 := B2.lt
    go_wp2_with fail
    have D2 := B2.alloc (.cells #[.int .i64 x, .int .i64 y, .int .i64 u, .int .i64 v] 27)
    have D3 := Blk.new w1 [.int .i64 x, .int .i64 y, .int .i64 u, .int .i64 v] 27 rfl
    have HC := HB.alloc HB.size (.cells #[.int .i64 x, .int .i64 y, .int .i64 u, .int .i64 v] 27)
    refine (specSegOk_any _ _ _ _ k hk _).mono ?_
    rintro e w2 ⟨rfl, hB⟩
    replace D2 := D2.step hB
    replace D3 := D3.step hB
    have HD : Below w.heap.size w w2 := HC.trans (hB.mono HC.size)
    clear hB HC HB B0 B1 B2 cB00 fB00 cB01 fB01 cB10 fB10 cB11 fB11 cB20 fB20 cB21 fB21 cB22 fB22 cB23 fB23 ltB0 ltB1 ltB2
    have cD20 := D2.c 0 rfl; have fD20 := D2.f 0 rfl; have cD21 := D2.c 1 rfl; have fD21 := D2.f 1 rfl; have cD22 := D2.c 2 rfl; have fD22 := D2.f 2 rfl; have cD23 := D2.c 3 rfl; have fD23 := D2.f 3 rfl; have cD30 := D3.c 0 rfl; have fD30 := D3.f 0 rfl; have cD31 := D3.c 1 rfl; have fD31 := D3.f 1 rfl; have cD32 := D3.c 2 rfl; have fD32 := D3.f 2 rfl; have cD33 := D3.c 3 rfl; have fD33 := D3.f 3 rfl
    have ltD2 := D2.lt; have ltD3 := D3.lt
    cases k
    · go_wp2
      refine bodyPost_ret (v := .tuple #[Sg 0 0 0 0, .bool false]) (by simp [results, Try.results24, go_sem, cD20, cD21, cD22, cD23]) rfl ?_
      refine ⟨rfl, ?_⟩
      repeat' (refine Below.setCell ?_ (by simp; try omega) _)
      exact HD
    · go_wp2
      refine bodyPost_ret (v := .tuple #[Sg x y u v, .bool true]) (by simp [results, Try.results24, go_sem, cD20, cD21, cD22, cD23]) rfl ?_
      refine ⟨rfl, ?_⟩
      repeat' (refine Below.setCell ?_ (by simp; try omega) _)
      exact HD
  · have B0 := Blk.new w [.int .i64 x, .int .i64 y] 25 rfl
    have HB0 : Below w.heap.size w _ := (Below.refl _ w).alloc (Nat.le_refl _) (.cells #[.int .i64 x, .int .i64 y] 25)
    have B1 := Blk.new (w.alloc (.cells #[.int .i64 x, .int .i64 y] 25)) [.int .i64 u, .int .i64 v] 25 (g := w.heap.size + 1) (by simp)
    replace B0 := B0.alloc (.cells #[.int .i64 u, .int .i64 v] 25)
    replace HB0 := HB0.alloc (by simp) (.cells #[.int .i64 u, .int .i64 v] 25)
    have B2 := Blk.new ((w.alloc (.cells #[.int .i64 x, .int .i64 y] 25)).alloc (.cells #[.int .i64 u, .int .i64 v] 25)) [.int .i64 0, .int .i64 0, .int .i64 0, .int .i64 0] 27 (g := w.heap.size + 1 + 1) (by simp)
    replace B0 := B0.alloc (.cells #[.int .i64 0, .int .i64 0, .int .i64 0, .int .i64 0] 27)
    replace B1 := B1.alloc (.cells #[.int .i64 0, .int .i64 0, .int .i64 0, .int .i64 0] 27)
    replace HB0 := HB0.alloc (by simp; omega) (.cells #[.int .i64 0, .int .i64 0, .int .i64 0, .int .i64 0] 27)
    go_enter Try.func24, Try.ntmps24
    go_wp2_with fail
    refine (l4Less_any _ _ _ _ true hl _).mono ?_
    rintro e w1 ⟨rfl, hB⟩
    replace B0 := B0.step hB; replace B1 := B1.step hB; replace B2 := B2.step hB
    have HB : Below w.heap.size w w1 := HB0.trans (hB.mono HB0.size)
    clear hB HB0
    have cB00 := B0.c 0 rfl; have fB00 := B0.f 0 rfl; have cB01 := B0.c 1 rfl; have fB01 := B0.f 1 rfl; have cB10 := B1.c 0 rfl; have fB10 := B1.f 0 rfl; have cB11 := B1.c 1 rfl; have fB11 := B1.f 1 rfl; have cB20 := B2.c 0 rfl; have fB20 := B2.f 0 rfl; have cB21 := B2.c 1 rfl; have fB21 := B2.f 1 rfl; have cB22 := B2.c 2 rfl; have fB22 := B2.f 2 rfl; have cB23 := B2.c 3 rfl; have fB23 := B2.f 3 rfl; have ltB0 := B0.lt; have ltB1 := B1.lt; have ltB2 := B2.lt
    go_wp2_with fail
    have D2 := ((((B2.setO (p := ⟨w.heap.size, 0, none⟩) (by simp; omega) (.int .i64 u)).setO (p := ⟨w.heap.size, 1, none⟩) (by simp; omega) (.int .i64 v)).setO (p := ⟨w.heap.size + 1, 0, none⟩) (by simp) (.int .i64 x)).setO (p := ⟨w.heap.size + 1, 1, none⟩) (by simp) (.int .i64 y)).alloc (.cells #[.int .i64 u, .int .i64 v, .int .i64 x, .int .i64 y] 27)
    have HC := ((((HB.setCell (p := ⟨w.heap.size, 0, none⟩) (by simp) (.int .i64 u)).setCell (p := ⟨w.heap.size, 1, none⟩) (by simp) (.int .i64 v)).setCell (p := ⟨w.heap.size + 1, 0, none⟩) (by simp) (.int .i64 x)).setCell (p := ⟨w.heap.size + 1, 1, none⟩) (by simp) (.int .i64 y))
    have D3 := Blk.new ((((w1.setCell ⟨w.heap.size, 0, none⟩ (.int .i64 u)).setCell ⟨w.heap.size, 1, none⟩ (.int .i64 v)).setCell ⟨w.heap.size + 1, 0, none⟩ (.int .i64 x)).setCell ⟨w.heap.size + 1, 1, none⟩ (.int .i64 y)) [.int .i64 u, .int .i64 v, .int .i64 x, .int .i64 y] 27 (g := w1.heap.size) (by simp [World.setCell])
    replace HC := HC.alloc (by have := HB.size; simpa [World.setCell] using this) (.cells #[.int .i64 u, .int .i64 v, .int .i64 x, .int .i64 y] 27)
    refine (specSegOk_any _ _ _ _ k hk _).mono ?_
    rintro e w2 ⟨rfl, hB⟩
    replace D2 := D2.step hB
    replace D3 := D3.step hB
    have HD : Below w.heap.size w w2 := HC.trans (hB.mono HC.size)
    clear hB HC HB B0 B1 B2 cB00 fB00 cB01 fB01 cB10 fB10 cB11 fB11 cB20 fB20 cB21 fB21 cB22 fB22 cB23 fB23 ltB0 ltB1 ltB2
    have cD20 := D2.c 0 rfl; have fD20 := D2.f 0 rfl; have cD21 := D2.c 1 rfl; have fD21 := D2.f 1 rfl; have cD22 := D2.c 2 rfl; have fD22 := D2.f 2 rfl; have cD23 := D2.c 3 rfl; have fD23 := D2.f 3 rfl; have cD30 := D3.c 0 rfl; have fD30 := D3.f 0 rfl; have cD31 := D3.c 1 rfl; have fD31 := D3.f 1 rfl; have cD32 := D3.c 2 rfl; have fD32 := D3.f 2 rfl; have cD33 := D3.c 3 rfl; have fD33 := D3.f 3 rfl
    have ltD2 := D2.lt; have ltD3 := D3.lt
    cases k
    · go_wp2
      refine bodyPost_ret (v := .tuple #[Sg 0 0 0 0, .bool false]) (by simp [results, Try.results24, go_sem, cD20, cD21, cD22, cD23]) rfl ?_
      refine ⟨rfl, ?_⟩
      repeat' (refine Below.setCell ?_ (by simp; try omega) _)
      exact HD
    · go_wp2
      refine bodyPost_ret (v := .tuple #[Sg u v x y, .bool true]) (by simp [results, Try.results24, go_sem, cD20, cD21, cD22, cD23]) rfl ?_
      refine ⟨rfl, ?_⟩
      repeat' (refine Below.setCell ?_ (by simp; try omega) _)
      exact HD
end Go.Proofs.Ytpnnpkchogooaaa

/- Numbers drawn from a code: what the walks of the reader share, and its small ones. -/
namespace Go.Proofs.Ytpnnpkchogooaaa
open Go.RowKit
/-- No other block has turned than g. -/
structure Kept (g : Nat) (w w' : World) : Prop where
  os : w'.os = w.os
  tape : w'.tape = w.tape
  output : w'.output = w.output
  size : w.heap.size ≤ w'.heap.size
  block : ∀ k, k < w.heap.size → k ≠ g → w'.heap[k]? = w.heap[k]?
  other : ∀ j, j ≠ 1 → g < w.heap.size → w'.cell? ⟨g, j, none⟩ = w.cell? ⟨g, j, none⟩
theorem Kept.refl (g : Nat) (w : World) : Kept g w w := ⟨rfl, rfl, rfl, Nat.le_refl _, fun _ _ _ => rfl, fun _ _ _ => rfl⟩
theorem Kept.trans {g : Nat} {a b c : World} (h : Kept g a b) (k : Kept g b c) : Kept g a c :=
  ⟨k.os.trans h.os, k.tape.trans h.tape, k.output.trans h.output, Nat.le_trans h.size k.size, fun i hi hg => (k.block i (Nat.lt_of_lt_of_le hi h.size) hg).trans (h.block i hi hg), fun j hj hl => (k.other j hj (Nat.lt_of_lt_of_le hl h.size)).trans (h.other j hj hl)⟩
theorem Kept.of {g : Nat} {a b : World} (h : Below a.heap.size a b) : Kept g a b := ⟨h.os, h.tape, h.output, h.size, fun i hi _ => h.block i hi, fun j _ hl => h.cell (p := ⟨g, j, none⟩) hl⟩
theorem Kept.drew {g : Nat} {a b : World} (h : Kept g a b) : Kept g a b.drew := ⟨h.os, h.tape, h.output, h.size, h.block, h.other⟩
theorem Kept.drewN {g : Nat} {a b : World} (h : Kept g a b) (n : Nat) : Kept g a (b.drewN n) := ⟨h.os, h.tape, h.output, h.size, h.block, h.other⟩
theorem Kept.set {g : Nat} {a b : World} (h : Kept g a b) (u : Value) : Kept g a (b.setCell ⟨g, 1, none⟩ u) :=
  ⟨h.os, h.tape, h.output, by simpa [World.setCell] using h.size, fun k hk hg => (Below.heap_setCell _ _ _ _ hg).trans (h.block k hk hg), fun j hj hl => (World.cell?_setCell_other _ _ _ _ (by intro e; simp only [Addr.mk.injEq] at e; omega)).trans (h.other j hj hl)⟩
theorem Kept.alloc {g : Nat} {a b : World} (h : Kept g a b) (o : Obj) : Kept g a (b.alloc o) := h.trans (Kept.of ((Below.refl _ _).alloc (Nat.le_refl _) o))
theorem Kept.below {g B : Nat} {a b : World} (h : Kept g a b) (hB : B ≤ g) (hB' : B ≤ a.heap.size) : Below B a b := ⟨h.os, h.tape, h.output, h.size, fun k hk => h.block k (by omega) (by omega)⟩
theorem Blk.kept {W W' : World} {g h : Nat} {vs : List Value} (H : Blk W h vs) (k : Kept g W W') (hne : h ≠ g) : Blk W' h vs := by
  have e := k.block h H.lt hne
  refine ⟨Nat.lt_of_lt_of_le H.lt k.size, fun i v hi => ⟨?_, ?_⟩⟩
  · exact (World.cell?_of_block (w := W) e).trans (H.c i hi)
  · exact (World.frozen?_of_block (w := W) e).trans (H.f i hi)
/-- The reader lies in the block g, and what it reads lies ahead of it. -/
structure Rdr (w : World) (g : Nat) (ao : Option Addr) (n cap : Nat) (cs : List Int) : Prop where
  blk : ∃ p : Nat, p ≤ n ∧ Blk w g [.slice ao n cap, .int .i64 p]
  bytes : ∀ i, (h : i < cs.length) → ∃ b off, ao = some ⟨b, off, none⟩ ∧ b < g ∧ w.cell? ⟨b, off + i, none⟩ = some (.int .u8 cs[i])
  len : cs.length = n
  small : n ≤ 1048576
  byte : ∀ c ∈ cs, 0 ≤ c ∧ c < 256
theorem Rdr.lt {w : World} {g : Nat} {ao : Option Addr} {n cap : Nat} {cs : List Int} (h : Rdr w g ao n cap cs) : g < w.heap.size := by
  obtain ⟨p, _, B⟩ := h.blk
  exact B.lt
theorem Rdr.step {w w' : World} {g : Nat} {ao : Option Addr} {n cap : Nat} {cs : List Int} (h : Rdr w g ao n cap cs) (hB : Below w.heap.size w w') : Rdr w' g ao n cap cs := by
  obtain ⟨p, hp, B⟩ := h.blk
  refine ⟨⟨p, hp, B.step hB⟩, fun i hi => ?_, h.len, h.small, h.byte⟩
  obtain ⟨b, off, e, hb, hc⟩ := h.bytes i hi
  exact ⟨b, off, e, hb, (hB.cell (p := ⟨b, off + i, none⟩) (show b < w.heap.size by have := B.lt; omega)).trans hc⟩
theorem Rdr.alloc {w : World} {g : Nat} {ao : Option Addr} {n cap : Nat} {cs : List Int} (h : Rdr w g ao n cap cs) (o : Obj) : Rdr (w.alloc o) g ao n cap cs := h.step ((Below.refl _ _).alloc (Nat.le_refl _) o)
theorem Rdr.drew {w : World} {g : Nat} {ao : Option Addr} {n cap : Nat} {cs : List Int} (h : Rdr w g ao n cap cs) : Rdr w.drew g ao n cap cs := ⟨h.blk, h.bytes, h.len, h.small, h.byte⟩
theorem Rdr.drewN {w : World} {g : Nat} {ao : Option Addr} {n cap : Nat} {cs : List Int} (h : Rdr w g ao n cap cs) (k : Nat) : Rdr (w.drewN k) g ao n cap cs := ⟨h.blk, h.bytes, h.len, h.small, h.byte⟩
theorem Rdr.put {w : World} {g : Nat} {ao : Option Addr} {n cap : Nat} {cs : List Int} (h : Rdr w g ao n cap cs) (p : Nat) (hp : p ≤ n) : Rdr (w.setCell ⟨g, 1, none⟩ (.int .i64 p)) g ao n cap cs := by
  obtain ⟨q, hq, B⟩ := h.blk
  refine ⟨⟨p, hp, B.setI 1 (by simp) _⟩, fun i hi => ?_, h.len, h.small, h.byte⟩
  obtain ⟨b, off, e, hb, hc⟩ := h.bytes i hi
  exact ⟨b, off, e, hb, (World.cell?_setCell_other _ _ _ _ (by intro e; simp only [Addr.mk.injEq] at e; omega)).trans hc⟩
/-- What a call of the reader's leaves. -/
def RdP (g : Nat) (ao : Option Addr) (n cap : Nat) (cs : List Int) (Q : Value → Prop) (w : World) (e : Ending) (w' : World) : Prop := ∃ v, e = .returned v ∧ Q v ∧ Rdr w' g ao n cap cs ∧ Kept g w w'
def IsIn (a b : Int) (v : Value) : Prop := ∃ x : Int, v = .int .i64 x ∧ a ≤ x ∧ x < b
set_option maxRecDepth 100000 in
set_option maxHeartbeats 1000000 in
theorem next_any (g : Nat) (ao : Option Addr) (n cap : Nat) (cs : List Int) (w : World) (h : Rdr w g ao n cap cs) :
    Calls Try.prog 36 #[.pointer (some ⟨g, 0, none⟩)] w (RdP g ao n cap cs (IsIn 0 256) w) := by
  obtain ⟨p, hp, B⟩ := h.blk
  have b0 := B.c 0 rfl; have b1 := B.c 1 rfl; have f1 := B.f 1 rfl; have bl := B.lt
  by_cases hq : p < n
  · have hpl : p < cs.length := by rw [h.len]; exact hq
    obtain ⟨b, off, rfl, hb, hc⟩ := h.bytes p hpl
    obtain ⟨y0, y1⟩ := h.byte _ (List.getElem_mem hpl)
    have R := fun k => (h.drewN k).put (p + 1) (by omega)
    have hs := h.small
    generalize cs[p] = y at *
    have hne : g ≠ b := by omega
    have i1 : (p : Int) < n := by omega
    clear h B
    go_enter Try.func36, Try.ntmps36
    go_wp2
    go_quiet (fail)
    go_wp2
    go_quiet (fail)
    go_wp2
    go_ret
    exact ⟨_, rfl, ⟨y, rfl, y0, y1⟩, (R _).drewN _, (((Kept.refl _ _).drewN _).set _).drewN _⟩
  · obtain rfl : p = n := by omega
    have hs := h.small
    go_enter Try.func36, Try.ntmps36
    go_wp2
    go_quiet (fail)
    go_wp2
    go_ret
    exact ⟨_, rfl, ⟨0, rfl, by decide, by decide⟩, h.drewN _, (Kept.refl _ _).drewN _⟩
set_option maxRecDepth 100000 in
set_option maxHeartbeats 1000000 in
theorem below_any (m : Int) (h2 : 2 ≤ m) (h256 : m ≤ 256) (g : Nat) (ao : Option Addr) (n cap : Nat) (cs : List Int) (w : World) (h : Rdr w g ao n cap cs) :
    Calls Try.prog 22 #[.pointer (some ⟨g, 0, none⟩), .int .i64 m] w (RdP g ao n cap cs (IsIn 0 m) w) := by
  go_enter Try.func22, Try.ntmps22
  go_wp2_with fail
  all_goals first | (exfalso; omega) | skip
  refine (next_any g ao n cap cs _ h).mono ?_
  rintro e w1 ⟨_, rfl, ⟨x, rfl, x0, x1⟩, R, K⟩
  have hm : m ≠ 0 := by omega
  go_wp2
  go_ret
  exact ⟨_, rfl, ⟨x % m, rfl, Int.emod_nonneg _ hm, Int.emod_lt_of_pos _ (by omega)⟩, R, K⟩
theorem or_word {a b : Int} (ha : Word a) (hb : Word b) : Word (bits .or .u64 a b) := by
  obtain ⟨a0, a1⟩ := ha
  obtain ⟨b0, b1⟩ := hb
  obtain ⟨a, rfl⟩ := Int.eq_ofNat_of_zero_le a0
  obtain ⟨b, rfl⟩ := Int.eq_ofNat_of_zero_le b0
  rw [bits_or_u64_nat a b (by omega) (by omega)]
  have := Nat.or_lt_two_pow (n := 64) (x := a) (y := b) (by omega) (by omega)
  exact ⟨by omega, by omega⟩
def IsWord (v : Value) : Prop := ∃ x : Int, v = .int .u64 x ∧ Word x
def IsBool (v : Value) : Prop := ∃ b, v = .bool b
set_option maxRecDepth 100000 in
set_option maxHeartbeats 1000000 in
theorem once_any (m : Int) (h2 : 2 ≤ m) (h256 : m ≤ 256) (g : Nat) (ao : Option Addr) (n cap : Nat) (cs : List Int) (w : World) (h : Rdr w g ao n cap cs) :
    Calls Try.prog 27 #[.pointer (some ⟨g, 0, none⟩), .int .i64 m] w (RdP g ao n cap cs IsBool w) := by
  go_enter Try.func27, Try.ntmps27
  go_wp2_with fail
  refine (below_any m h2 h256 g ao n cap cs _ h).mono ?_
  rintro e w1 ⟨_, rfl, ⟨x, rfl, x0, x1⟩, R, K⟩
  go_wp2
  go_ret
  exact ⟨_, rfl, ⟨_, rfl⟩, R, K⟩
set_option maxRecDepth 100000 in
set_option maxHeartbeats 1000000 in
theorem word_any (g : Nat) (ao : Option Addr) (n cap : Nat) (cs : List Int) (w : World) (h : Rdr w g ao n cap cs) :
    Calls Try.prog 37 #[.pointer (some ⟨g, 0, none⟩)] w (RdP g ao n cap cs IsWord w) := by
  go_enter Try.func37, Try.ntmps37
  go_wp2
  go_loopw [3, 4] (fun o i wr => ∃ (k : Nat) (x : Int), k ≤ 8 ∧ i = .int .i64 k ∧ o = .int .u64 x ∧ Word x ∧ Rdr wr g ao n cap cs ∧ Kept g w wr) (fun _ i _ => 8 - (intOf i).toNat)
  case atStart => exact ⟨0, 0, by omega, rfl, rfl, ⟨by decide, by decide⟩, h, Kept.refl _ _⟩
  case round =>
    clear h
    obtain ⟨k, x, hk, rfl, rfl, hx, R, K⟩ := hrel
    by_cases hk8 : k < 8
    · have i1 : (k : Int) < 8 := by omega
      go_wp2_with fail
      refine (next_any g ao n cap cs _ R).mono ?_
      rintro e w1 ⟨_, rfl, ⟨y, rfl, y0, y1⟩, R1, K1⟩
      replace K := K.trans K1
      clear R K1
      have hy : IntKind.u64.wrap y = y := by rw [IntKind.wrap_u64]; omega
      have OW := or_word (a := IntKind.u64.wrap (x * 256)) (b := y) (by rw [IntKind.wrap_u64]; exact ⟨by omega, by omega⟩) ⟨y0, by omega⟩
      clear hx
      go_wp2
      go_roundw
      case rel => exact ⟨k + 1, _, by omega, by go_num, rfl, OW, R1, K⟩
      case measure => simp [intOf]; omega
    · obtain rfl : k = 8 := by omega
      go_wp2
      go_ret
      exact ⟨_, rfl, ⟨x, rfl, hx⟩, R, K⟩
theorem Rd.kept {w w' : World} {g : Nat} {ao bo : Option Addr} {n cap : Nat} {cs ds : List Int} (h : Rd w bo ds) (R : Rdr w g ao n cap cs) (K : Kept g w w') : Rd w' bo ds := by
  intro i hi
  obtain ⟨b, off, e, hb, hc⟩ := h i hi
  refine ⟨b, off, e, Nat.lt_of_lt_of_le hb K.size, ?_⟩
  by_cases hg : b = g
  · subst hg
    by_cases h1 : off + i = 1
    · exfalso
      obtain ⟨p, _, B⟩ := R.blk
      have := B.c 1 rfl
      rw [h1, this] at hc
      cases hc
    · exact (K.other _ h1 hb).trans hc
  · exact (World.cell?_of_block (w := w) (K.block b hb hg)).trans hc
theorem IsNum.kept {w w' : World} {g : Nat} {ao bo : Option Addr} {n cap m c : Nat} {cs ds : List Int} {s : Bool} {z : Int} {k : Nat} (h : IsNum w s bo m c ds z k) (R : Rdr w g ao n cap cs) (K : Kept g w w') : IsNum w' s bo m c ds z k :=
  ⟨h.neg, h.len, h.cap, h.rd.kept R K, h.nrm, h.val, h.le⟩
end Go.Proofs.Ytpnnpkchogooaaa

/- Numbers of four words drawn from a code: the walk. -/
namespace Go.Proofs.Ytpnnpkchogooaaa
open Go.RowKit
theorem Rdr.setN {w : World} {g : Nat} {ao : Option Addr} {n cap : Nat} {cs : List Int} (h : Rdr w g ao n cap cs) {p : Addr} (hp : g < p.block) (u : Value) : Rdr (w.setCell p u) g ao n cap cs := by
  obtain ⟨q, hq, B⟩ := h.blk
  refine ⟨⟨q, hq, B.setO (by omega) u⟩, fun i hi => ?_, h.len, h.small, h.byte⟩
  obtain ⟨b, off, e, hb, hc⟩ := h.bytes i hi
  exact ⟨b, off, e, hb, (World.cell?_setCell_other _ _ _ _ (by intro e; rw [e] at hp; simp at hp; omega)).trans hc⟩
theorem Kept.setN {g : Nat} {a b : World} (h : Kept g a b) {p : Addr} (hp : a.heap.size ≤ p.block) (hg : g ≠ p.block) (u : Value) : Kept g a (b.setCell p u) :=
  ⟨h.os, h.tape, h.output, by simpa [World.setCell] using h.size, fun k hk hne => (Below.heap_setCell _ _ _ _ (by omega)).trans (h.block k hk hne), fun j hj hl => (World.cell?_setCell_other _ _ _ _ (by intro e; rw [e] at hg; exact hg rfl)).trans (h.other j hj hl)⟩
end Go.Proofs.Ytpnnpkchogooaaa

/- Two numbers drawn from a code: the walks. -/
namespace Go.Proofs.Ytpnnpkchogooaaa
open Go.RowKit
/-- The code as it lies: so many bytes. -/
structure Code (w : World) (ao : Option Addr) (n : Nat) (cs : List Int) : Prop where
  bytes : ∀ i, (h : i < cs.length) → ∃ b off, ao = some ⟨b, off, none⟩ ∧ b < w.heap.size ∧ w.cell? ⟨b, off + i, none⟩ = some (.int .u8 cs[i])
  len : cs.length = n
  small : n ≤ 1048576
  byte : ∀ c ∈ cs, 0 ≤ c ∧ c < 256
theorem Code.below {w w' : World} {ao : Option Addr} {n : Nat} {cs : List Int} (h : Code w ao n cs) (hB : Below w.heap.size w w') : Code w' ao n cs := by
  refine ⟨fun i hi => ?_, h.len, h.small, h.byte⟩
  obtain ⟨b, off, e, hb, hc⟩ := h.bytes i hi
  exact ⟨b, off, e, Nat.lt_of_lt_of_le hb hB.size, (hB.cell (p := ⟨b, off + i, none⟩) hb).trans hc⟩
def OpenP (ao : Option Addr) (n cap : Nat) (cs : List Int) (w : World) (e : Ending) (w' : World) : Prop := ∃ G, e = .returned (.pointer (some ⟨G, 0, none⟩)) ∧ w.heap.size ≤ G ∧ Rdr w' G ao n cap cs ∧ Below w.heap.size w w'
theorem open_any (ao : Option Addr) (n cap : Nat) (cs : List Int) (w : World) (h : Code w ao n cs) :
    Calls Try.prog 12 #[.slice ao n cap] w (OpenP ao n cap cs w) := by
  go_enter Try.func12, Try.ntmps12
  go_wp2
  go_ret
  refine ⟨w.heap.size, rfl, Nat.le_refl _, ⟨⟨0, Nat.zero_le _, Blk.new w [.slice ao n cap, .int .i64 0] 50 rfl⟩, fun i hi => ?_, h.len, h.small, h.byte⟩, (Below.refl _ _).alloc (Nat.le_refl _) _⟩
  obtain ⟨b, off, e, hb, hc⟩ := h.bytes i hi
  exact ⟨b, off, e, hb, cell_alloc hb hc⟩
end Go.Proofs.Ytpnnpkchogooaaa

/- The walk of the model's quotient and rest of numbers with signs. -/
namespace Go.Proofs.Ytpnnpkchogooaaa
open Go.RowKit
end Go.Proofs.Ytpnnpkchogooaaa

/- Fractions: the model's word on whether one is right, and the law over both. -/
namespace Go.Proofs.Ytpnnpkchogooaaa
open Go.RowKit
end Go.Proofs.Ytpnnpkchogooaaa

/- Fractions in their order: the program's and the model's answer, and the law over both. -/
namespace Go.Proofs.Ytpnnpkchogooaaa
open Go.RowKit
end Go.Proofs.Ytpnnpkchogooaaa

/- The walk of a fraction in its lowest terms. -/
namespace Go.Proofs.Ytpnnpkchogooaaa
open Go.RowKit
end Go.Proofs.Ytpnnpkchogooaaa

/- Two numbers of digits laid behind the arguments; the model's tell of a number, its value known. -/
namespace Go.Proofs.Ytpnnpkchogooaaa
open Go.RowKit
theorem IsNum.step {w w' : World} {s : Bool} {ao : Option Addr} {n cap : Nat} {ds : List Int} {z : Int} {k : Nat} (h : IsNum w s ao n cap ds z k) (hb : Below w.heap.size w w') : IsNum w' s ao n cap ds z k := h.below hb
theorem IsNum.alloc {w : World} {s : Bool} {ao : Option Addr} {n cap : Nat} {ds : List Int} {z : Int} {k : Nat} (h : IsNum w s ao n cap ds z k) (o : Obj) : IsNum (w.alloc o) s ao n cap ds z k := h.below ((Below.refl _ _).alloc (Nat.le_refl _) o)
theorem ArgsB.set2 {w W : World} {vss : List (List Value)} (h : ArgsB w W vss) {g : Nat} (hg : w.heap.size + vss.length ≤ g) (v0 v1 : Value) : ArgsB w ((W.setCell ⟨g, 0, none⟩ v0).setCell ⟨g, 1, none⟩ v1) vss := (h.set (by exact hg) _).set (by exact hg) _
theorem Blk.set2 {W : World} {vs : List Value} {v0 v1 : Value} {g g' : Nat} (G : Blk W g' vs) (hg : g' ≠ g) : Blk ((W.setCell ⟨g, 0, none⟩ v0).setCell ⟨g, 1, none⟩ v1) g' vs := (G.setO (by exact hg) _).setO (by exact hg) _
theorem Blk.stored2 {W : World} {g : Nat} {z0 z1 : Value} (G : Blk W g [z0, z1]) (v0 v1 : Value) : Blk ((W.setCell ⟨g, 0, none⟩ v0).setCell ⟨g, 1, none⟩ v1) g [v0, v1] := (G.setI 0 (by simp) v0).setI 1 (by simp) v1
end Go.Proofs.Ytpnnpkchogooaaa

/- The walk of the model's quotient and rest of two numbers of four words. -/
namespace Go.Proofs.Ytpnnpkchogooaaa
open Go.RowKit
end Go.Proofs.Ytpnnpkchogooaaa

/- The walk of the model's fraction in lowest terms. -/
namespace Go.Proofs.Ytpnnpkchogooaaa
open Go.RowKit
/-- Two numbers of digits in one answer. -/
def NumsP (k : Nat) (x y : Int) (w : World) (e : Ending) (w' : World) : Prop :=
  ∃ (s1 : Bool) (o1 : Option Addr) (n1 c1 : Nat) (d1 : List Int) (s2 : Bool) (o2 : Option Addr) (n2 c2 : Nat) (d2 : List Int), e = .returned (.agg #[.bool s1, .slice o1 n1 c1, .bool s2, .slice o2 n2 c2]) ∧ IsNum w' s1 o1 n1 c1 d1 x k ∧ IsNum w' s2 o2 n2 c2 d2 y k ∧ Below w.heap.size w w'
theorem NumsP.drew {k : Nat} {x y : Int} {w w' : World} {e : Ending} (h : NumsP k x y w e w') : NumsP k x y w e w'.drew := by
  obtain ⟨s1, o1, n1, c1, d1, s2, o2, n2, c2, d2, e, N1, N2, hB⟩ := h
  exact ⟨s1, o1, n1, c1, d1, s2, o2, n2, c2, d2, e, N1.drew, N2.drew, hB.drew⟩
/-- The two numbers as they lie in the arguments' places. -/
def CutM (w wx : World) (x y : Int) (k : Nat) : Prop :=
  ∃ (s1 : Bool) (o1 : Option Addr) (n1 c1 : Nat) (d1 : List Int) (s2 : Bool) (o2 : Option Addr) (n2 c2 : Nat) (d2 : List Int), ArgsB w wx [[.bool s1, .slice o1 n1 c1], [.bool s2, .slice o2 n2 c2], [.bool false, .slice none 0 0, .bool false, .slice none 0 0]] ∧ IsNum wx s1 o1 n1 c1 d1 x k ∧ IsNum wx s2 o2 n2 c2 d2 y k
theorem CutM.drew {w W : World} {x y : Int} {k : Nat} (h : CutM w W x y k) : CutM w W.drew x y k := by
  obtain ⟨s1, o1, n1, c1, d1, s2, o2, n2, c2, d2, A, N1, N2⟩ := h
  exact ⟨s1, o1, n1, c1, d1, s2, o2, n2, c2, d2, A.drew, N1.drew, N2.drew⟩
end Go.Proofs.Ytpnnpkchogooaaa

/- Points: the model's numbers of a point, and whether it is right. -/
namespace Go.Proofs.Ytpnnpkchogooaaa
open Go.RowKit
end Go.Proofs.Ytpnnpkchogooaaa

/- Points: the model's word on whether one is right. -/
namespace Go.Proofs.Ytpnnpkchogooaaa
open Go.RowKit
end Go.Proofs.Ytpnnpkchogooaaa

/- Points in their order: the program's walks. -/
namespace Go.Proofs.Ytpnnpkchogooaaa
open Go.RowKit
end Go.Proofs.Ytpnnpkchogooaaa

/- Points in their order: the program's walks. -/
namespace Go.Proofs.Ytpnnpkchogooaaa
open Go.RowKit
end Go.Proofs.Ytpnnpkchogooaaa

/- Points in their order and their turns: the model's walks. -/
namespace Go.Proofs.Ytpnnpkchogooaaa
open Go.RowKit
end Go.Proofs.Ytpnnpkchogooaaa

/- The turn of three points: the model's walk. -/
namespace Go.Proofs.Ytpnnpkchogooaaa
open Go.RowKit
theorem IsNum.set2 {w : World} {s : Bool} {ao : Option Addr} {n cap : Nat} {ds : List Int} {z : Int} {k g : Nat} (h : IsNum w s ao n cap ds z k) {b0 : Bool} {o0 : Option Addr} {n0 c0 : Nat} (G : Blk w g [.bool b0, .slice o0 n0 c0]) (v0 v1 : Value) : IsNum ((w.setCell ⟨g, 0, none⟩ v0).setCell ⟨g, 1, none⟩ v1) s ao n cap ds z k := by
  have h1 := h.setp v0 (G.c 0 rfl) (by intro x e; cases e)
  exact h1.setp v1 ((G.setI 0 (by simp) v0).c 1 rfl) (by intro x e; cases e)
end Go.Proofs.Ytpnnpkchogooaaa

/- The walk of the model's point in lowest terms. -/
namespace Go.Proofs.Ytpnnpkchogooaaa
open Go.RowKit
/-- The three numbers as they lie in the arguments' places. -/
def CutT3 (w wx : World) (x y z : Int) (k : Nat) : Prop :=
  ∃ (s1 : Bool) (o1 : Option Addr) (n1 c1 : Nat) (d1 : List Int) (s2 : Bool) (o2 : Option Addr) (n2 c2 : Nat) (d2 : List Int) (s3 : Bool) (o3 : Option Addr) (n3 c3 : Nat) (d3 : List Int), ArgsB w wx [[.bool s1, .slice o1 n1 c1], [.bool s2, .slice o2 n2 c2], [.bool s3, .slice o3 n3 c3], [.bool false, .slice none 0 0, .bool false, .slice none 0 0, .bool false, .slice none 0 0]] ∧ IsNum wx s1 o1 n1 c1 d1 x k ∧ IsNum wx s2 o2 n2 c2 d2 y k ∧ IsNum wx s3 o3 n3 c3 d3 z k
theorem CutT3.drew {w W : World} {x y z : Int} {k : Nat} (h : CutT3 w W x y z k) : CutT3 w W.drew x y z k := by
  obtain ⟨s1, o1, n1, c1, d1, s2, o2, n2, c2, d2, s3, o3, n3, c3, d3, A, N1, N2, N3⟩ := h
  exact ⟨s1, o1, n1, c1, d1, s2, o2, n2, c2, d2, s3, o3, n3, c3, d3, A.drew, N1.drew, N2.drew, N3.drew⟩
theorem ArgsB.w0 {w W : World} {a0 a1 u0 u1 : Value} {b c r : List Value} (h : ArgsB w W [[a0, a1], b, c, r]) : ArgsB w ((W.setCell ⟨w.heap.size, 0, none⟩ u0).setCell ⟨w.heap.size, 1, none⟩ u1) [[u0, u1], b, c, r] := by
  refine ⟨(h.1.setCell (by simp) _).setCell (by simp) _, fun j vs hj => ?_⟩
  match j, hj with
  | 0, hj => cases hj; exact Blk.stored2 (h.b 0 rfl) _ _
  | 1, hj => cases hj; exact Blk.set2 (h.b 1 rfl) (by omega)
  | 2, hj => cases hj; exact Blk.set2 (h.b 2 rfl) (by omega)
  | 3, hj => cases hj; exact Blk.set2 (h.b 3 rfl) (by omega)
  | j + 4, hj => simp at hj
theorem ArgsB.w1 {w W : World} {a0 a1 u0 u1 : Value} {b c r : List Value} (h : ArgsB w W [b, [a0, a1], c, r]) : ArgsB w ((W.setCell ⟨w.heap.size + 1, 0, none⟩ u0).setCell ⟨w.heap.size + 1, 1, none⟩ u1) [b, [u0, u1], c, r] := by
  refine ⟨(h.1.setCell (by simp) _).setCell (by simp) _, fun j vs hj => ?_⟩
  match j, hj with
  | 0, hj => cases hj; exact Blk.set2 (h.b 0 rfl) (by omega)
  | 1, hj => cases hj; exact Blk.stored2 (h.b 1 rfl) _ _
  | 2, hj => cases hj; exact Blk.set2 (h.b 2 rfl) (by omega)
  | 3, hj => cases hj; exact Blk.set2 (h.b 3 rfl) (by omega)
  | j + 4, hj => simp at hj
theorem ArgsB.w2 {w W : World} {a0 a1 u0 u1 : Value} {b c r : List Value} (h : ArgsB w W [b, c, [a0, a1], r]) : ArgsB w ((W.setCell ⟨w.heap.size + 1 + 1, 0, none⟩ u0).setCell ⟨w.heap.size + 1 + 1, 1, none⟩ u1) [b, c, [u0, u1], r] := by
  refine ⟨(h.1.setCell (by simp; omega) _).setCell (by simp; omega) _, fun j vs hj => ?_⟩
  match j, hj with
  | 0, hj => cases hj; exact Blk.set2 (h.b 0 rfl) (by omega)
  | 1, hj => cases hj; exact Blk.set2 (h.b 1 rfl) (by omega)
  | 2, hj => cases hj; exact Blk.stored2 (h.b 2 rfl) _ _
  | 3, hj => cases hj; exact Blk.set2 (h.b 3 rfl) (by omega)
  | j + 4, hj => simp at hj
end Go.Proofs.Ytpnnpkchogooaaa

/- A point of three numbers: the model's walk. -/
namespace Go.Proofs.Ytpnnpkchogooaaa
open Go.RowKit
end Go.Proofs.Ytpnnpkchogooaaa

/- Points drawn from a code. -/
namespace Go.Proofs.Ytpnnpkchogooaaa
open Go.RowKit
set_option maxRecDepth 100000 in
set_option maxHeartbeats 1000000 in
theorem near_pm (g : Nat) (ao : Option Addr) (n cap : Nat) (cs : List Int) (w : World) (h : Rdr w g ao n cap cs) :
    Calls Try.prog 25 #[.pointer (some ⟨g, 0, none⟩), .int .i64 (-1000000), .int .i64 1000000] w (RdP g ao n cap cs (IsIn (-1000000) 1000001) w) := by
  go_enter Try.func25, Try.ntmps25
  go_wp2_with fail
  refine (below_any 8 (by decide) (by decide) g ao n cap cs _ h).mono ?_
  rintro e w1 ⟨_, rfl, ⟨x, rfl, x0, x1⟩, R, K⟩
  clear h
  by_cases h0 : x = 0
  · subst h0
    go_wp2
    go_ret
    exact ⟨_, rfl, ⟨_, rfl, by decide, by decide⟩, R, K⟩
  · by_cases h1 : x = 1
    · subst h1
      go_wp2
      go_ret
      exact ⟨_, rfl, ⟨_, rfl, by decide, by decide⟩, R, K⟩
    · have e0 : (x == 0) = false := by simpa using h0
      have e1 : (x == 1) = false := by simpa using h1
      go_wp2_with fail
      refine (word_any g ao n cap cs _ R).mono ?_
      rintro e w2 ⟨_, rfl, ⟨y, rfl, y0, y1⟩, R2, K2⟩
      replace K := K.trans K2
      clear R K2
      have hw : IntKind.u64.wrap 2000001 = 2000001 := by rw [IntKind.wrap_u64]; decide
      go_wp2
      go_ret
      exact ⟨_, rfl, ⟨_, rfl, by omega, by omega⟩, R2, K⟩
set_option maxRecDepth 100000 in
set_option maxHeartbeats 1000000 in
theorem near_p6 (g : Nat) (ao : Option Addr) (n cap : Nat) (cs : List Int) (w : World) (h : Rdr w g ao n cap cs) :
    Calls Try.prog 25 #[.pointer (some ⟨g, 0, none⟩), .int .i64 (-6), .int .i64 6] w (RdP g ao n cap cs (IsIn (-6) 7) w) := by
  go_enter Try.func25, Try.ntmps25
  go_wp2_with fail
  refine (below_any 8 (by decide) (by decide) g ao n cap cs _ h).mono ?_
  rintro e w1 ⟨_, rfl, ⟨x, rfl, x0, x1⟩, R, K⟩
  clear h
  by_cases h0 : x = 0
  · subst h0
    go_wp2
    go_ret
    exact ⟨_, rfl, ⟨_, rfl, by decide, by decide⟩, R, K⟩
  · by_cases h1 : x = 1
    · subst h1
      go_wp2
      go_ret
      exact ⟨_, rfl, ⟨_, rfl, by decide, by decide⟩, R, K⟩
    · have e0 : (x == 0) = false := by simpa using h0
      have e1 : (x == 1) = false := by simpa using h1
      go_wp2_with fail
      refine (word_any g ao n cap cs _ R).mono ?_
      rintro e w2 ⟨_, rfl, ⟨y, rfl, y0, y1⟩, R2, K2⟩
      replace K := K.trans K2
      clear R K2
      have hw : IntKind.u64.wrap 13 = 13 := by rw [IntKind.wrap_u64]; decide
      go_wp2
      go_ret
      exact ⟨_, rfl, ⟨_, rfl, by omega, by omega⟩, R2, K⟩
end Go.Proofs.Ytpnnpkchogooaaa

/- Points drawn from a code: the walks. -/
namespace Go.Proofs.Ytpnnpkchogooaaa
open Go.RowKit
/-- A spot of small numbers. -/
def IsSp6 (v : Value) : Prop := ∃ x y : Int, v = .agg #[.int .i64 x, .int .i64 y] ∧ -6 ≤ x ∧ x < 7 ∧ -6 ≤ y ∧ y < 7
set_option maxRecDepth 100000 in
set_option maxHeartbeats 1000000 in
theorem spot_any (g : Nat) (ao : Option Addr) (n cap : Nat) (cs : List Int) (w : World) (h : Rdr w g ao n cap cs) :
    Calls Try.prog 26 #[.pointer (some ⟨g, 0, none⟩)] w (RdP g ao n cap cs IsSp6 w) := by
  have hg := h.lt
  have hne : w.heap.size ≠ g := by omega
  have B := Blk.new w [.int .i64 0, .int .i64 0] 25 rfl
  have R := h.alloc (.cells #[.int .i64 0, .int .i64 0] 25)
  have K := (Kept.refl g w).alloc (.cells #[.int .i64 0, .int .i64 0] 25)
  clear h
  go_enter Try.func26, Try.ntmps26
  go_wp2_with fail
  refine (near_p6 g ao n cap cs _ R).mono ?_
  rintro e w1 ⟨_, rfl, ⟨y, rfl, y0, y1⟩, R1, K1⟩
  replace B := B.kept K1 hne; replace K := K.trans K1
  clear R K1
  have R := R1
  clear R1
  go_wp2_with fail
  refine (near_p6 g ao n cap cs _ R).mono ?_
  rintro e w2 ⟨_, rfl, ⟨y', rfl, y0', y1'⟩, R1, K1⟩
  replace B := B.kept K1 hne; replace K := K.trans K1
  clear R K1
  have R := R1
  clear R1
  have o0 := B.c 0 rfl; have f0 := B.f 0 rfl; have o1 := B.c 1 rfl; have f1 := B.f 1 rfl; have ol := B.lt
  clear B
  go_wp2
  refine bodyPost_ret (v := .agg #[.int .i64 y, .int .i64 y']) (by simp [results, Try.results26, go_sem, o0, o1]) rfl ?_
  exact ⟨_, rfl, ⟨y, y', rfl, y0, y1, y0', y1'⟩, (R.setN (by exact hg) _).setN (by exact hg) _, (K.setN (by simp) (by simp; omega) _).setN (by simp) (by simp; omega) _⟩
end Go.Proofs.Ytpnnpkchogooaaa

/- A point of three numbers: the program's walk. -/
namespace Go.Proofs.Ytpnnpkchogooaaa
open Go.RowKit
end Go.Proofs.Ytpnnpkchogooaaa

/- The middle of two points: the program's walk. -/
namespace Go.Proofs.Ytpnnpkchogooaaa
open Go.RowKit
end Go.Proofs.Ytpnnpkchogooaaa

/- The middle of two points: the model's walk. -/
namespace Go.Proofs.Ytpnnpkchogooaaa
open Go.RowKit
end Go.Proofs.Ytpnnpkchogooaaa

/- Segments drawn from a code. -/
namespace Go.Proofs.Ytpnnpkchogooaaa
open Go.RowKit
/-- A number of sixty-four bits. -/
def I64 (x : Int) : Prop := -9223372036854775808 ≤ x ∧ x ≤ 9223372036854775807
def IsI (v : Value) : Prop := ∃ x : Int, v = .int .i64 x ∧ I64 x
/-- Some segment. -/
def IsSg (v : Value) : Prop := ∃ a b c d : Int, v = .agg #[.int .i64 a, .int .i64 b, .int .i64 c, .int .i64 d] ∧ I64 a ∧ I64 b ∧ I64 c ∧ I64 d
set_option maxRecDepth 100000 in
set_option maxHeartbeats 2000000 in
theorem off_any (g : Nat) (ao : Option Addr) (n cap : Nat) (cs : List Int) (w : World) (R : Rdr w g ao n cap cs) :
    Calls Try.prog 23 #[.pointer (some ⟨g, 0, none⟩), .int .i64 (-1000000), .int .i64 1000000] w (RdP g ao n cap cs IsI w) := by
  go_enter Try.func23, Try.ntmps23
  go_wp2_with fail
  refine (once_any 24 (by decide) (by decide) g ao n cap cs _ R).mono ?_
  rintro e w1 ⟨_, rfl, ⟨b, rfl⟩, R1, K⟩
  clear R
  cases b
  · go_wp2_with fail
    refine (near_pm g ao n cap cs _ R1).mono ?_
    rintro e w2 ⟨_, rfl, ⟨x, rfl, x0, x1⟩, R2, K2⟩
    replace K := K.trans K2
    clear R1 K2
    go_wp2
    go_ret
    exact ⟨_, rfl, ⟨x, rfl, by constructor <;> omega⟩, R2, K⟩
  · have G := Blk.new w1 [.int .i64 (-1000001), .int .i64 1000001, .int .i64 (-9223372036854775808), .int .i64 9223372036854775807] 2 rfl
    rw [show ([.int .i64 (-1000001), .int .i64 1000001, .int .i64 (-9223372036854775808), .int .i64 9223372036854775807] : List Value).toArray = #[.int .i64 (-1000001), .int .i64 1000001, .int .i64 (-9223372036854775808), .int .i64 9223372036854775807] from rfl] at G
    have hgl := R1.lt
    have hgn : w1.heap.size ≠ g := by omega
    have R := R1.alloc (.cells #[.int .i64 (-1000001), .int .i64 1000001, .int .i64 (-9223372036854775808), .int .i64 9223372036854775807] 2)
    replace K := K.alloc (.cells #[.int .i64 (-1000001), .int .i64 1000001, .int .i64 (-9223372036854775808), .int .i64 9223372036854775807] 2)
    clear R1
    go_wp2_with fail
    refine (below_any 4 (by decide) (by decide) g ao n cap cs _ R).mono ?_
    rintro e w6 ⟨_, rfl, ⟨j, rfl, j0, j1⟩, R6, K6⟩
    replace G := G.kept K6 hgn
    replace K := K.trans K6
    obtain ⟨k, rfl⟩ : ∃ k : Nat, j = k := ⟨j.toNat, by omega⟩
    obtain ⟨u, hu, hus⟩ : ∃ u : Int, w6.cell? ⟨w1.heap.size, k, none⟩ = some (.int .i64 u) ∧ I64 u := by
      rcases (by omega : k = 0 ∨ k = 1 ∨ k = 2 ∨ k = 3) with rfl | rfl | rfl | rfl
      · exact ⟨_, G.c 0 rfl, by constructor <;> decide⟩
      · exact ⟨_, G.c 1 rfl, by constructor <;> decide⟩
      · exact ⟨_, G.c 2 rfl, by constructor <;> decide⟩
      · exact ⟨_, G.c 3 rfl, by constructor <;> decide⟩
    clear G R K6
    go_wp2
    go_ret
    exact ⟨_, rfl, ⟨u, rfl, hus⟩, R6, K⟩
theorem segOf_ex (x y u v : Int) (hx : I64 x) (hy : I64 y) (hu : I64 u) (hv : I64 v) : ∃ a b c d k, I64 a ∧ I64 b ∧ I64 c ∧ I64 d ∧ ∀ w, Calls Try.prog 24 #[.agg #[.int .i64 x, .int .i64 y], .agg #[.int .i64 u, .int .i64 v]] w (VP (.tuple #[.agg #[.int .i64 a, .int .i64 b, .int .i64 c, .int .i64 d], .bool k]) w) := by
  have hz : I64 0 := by constructor <;> decide
  refine ⟨_, _, _, _, _, ?_, ?_, ?_, ?_, fun w => specSegOf_any x y u v _ _ _ _ _ _ rfl rfl rfl rfl rfl rfl w⟩
  all_goals
    generalize lessI u v x y = l
    generalize segOk _ _ _ _ = k
    cases k <;> cases l <;> first | exact hz | exact hx | exact hy | exact hu | exact hv
end Go.Proofs.Ytpnnpkchogooaaa

/- Segments drawn from a code: the walk. -/
namespace Go.Proofs.Ytpnnpkchogooaaa
open Go.RowKit
set_option maxRecDepth 100000 in
theorem eqSpo (x y u v : Int) (w : World) : (Op.equalIn 10000 25 (.agg #[.int .i64 x, .int .i64 y]) (.agg #[.int .i64 u, .int .i64 v])).run Try.prog w = .ok (decide (x = u) && decide (y = v)) w := by
  have u3 := Try.underlying2
  have a3 := Try.isAgg2
  have z3 := Try.sizeOf2
  rw [show (10000 : Nat) = 9999 + 1 from rfl, Op.equalIn]
  simp only [Sem.run_bind, run_underlying Try.underlying25, Result.andThen_ok]
  go_simp
  by_cases h3 : x = u
  · subst h3
    by_cases h2 : y = v
    · subst h2
      simp
    · simp [h2]
  · simp [h3]
set_option maxRecDepth 100000 in
set_option maxHeartbeats 8000000 in
theorem seg_any (g : Nat) (ao : Option Addr) (n cap : Nat) (cs : List Int) (w : World) (h : Rdr w g ao n cap cs) :
    Calls Try.prog 13 #[.pointer (some ⟨g, 0, none⟩)] w (RdP g ao n cap cs IsSg w) := by
  have hg := h.lt
  have hne : w.heap.size ≠ g := by omega
  have B := Blk.new w [.int .i64 0, .int .i64 0, .int .i64 0, .int .i64 0] 27 rfl
  rw [show ([.int .i64 0, .int .i64 0, .int .i64 0, .int .i64 0] : List Value).toArray = #[.int .i64 0, .int .i64 0, .int .i64 0, .int .i64 0] from rfl] at B
  have R := h.alloc (.cells #[.int .i64 0, .int .i64 0, .int .i64 0, .int .i64 0] 27)
  have K := (Kept.refl g w).alloc (.cells #[.int .i64 0, .int .i64 0, .int .i64 0, .int .i64 0] 27)
  clear h
  go_enter Try.func13, Try.ntmps13
  go_wp2_with fail
  refine (below_any 20 (by decide) (by decide) g ao n cap cs _ R).mono ?_
  rintro e w1 ⟨_, rfl, ⟨v, rfl, v0, v1⟩, R1, K1⟩
  replace K := K.trans K1
  replace B := B.kept K1 hne
  clear R K1
  have R := R1
  clear R1
  by_cases hv0 : v = 0
  · subst hv0
    go_wp2_with fail
    refine (off_any g ao n cap cs _ R).mono ?_
    rintro e w2 ⟨_, rfl, ⟨a, rfl, ia⟩, R1, K1⟩
    replace K := K.trans K1
    replace B := B.kept K1 hne
    clear R K1
    have R := R1
    clear R1
    go_wp2_with fail
    refine (off_any g ao n cap cs _ R).mono ?_
    rintro e w3 ⟨_, rfl, ⟨b, rfl, ib⟩, R1, K1⟩
    replace K := K.trans K1
    replace B := B.kept K1 hne
    clear R K1
    have R := R1
    clear R1
    go_wp2_with fail
    refine (off_any g ao n cap cs _ R).mono ?_
    rintro e w4 ⟨_, rfl, ⟨c, rfl, ic⟩, R1, K1⟩
    replace K := K.trans K1
    replace B := B.kept K1 hne
    clear R K1
    have R := R1
    clear R1
    go_wp2_with fail
    refine (off_any g ao n cap cs _ R).mono ?_
    rintro e w5 ⟨_, rfl, ⟨d, rfl, id⟩, R1, K1⟩
    replace K := K.trans K1
    replace B := B.kept K1 hne
    clear R K1
    have R := R1
    clear R1
    have o0 := B.c 0 rfl; have f0 := B.f 0 rfl; have o1 := B.c 1 rfl; have f1 := B.f 1 rfl; have o2 := B.c 2 rfl; have f2 := B.f 2 rfl; have o3 := B.c 3 rfl; have f3 := B.f 3 rfl; have ol := B.lt
    clear B
    go_wp2
    refine bodyPost_ret (v := .agg #[.int .i64 a, .int .i64 b, .int .i64 c, .int .i64 d]) (by simp [results, Try.results13, go_sem, o0, o1, o2, o3]) rfl ?_
    exact ⟨_, rfl, ⟨_, _, _, _, rfl, ia, ib, ic, id⟩, (((R.setN (by exact hg) _).setN (by exact hg) _).setN (by exact hg) _).setN (by exact hg) _, (((K.setN (by simp) (by simp; omega) _).setN (by simp) (by simp; omega) _).setN (by simp) (by simp; omega) _).setN (by simp) (by simp; omega) _⟩
  · have b0 : (v == 0) = false := beq_eq_false_iff_ne.2 hv0
    by_cases hv1 : v = 1
    · subst hv1
      go_wp2_with fail
      refine (near_pm g ao n cap cs _ R).mono ?_
      rintro e w2 ⟨_, rfl, ⟨x, rfl, x0, x1⟩, R1, K1⟩
      replace K := K.trans K1
      replace B := B.kept K1 hne
      clear R K1
      have R := R1
      clear R1
      go_wp2_with fail
      refine (near_pm g ao n cap cs _ R).mono ?_
      rintro e w3 ⟨_, rfl, ⟨y, rfl, y0, y1⟩, R1, K1⟩
      replace K := K.trans K1
      replace B := B.kept K1 hne
      clear R K1
      have R := R1
      clear R1
      go_wp2_with fail
      refine (near_pm g ao n cap cs _ R).mono ?_
      rintro e w4 ⟨_, rfl, ⟨u, rfl, u0, u1⟩, R1, K1⟩
      replace K := K.trans K1
      replace B := B.kept K1 hne
      clear R K1
      have R := R1
      clear R1
      go_wp2_with fail
      refine (near_pm g ao n cap cs _ R).mono ?_
      rintro e w5 ⟨_, rfl, ⟨z, rfl, z0, z1⟩, R1, K1⟩
      replace K := K.trans K1
      replace B := B.kept K1 hne
      clear R K1
      have R := R1
      clear R1
      obtain ⟨a, b, c, d, k, ia, ib, ic, id, CS⟩ := segOf_ex x y u z (by constructor <;> omega) (by constructor <;> omega) (by constructor <;> omega) (by constructor <;> omega)
      go_wp2_with fail
      refine (CS _).mono ?_
      rintro e w6 ⟨rfl, hB⟩
      replace R := R.step hB
      replace K := K.trans (Kept.of hB)
      replace B := B.step hB
      clear hB
      clear CS
      have X := Blk.new w6 [.int .i64 a, .int .i64 b, .int .i64 c, .int .i64 d] 27 rfl
      rw [show ([.int .i64 a, .int .i64 b, .int .i64 c, .int .i64 d] : List Value).toArray = #[.int .i64 a, .int .i64 b, .int .i64 c, .int .i64 d] from rfl] at X
      replace R := R.alloc (.cells #[.int .i64 a, .int .i64 b, .int .i64 c, .int .i64 d] 27)
      replace K := K.alloc (.cells #[.int .i64 a, .int .i64 b, .int .i64 c, .int .i64 d] 27)
      replace B := B.alloc (.cells #[.int .i64 a, .int .i64 b, .int .i64 c, .int .i64 d] 27)
      obtain ⟨c0, c1, c2, c3⟩ := X.cs4
      have xl := B.lt
      clear X
      have o0 := B.c 0 rfl; have f0 := B.f 0 rfl; have o1 := B.c 1 rfl; have f1 := B.f 1 rfl; have o2 := B.c 2 rfl; have f2 := B.f 2 rfl; have o3 := B.c 3 rfl; have f3 := B.f 3 rfl; have ol := B.lt
      clear B
      go_wp2
      refine bodyPost_ret (v := .agg #[.int .i64 a, .int .i64 b, .int .i64 c, .int .i64 d]) (by simp [results, Try.results13, go_sem, o0, o1, o2, o3]) rfl ?_
      exact ⟨_, rfl, ⟨_, _, _, _, rfl, ia, ib, ic, id⟩, (((R.setN (by exact hg) _).setN (by exact hg) _).setN (by exact hg) _).setN (by exact hg) _, (((K.setN (by simp) (by simp; omega) _).setN (by simp) (by simp; omega) _).setN (by simp) (by simp; omega) _).setN (by simp) (by simp; omega) _⟩
    · have b1 : (v == 1) = false := beq_eq_false_iff_ne.2 hv1
      by_cases hv2 : v = 2
      · subst hv2
        go_wp2_with fail
        refine (spot_any g ao n cap cs _ R).mono ?_
        rintro e w2 ⟨_, rfl, ⟨x, y, rfl, x0, x1, y0, y1⟩, R1, K1⟩
        replace K := K.trans K1
        replace B := B.kept K1 hne
        clear R K1
        have R := R1
        clear R1
        go_wp2_with fail
        refine (spot_any g ao n cap cs _ R).mono ?_
        rintro e w3 ⟨_, rfl, ⟨u, z, rfl, u0, u1, z0, z1⟩, R1, K1⟩
        replace K := K.trans K1
        replace B := B.kept K1 hne
        clear R K1
        have R := R1
        clear R1
        have o0 := B.c 0 rfl; have f0 := B.f 0 rfl; have o1 := B.c 1 rfl; have f1 := B.f 1 rfl; have o2 := B.c 2 rfl; have f2 := B.f 2 rfl; have o3 := B.c 3 rfl; have f3 := B.f 3 rfl; have ol := B.lt
        clear B
        go_wp2
        refine bodyPost_ret (v := .agg #[.int .i64 x, .int .i64 y, .int .i64 u, .int .i64 z]) (by simp [results, Try.results13, go_sem, o0, o1, o2, o3]) rfl ?_
        exact ⟨_, rfl, ⟨_, _, _, _, rfl, (by constructor <;> omega), (by constructor <;> omega), (by constructor <;> omega), (by constructor <;> omega)⟩, (((R.setN (by exact hg) _).setN (by exact hg) _).setN (by exact hg) _).setN (by exact hg) _, (((K.setN (by simp) (by simp; omega) _).setN (by simp) (by simp; omega) _).setN (by simp) (by simp; omega) _).setN (by simp) (by simp; omega) _⟩
      · have b2 : (v == 2) = false := beq_eq_false_iff_ne.2 hv2
        go_wp2_with fail
        refine (spot_any g ao n cap cs _ R).mono ?_
        rintro e w2 ⟨_, rfl, ⟨x, y, rfl, x0, x1, y0, y1⟩, R1, K1⟩
        replace K := K.trans K1
        replace B := B.kept K1 hne
        clear R K1
        have R := R1
        clear R1
        have gl2 := R.lt
        have hn2 : w2.heap.size ≠ g := by omega
        have X2 := Blk.new w2 [.int .i64 x, .int .i64 y] 25 rfl
        rw [show ([.int .i64 x, .int .i64 y] : List Value).toArray = #[.int .i64 x, .int .i64 y] from rfl] at X2
        replace R := R.alloc (.cells #[.int .i64 x, .int .i64 y] 25)
        replace K := K.alloc (.cells #[.int .i64 x, .int .i64 y] 25)
        replace B := B.alloc (.cells #[.int .i64 x, .int .i64 y] 25)
        go_wp2_with fail
        refine (spot_any g ao n cap cs _ R).mono ?_
        rintro e w3 ⟨_, rfl, ⟨u, z, rfl, u0, u1, z0, z1⟩, R1, K1⟩
        replace K := K.trans K1
        replace B := B.kept K1 hne
        replace X2 := X2.kept K1 hn2
        clear R K1
        have R := R1
        clear R1
        have gl3 := R.lt
        have x2l := X2.lt
        have hwl := B.lt
        have Y2 := X2
        have YB := B
        have YR := R
        have YK := K
        have X3 := Blk.new w3 [.int .i64 u, .int .i64 z] 25 rfl
        rw [show ([.int .i64 u, .int .i64 z] : List Value).toArray = #[.int .i64 u, .int .i64 z] from rfl] at X3
        replace R := R.alloc (.cells #[.int .i64 u, .int .i64 z] 25)
        replace K := K.alloc (.cells #[.int .i64 u, .int .i64 z] 25)
        replace B := B.alloc (.cells #[.int .i64 u, .int .i64 z] 25)
        replace X2 := X2.alloc (.cells #[.int .i64 u, .int .i64 z] 25)
        have E := eqSpo x y u z
        have n32 : ¬ (w3.heap.size = w2.heap.size) := by omega
        have n23 : ¬ (w2.heap.size = w3.heap.size) := by omega
        by_cases he : x = u ∧ y = z
        · rw [decide_eq_true he.1, decide_eq_true he.2] at E
          obtain ⟨e1, e2⟩ := he
          have wr : IntKind.i64.wrap (u + 1) = u + 1 := by rw [IntKind.wrap_i64]; omega
          obtain ⟨p0, p1⟩ := X2.cs2
          obtain ⟨r0, rf0, r1, rf1⟩ := X3.cf2
          have x3l := X3.lt
          obtain ⟨a, b, c, d, k, ia, ib, ic, id, CS⟩ := segOf_ex x y (u + 1) z (by constructor <;> omega) (by constructor <;> omega) (by constructor <;> omega) (by constructor <;> omega)
          clear e1 e2
          go_upto_region 13 with fail
          clear p0 p1 r0 rf0 r1 rf1 X2 X3 E B R K x3l
          have X2 := Y2.alloc (.cells #[.int .i64 (u + 1), .int .i64 z] 25)
          have B := YB.alloc (.cells #[.int .i64 (u + 1), .int .i64 z] 25)
          have R := YR.alloc (.cells #[.int .i64 (u + 1), .int .i64 z] 25)
          have K := YK.alloc (.cells #[.int .i64 (u + 1), .int .i64 z] 25)
          have X3 := Blk.new w3 [.int .i64 (u + 1), .int .i64 z] 25 rfl
          rw [show ([.int .i64 (u + 1), .int .i64 z] : List Value).toArray = #[.int .i64 (u + 1), .int .i64 z] from rfl] at X3
          clear Y2 YB YR YK
          obtain ⟨p0, p1⟩ := X2.cs2
          obtain ⟨r0, r1⟩ := X3.cs2
          go_wp2_with fail
          clear p0 p1 r0 r1 X2 X3
          generalize (w3.alloc (.cells #[.int .i64 (u + 1), .int .i64 z] 25)) = W3 at *
          refine (CS _).mono ?_
          rintro e w4 ⟨rfl, hB⟩
          replace R := R.step hB
          replace K := K.trans (Kept.of hB)
          replace B := B.step hB
          clear hB CS
          have X := Blk.new w4 [.int .i64 a, .int .i64 b, .int .i64 c, .int .i64 d] 27 rfl
          rw [show ([.int .i64 a, .int .i64 b, .int .i64 c, .int .i64 d] : List Value).toArray = #[.int .i64 a, .int .i64 b, .int .i64 c, .int .i64 d] from rfl] at X
          replace R := R.alloc (.cells #[.int .i64 a, .int .i64 b, .int .i64 c, .int .i64 d] 27)
          replace K := K.alloc (.cells #[.int .i64 a, .int .i64 b, .int .i64 c, .int .i64 d] 27)
          replace B := B.alloc (.cells #[.int .i64 a, .int .i64 b, .int .i64 c, .int .i64 d] 27)
          obtain ⟨c0, c1, c2, c3⟩ := X.cs4
          have xl := B.lt
          clear X
          have o0 := B.c 0 rfl; have f0 := B.f 0 rfl; have o1 := B.c 1 rfl; have f1 := B.f 1 rfl; have o2 := B.c 2 rfl; have f2 := B.f 2 rfl; have o3 := B.c 3 rfl; have f3 := B.f 3 rfl; have ol := B.lt
          clear B
          go_wp2
          refine bodyPost_ret (v := .agg #[.int .i64 a, .int .i64 b, .int .i64 c, .int .i64 d]) (by simp [results, Try.results13, go_sem, o0, o1, o2, o3]) rfl ?_
          exact ⟨_, rfl, ⟨_, _, _, _, rfl, ia, ib, ic, id⟩, (((R.setN (by exact hg) _).setN (by exact hg) _).setN (by exact hg) _).setN (by exact hg) _, (((K.setN (by simp) (by simp; omega) _).setN (by simp) (by simp; omega) _).setN (by simp) (by simp; omega) _).setN (by simp) (by simp; omega) _⟩
        · have E' : ∀ w, (Op.equalIn 10000 25 (.agg #[.int .i64 x, .int .i64 y]) (.agg #[.int .i64 u, .int .i64 z])).run Try.prog w = .ok false w := by
            intro w
            rw [E w]
            congr 1
            simp only [Bool.and_eq_false_iff, decide_eq_false_iff_not]
            omega
          obtain ⟨p0, p1⟩ := X2.cs2
          obtain ⟨r0, r1⟩ := X3.cs2
          obtain ⟨a, b, c, d, k, ia, ib, ic, id, CS⟩ := segOf_ex x y u z (by constructor <;> omega) (by constructor <;> omega) (by constructor <;> omega) (by constructor <;> omega)
          clear he E Y2 YB YR YK
          go_wp2_with fail
          clear p0 p1 r0 r1 X2 X3 E'
          generalize (w3.alloc (.cells #[.int .i64 u, .int .i64 z] 25)) = W3 at *
          refine (CS _).mono ?_
          rintro e w4 ⟨rfl, hB⟩
          replace R := R.step hB
          replace K := K.trans (Kept.of hB)
          replace B := B.step hB
          clear hB CS
          have X := Blk.new w4 [.int .i64 a, .int .i64 b, .int .i64 c, .int .i64 d] 27 rfl
          rw [show ([.int .i64 a, .int .i64 b, .int .i64 c, .int .i64 d] : List Value).toArray = #[.int .i64 a, .int .i64 b, .int .i64 c, .int .i64 d] from rfl] at X
          replace R := R.alloc (.cells #[.int .i64 a, .int .i64 b, .int .i64 c, .int .i64 d] 27)
          replace K := K.alloc (.cells #[.int .i64 a, .int .i64 b, .int .i64 c, .int .i64 d] 27)
          replace B := B.alloc (.cells #[.int .i64 a, .int .i64 b, .int .i64 c, .int .i64 d] 27)
          obtain ⟨c0, c1, c2, c3⟩ := X.cs4
          have xl := B.lt
          clear X
          have o0 := B.c 0 rfl; have f0 := B.f 0 rfl; have o1 := B.c 1 rfl; have f1 := B.f 1 rfl; have o2 := B.c 2 rfl; have f2 := B.f 2 rfl; have o3 := B.c 3 rfl; have f3 := B.f 3 rfl; have ol := B.lt
          clear B
          go_wp2
          refine bodyPost_ret (v := .agg #[.int .i64 a, .int .i64 b, .int .i64 c, .int .i64 d]) (by simp [results, Try.results13, go_sem, o0, o1, o2, o3]) rfl ?_
          exact ⟨_, rfl, ⟨_, _, _, _, rfl, ia, ib, ic, id⟩, (((R.setN (by exact hg) _).setN (by exact hg) _).setN (by exact hg) _).setN (by exact hg) _, (((K.setN (by simp) (by simp; omega) _).setN (by simp) (by simp; omega) _).setN (by simp) (by simp; omega) _).setN (by simp) (by simp; omega) _⟩
end Go.Proofs.Ytpnnpkchogooaaa

/- Rows of segments: how they lie, and the walks over them. -/
namespace Go.Proofs.Ytpnnpkchogooaaa
open Go.RowKit
/-- n segments lie behind a slice's address, their numbers by x. -/
def SegIn (w : World) (ao : Option Addr) (n : Nat) (x : Nat → Int) : Prop :=
  ∀ i, i < n → ∃ A off, ao = some ⟨A, off, none⟩ ∧ A < w.heap.size ∧ ∀ j, j < 4 → w.cell? ⟨A, off + i * 4 + j, none⟩ = some (.int .i64 (x (i * 4 + j)))
theorem SegIn.step {w w' : World} {ao : Option Addr} {n : Nat} {x : Nat → Int} (h : SegIn w ao n x) (hB : Below w.heap.size w w') : SegIn w' ao n x := fun i hi => by
  obtain ⟨A, off, e, hA, hc⟩ := h i hi
  exact ⟨A, off, e, Nat.lt_of_lt_of_le hA hB.size, fun j hj => (hB.cell (p := ⟨A, off + i * 4 + j, none⟩) hA).trans (hc j hj)⟩
theorem SegIn.drew {w : World} {ao : Option Addr} {n : Nat} {x : Nat → Int} (h : SegIn w ao n x) : SegIn w.drew ao n x := h
end Go.Proofs.Ytpnnpkchogooaaa

/- Rows of segments of the call's own: how they lie, read and stored. -/
namespace Go.Proofs.Ytpnnpkchogooaaa
open Go.RowKit
theorem ownG_kept {w w' : World} {base n g : Nat} {e : TypeId} {size : Nat} {v : Value} {xs : List Value} (h : w.ownsRow base e size v n xs) (K : Kept g w w') (hg : g < base) : w'.ownsRow base e size v n xs := by
  rcases h with ⟨h0, h1 | ⟨b, cap, cur, h1, h2, h3, h4⟩⟩
  · exact ⟨h0, .inl h1⟩
  · refine ⟨h0, .inr ⟨b, cap, cur, h1, h2, ?_, h4⟩⟩
    rw [K.block b (Array.getElem?_eq_some_iff.1 h3).1 (by omega)]
    exact h3
theorem ownG_step {w w' : World} {base n : Nat} {e : TypeId} {size : Nat} {v : Value} {xs : List Value} (h : w.ownsRow base e size v n xs) (hB : Below w.heap.size w w') : w'.ownsRow base e size v n xs := by
  rcases h with ⟨h0, h1 | ⟨g, cap, cur, h1, h2, h3, h4⟩⟩
  · exact ⟨h0, .inl h1⟩
  · refine ⟨h0, .inr ⟨g, cap, cur, h1, h2, ?_, h4⟩⟩
    rw [hB.block g (Array.getElem?_eq_some_iff.1 h3).1]
    exact h3
theorem ownG_mono {w : World} {b b' n : Nat} {e : TypeId} {size : Nat} {v : Value} {xs : List Value} (h : w.ownsRow b' e size v n xs) (hb : b ≤ b') : w.ownsRow b e size v n xs := by
  rcases h with ⟨h0, h1 | ⟨g, cap, cur, h1, h2, h3⟩⟩
  · exact ⟨h0, .inl h1⟩
  · exact ⟨h0, .inr ⟨g, cap, cur, h1, Nat.le_trans hb h2, h3⟩⟩
theorem ownG_form {w : World} {base n : Nat} {e : TypeId} {size : Nat} {v : Value} {xs : List Value} (h : w.ownsRow base e size v n xs) (hn : 0 < n) : ∃ g cap, v = .slice (some ⟨g, 0, none⟩) n cap ∧ base ≤ g ∧ n ≤ cap ∧ cap ≤ maxLen := by
  rcases h.2 with ⟨_, h0⟩ | ⟨g, cap, cur, hv, hb, _, h1, h2, _⟩
  · omega
  · exact ⟨g, cap, hv, hb, h1, h2⟩
theorem ownG_slice {w : World} {base n : Nat} {e : TypeId} {size : Nat} {v : Value} {xs : List Value} (h : w.ownsRow base e size v n xs) : ∃ ao cap, v = .slice ao n cap := by
  rcases h.2 with ⟨h1, h0⟩ | ⟨g, cap, cur, hv, hb, _⟩
  · subst h0; exact ⟨none, 0, h1⟩
  · exact ⟨_, cap, hv⟩
theorem ownG_blk {w : World} {base g n cap : Nat} {e : TypeId} {size : Nat} {xs : List Value} (h : w.ownsRow base e size (.slice (some ⟨g, 0, none⟩) n cap) n xs) : Blk w g xs := by
  refine ⟨(h.lt g rfl).2, fun i v hi => ⟨?_, ?_⟩⟩
  · have h1 := h.cells rfl i v hi
    have hadd : (⟨g, 0, none⟩ : Addr).add i = ⟨g, i, none⟩ := by unfold Addr.add; split <;> simp_all
    rw [hadd] at h1
    exact h1
  · rcases h.2 with ⟨h', _⟩ | ⟨g', cap', cur, h', _, hg, _⟩
    · cases h'
    · cases h'
      simp [World.frozen?, hg]
theorem ownG_set {w : World} {base g n cap : Nat} {e : TypeId} {size : Nat} {xs : List Value} (h : w.ownsRow base e size (.slice (some ⟨g, 0, none⟩) n cap) n xs) (j : Nat) (u : Value) : (w.setCell ⟨g, j, none⟩ u).ownsRow base e size (.slice (some ⟨g, 0, none⟩) n cap) n (xs.set j u) := by
  refine ⟨by rw [List.length_set]; exact h.1, ?_⟩
  rcases h.2 with ⟨h', _⟩ | ⟨g', cap', cur, h', hb, hg, h1, h2, h3, h4⟩
  · cases h'
  · cases h'
    refine .inr ⟨g, cap, cur.setIfInBounds j u, rfl, hb, ?_, h1, h2, by simpa using h3, ?_⟩
    · simp [World.setCell, Array.getElem?_modify, hg]
    · rw [← h4]
      simp [List.take_set]
/-- A row of the call's own: c segments, their numbers one behind the other. -/
structure SgRow (w : World) (base : Nat) (v : Value) (c : Nat) (L : List Int) : Prop where
  own : w.ownsRow base 27 4 v c (L.map (Value.int .i64))
  i64 : ∀ z ∈ L, I64 z
theorem SgRow.len {w : World} {base : Nat} {v : Value} {c : Nat} {L : List Int} (h : SgRow w base v c L) : L.length = c * 4 := by
  have := h.own.1
  simpa using this
theorem SgRow.in {w : World} {base : Nat} {v : Value} {c : Nat} {L : List Int} (h : SgRow w base v c L) : ∃ ao cap, v = .slice ao c cap ∧ SegIn w ao c (fun i => L.getD i 0) := by
  rcases Nat.eq_zero_or_pos c with h0 | h0
  · subst h0
    obtain ⟨ao, cap, hv⟩ := ownG_slice h.own
    exact ⟨ao, cap, hv, fun i hi => by omega⟩
  · obtain ⟨g, cap, hv, hb, _⟩ := ownG_form h.own h0
    have hl := h.len
    have ho := h.own
    rw [hv] at ho
    have B := ownG_blk ho
    refine ⟨_, cap, hv, fun i hi => ⟨g, 0, rfl, B.lt, fun j hj => ?_⟩⟩
    rw [Nat.zero_add]
    refine B.c (i * 4 + j) ?_
    have hl2 : i * 4 + j < L.length := by omega
    show _ = some (Value.int .i64 (L.getD (i * 4 + j) 0))
    rw [List.getElem?_map, List.getElem?_eq_getElem hl2, List.getD_eq_getElem?_getD, List.getElem?_eq_getElem hl2]
    rfl
/-- The four numbers of one of them. -/
theorem SgRow.four {w : World} {base : Nat} {v : Value} {c : Nat} {L : List Int} (h : SgRow w base v c L) {i : Nat} (hi : i < c) : ∃ g cap a b d e, v = .slice (some ⟨g, 0, none⟩) c cap ∧ base ≤ g ∧ g < w.heap.size ∧ w.cell? ⟨g, i * 4, none⟩ = some (.int .i64 a) ∧ w.cell? ⟨g, i * 4 + 1, none⟩ = some (.int .i64 b) ∧ w.cell? ⟨g, i * 4 + 2, none⟩ = some (.int .i64 d) ∧ w.cell? ⟨g, i * 4 + 3, none⟩ = some (.int .i64 e) ∧ w.cell? ⟨g, i * 4 + 2 + 1, none⟩ = some (.int .i64 e) ∧ I64 a ∧ I64 b ∧ I64 d ∧ I64 e := by
  obtain ⟨g, cap, hv, hb, _⟩ := ownG_form h.own (by omega)
  have hl := h.len
  have ho := h.own
  rw [hv] at ho
  have B := ownG_blk ho
  have hc : ∀ k (hk : k < L.length), w.cell? ⟨g, k, none⟩ = some (.int .i64 L[k]) ∧ I64 L[k] := fun k hk => ⟨B.c k (by rw [List.getElem?_map, List.getElem?_eq_getElem hk]; rfl), h.i64 _ (List.getElem_mem hk)⟩
  have c0 := hc (i * 4) (by omega)
  have c1 := hc (i * 4 + 1) (by omega)
  have c2 := hc (i * 4 + 2) (by omega)
  have c3 := hc (i * 4 + 3) (by omega)
  exact ⟨g, cap, _, _, _, _, hv, hb, B.lt, c0.1, c1.1, c2.1, c3.1, c3.1, c0.2, c1.2, c2.2, c3.2⟩
theorem SgRow.kept {w w' : World} {base : Nat} {v : Value} {c g : Nat} {L : List Int} (h : SgRow w base v c L) (K : Kept g w w') (hg : g < base) : SgRow w' base v c L := ⟨ownG_kept h.own K hg, h.i64⟩
theorem SgRow.step {w w' : World} {base : Nat} {v : Value} {c : Nat} {L : List Int} (h : SgRow w base v c L) (hB : Below w.heap.size w w') : SgRow w' base v c L := ⟨ownG_step h.own hB, h.i64⟩
theorem SgRow.alloc {w : World} {base : Nat} {v : Value} {c : Nat} {L : List Int} (h : SgRow w base v c L) (o : Obj) : SgRow (w.alloc o) base v c L := h.step ((Below.refl _ _).alloc (Nat.le_refl _) o)
theorem SgRow.mono {w : World} {b b' : Nat} {v : Value} {c : Nat} {L : List Int} (h : SgRow w b' v c L) (hb : b ≤ b') : SgRow w b v c L := ⟨ownG_mono h.own hb, h.i64⟩
theorem SgRow.set {w : World} {base g c cap : Nat} {L : List Int} (h : SgRow w base (.slice (some ⟨g, 0, none⟩) c cap) c L) (j : Nat) {u : Int} (hu : I64 u) : SgRow (w.setCell ⟨g, j, none⟩ (.int .i64 u)) base (.slice (some ⟨g, 0, none⟩) c cap) c (L.set j u) := by
  refine ⟨by rw [List.map_set]; exact ownG_set h.own j _, fun z hz => ?_⟩
  rcases List.mem_or_eq_of_mem_set hz with hz | hz
  · exact h.i64 z hz
  · subst hz; exact hu
end Go.Proofs.Ytpnnpkchogooaaa

/- A region that draws its order, by a condition that every operation keeps, whichever comes up: no order is walked. -/
namespace Go.Proofs.Ytpnnpkchogooaaa
variable {P : Program} {ops : Array Oper} {Q : Exit → Act → World → Prop} {md : Region.Mode}
def open_ (l : Array Bool) : Nat := l.toList.countP (fun b => !b)
theorem open_set {l : Array Bool} {i : Nat} (h : l.getD i true = false) : open_ (l.setIfInBounds i true) + 1 = open_ l := by
  obtain ⟨xs⟩ := l
  have hi : i < xs.length := by
    rcases Nat.lt_or_ge i xs.length with h' | h'
    · exact h'
    · simp [Array.getD, Nat.not_lt.2 h'] at h
  have hv : xs[i] = false := by simpa [Array.getD, hi] using h
  have hp : 0 < xs.countP (fun b => !b) := List.countP_pos_iff.2 ⟨xs[i], List.getElem_mem hi, by simp [hv]⟩
  simp only [open_, List.setIfInBounds_toArray, List.countP_set hi, hv]
  simp
  omega
theorem wpAny_inv (J : Array Bool → Act → World → Prop) (hs : ∀ l a w i o, J l a w → l.getD i true = false → ops[i]? = some o → (∀ e ∈ o.after, Region.binds md e = true → l.getD e.on false = true) → wpOp P ops Q i (J (l.setIfInBounds i true)) a w)
    (hd : ∀ l a w, J l a w → Region.ready md ops l = [] → Q .normal a w) : ∀ (fuel : Nat) (l : Array Bool) (a : Act) (w : World), open_ l ≤ fuel → J l a w → wpAny P md ops Q fuel l a w := by
  intro fuel
  induction fuel with
  | zero =>
    intro l a w hf hJ
    have hr : Region.ready md ops l = [] := by
      rw [List.eq_nil_iff_forall_not_mem]
      intro i hi
      have := open_set (mem_ready.1 hi).1
      omega
    exact ⟨hr, hd l a w hJ hr⟩
  | succ fuel ih =>
    intro l a w hf hJ
    refine ⟨fun hr => hd l a w hJ hr, fun i hi => ?_⟩
    obtain ⟨h0, o, ho, hall⟩ := mem_ready.1 hi
    exact wpOp_mono (fun a' w' h' => ih _ a' w' (by have := open_set h0; omega) h') (hs l a w i o hJ h0 ho hall)
theorem wp_region_inv {id : Nat} {a : Act} {w : World} (hm : P.follows .mixedOrders = true) (J : Array Bool → Act → World → Prop)
    (h0 : J (Array.replicate ops.size false) a { w with drawn := w.drawn + 1 })
    (hs : ∀ l a w i o, J l a w → l.getD i true = false → ops[i]? = some o → (∀ e ∈ o.after, Region.binds .any e = true → l.getD e.on false = true) → wpOp P ops Q i (J (l.setIfInBounds i true)) a w)
    (hd : ∀ l a w, J l a w → Region.ready .any ops l = [] → Q .normal a w) : (Code.region id ops true).wp P Q a w :=
  wp_region_any hm (wpAny_inv J hs hd _ _ _ _ (by
    unfold open_
    refine Nat.le_trans List.countP_le_length ?_
    simp) h0)
/-- The operations of a list, each of which waits for none but those ahead of it. -/
def waits (md : Region.Mode) (ops : Array Oper) : List Nat → List Nat → Bool
  | _, [] => true
  | acc, i :: r => ((ops[i]?).map (fun o => o.after.all (fun e => !Region.binds md e || acc.contains e.on))).getD false && waits md ops (i :: acc) r
/-- Where none is ready, all of such a list have come up. -/
theorem listed_of {l : Array Bool} (hr : Region.ready md ops l = []) : ∀ (r acc : List Nat), (∀ k ∈ acc, l.getD k false = true) → waits md ops acc r = true → (∀ k ∈ r, k < l.size) → ∀ k ∈ r, l.getD k false = true
  | [], _, _, _, _ => fun k hk => by simp at hk
  | i :: r, acc, ha, hw, hz => by
    simp only [waits, Bool.and_eq_true] at hw
    obtain ⟨hw1, hw2⟩ := hw
    have hi : l.getD i false = true := by
      cases ho : ops[i]? with
      | none => rw [ho] at hw1; simp at hw1
      | some o =>
        rw [ho] at hw1
        have hall : ∀ e ∈ o.after, Region.binds md e = true → l.getD e.on false = true := fun e he hb => by
          have h2 : o.after.all (fun e => !Region.binds md e || acc.contains e.on) = true := by simpa using hw1
          rw [Array.all_eq_true'] at h2
          have h3 := h2 e he
          rw [hb] at h3
          exact ha _ (by simpa using h3)
        have hz' := hz i (by simp)
        by_cases hc : l.getD i true = false
        · have : i ∈ Region.ready md ops l := mem_ready.2 ⟨hc, o, ho, hall⟩
          rw [hr] at this
          simp at this
        · simpa [Array.getD, hz'] using hc
    intro k hk
    rcases List.mem_cons.1 hk with rfl | hk
    · exact hi
    · exact listed_of hr r (i :: acc) (fun k hk => by
        rcases List.mem_cons.1 hk with rfl | hk
        · exact hi
        · exact ha k hk) hw2 (fun k hk => hz k (by simp [hk])) k hk
/-- One operation that is not guarded: what it does when it is carried out. -/
theorem wpOp_of {i : Nat} {o : Oper} {a : Act} {w : World} {K : Act → World → Prop} (ho : ops[i]? = some o) (hg : o.guard = none) (h : o.wp P a w K Q) : wpOp P ops Q i K a w := by
  unfold wpOp
  simp only [ho]
  have hw : Region.wanted o (yielded ops a.tmps) = true := by unfold Region.wanted; rw [hg]
  rw [if_pos hw]
  exact .inl h
/-- A frame that differs from another one at the told slots alone is that one with these slots put. -/
theorem tmps_fold : ∀ (D : List Nat) (t s : Array Value), t.size = s.size → (∀ d, d ∉ D → t[d]? = s[d]?) → t = D.foldl (fun u d => u.setIfInBounds d (t.getD d undef)) s
  | [], t, s, _, h => Array.ext_getElem? (fun d => h d (by simp))
  | d :: D, t, s, hz, h => by
    rw [List.foldl_cons]
    refine tmps_fold D t _ (by simpa using hz) (fun e he => ?_)
    by_cases hed : e = d
    · subst hed
      rcases Nat.lt_or_ge e t.size with h' | h'
      · simp [Array.getD, h', ← hz]
      · simp [← hz, h']
    · rw [Array.getElem?_setIfInBounds_ne (fun hh => hed hh.symm)]
      exact h e (by simp [hed, he])
theorem put_getD_ne {a : Act} {d e : Nat} {v : Value} (h : d ≠ e) : (a.put (some d) v).tmps.getD e undef = a.tmps.getD e undef := by
  simp [Act.put, Array.getD_eq_getD_getElem?, Array.getElem?_setIfInBounds_ne h]
theorem put_getD_same {a : Act} {d : Nat} {v : Value} (h : d < a.tmps.size) : (a.put (some d) v).tmps.getD d undef = v := by
  simp [Act.put, Array.getD_eq_getD_getElem?, h]
end Go.Proofs.Ytpnnpkchogooaaa

/- Operations that are guarded, in a region that is taken by a condition. -/
namespace Go.Proofs.Ytpnnpkchogooaaa
variable {P : Program} {ops : Array Oper} {Q : Exit → Act → World → Prop}
end Go.Proofs.Ytpnnpkchogooaaa

/- A region that draws its order, by what each slot holds once its operation has come up: the general form. -/
namespace Go.Proofs.Ytpnnpkchogooaaa
open Go.RowKit
variable {P : Program} {ops : Array Oper}
/-- No slot is written by two operations. -/
def distS : List (Option Nat) → Bool
  | [] => true
  | none :: r => distS r
  | some d :: r => !(r.contains (some d)) && distS r
theorem distS_inj : ∀ (S : List (Option Nat)) (i j d : Nat), distS S = true → S[i]? = some (some d) → S[j]? = some (some d) → i = j
  | [], i, _, _, _, h, _ => by simp at h
  | o :: r, i, j, d, hd, hi, hj => by
    have hr : distS r = true := by
      cases o with
      | none => exact hd
      | some d' => simp only [distS, Bool.and_eq_true] at hd; exact hd.2
    have hno : ∀ k, o = some d → r[k]? = some (some d) → False := fun k ho hk => by
      subst ho
      simp only [distS, Bool.and_eq_true, Bool.not_eq_true'] at hd
      have hm : some d ∈ r := List.mem_of_getElem? hk
      rw [← List.contains_iff_mem, hd.1] at hm
      cases hm
    match i, j with
    | 0, 0 => rfl
    | 0, j + 1 => exact (hno j (by simpa using hi) (by simpa using hj)).elim
    | i + 1, 0 => exact (hno i (by simpa using hj) (by simpa using hi)).elim
    | i + 1, j + 1 => exact congrArg (· + 1) (distS_inj r i j d hr (by simpa using hi) (by simpa using hj))
/-- What every operation keeps. -/
def InvQ (B : Nat) (S : List (Option Nat)) (V : Nat → Value → World → Prop) (w0 : World) (a0 : Act) (l : Array Bool) (a : Act) (W : World) : Prop :=
  l.size = S.length ∧ a.tmps.size = a0.tmps.size ∧ a.defers = a0.defers ∧ (∀ e, some e ∉ S → a.tmps[e]? = a0.tmps[e]?) ∧ Below B w0 W ∧ (∀ j d, l.getD j false = true → S[j]? = some (some d) → V j (a.tmps.getD d undef) W) ∧ (∀ j, l.getD j false = true → S[j]? = some none → V j undef W)
theorem getD_set_q {l : Array Bool} {i j : Nat} (h : (l.setIfInBounds i true).getD j false = true) (hne : j ≠ i) : l.getD j false = true := by
  rw [getD_set_ne false (Ne.symm hne)] at h
  exact h
theorem InvQ.put {B : Nat} {S : List (Option Nat)} {V : Nat → Value → World → Prop} {w0 : World} {a0 : Act} {l : Array Bool} {a : Act} {W W' : World} (h : InvQ B S V w0 a0 l a W) (hS : distS S = true) (i d : Nat) (hi : S[i]? = some (some d)) (hlt : d < a0.tmps.size)
    (hW : Below B w0 W') (hT : ∀ j v, V j v W → V j v W') (v : Value) (hv : V i v W') : InvQ B S V w0 a0 (l.setIfInBounds i true) (a.put (some d) v) W' := by
  obtain ⟨h1, h2, h3, h4, h5, h6, h7⟩ := h
  refine ⟨by simpa using h1, by simpa [Act.put] using h2, h3, fun e he => ?_, hW, fun j d' hj hd' => ?_, fun j hj hn => ?_⟩
  · have hne : d ≠ e := fun hh => he (hh ▸ List.mem_of_getElem? hi)
    simp only [Act.put]
    rw [Array.getElem?_setIfInBounds_ne hne]
    exact h4 e he
  · by_cases hji : j = i
    · subst hji
      rw [hi] at hd'
      cases hd'
      rw [put_getD_same (by omega)]
      exact hv
    · have hne : d ≠ d' := fun hh => hji (distS_inj S j i d hS (hh ▸ hd') hi)
      rw [put_getD_ne hne]
      exact hT _ _ (h6 j d' (getD_set_q hj hji) hd')
  · have hji : j ≠ i := fun hh => by subst hh; rw [hi] at hn; cases hn
    exact hT _ _ (h7 j (getD_set_q hj hji) hn)
theorem InvQ.world {B : Nat} {S : List (Option Nat)} {V : Nat → Value → World → Prop} {w0 : World} {a0 : Act} {l : Array Bool} {a : Act} {W W' : World} (h : InvQ B S V w0 a0 l a W) (i : Nat) (hi : S[i]? = some none)
    (hW : Below B w0 W') (hT : ∀ j v, V j v W → V j v W') (hv : V i undef W') : InvQ B S V w0 a0 (l.setIfInBounds i true) a W' := by
  obtain ⟨h1, h2, h3, h4, h5, h6, h7⟩ := h
  refine ⟨by simpa using h1, h2, h3, h4, hW, fun j d hj hd => ?_, fun j hj hn => ?_⟩
  · have hji : j ≠ i := fun hh => by subst hh; rw [hi] at hd; cases hd
    exact hT _ _ (h6 j d (getD_set_q hj hji) hd)
  · by_cases hji : j = i
    · subst hji; exact hv
    · exact hT _ _ (h7 j (getD_set_q hj hji) hn)
/-- A block of so many cells. -/
def BlkN (W : World) (g n : Nat) : Prop := ∃ vs : List Value, vs.length = n ∧ Blk W g vs
theorem BlkN.step {W W' : World} {g n : Nat} (h : BlkN W g n) (hB : Below W.heap.size W W') : BlkN W' g n := by
  obtain ⟨vs, h1, h2⟩ := h
  exact ⟨vs, h1, h2.step hB⟩
theorem Blk.setA {W : World} {g : Nat} {vs : List Value} (h : Blk W g vs) (j : Nat) (u : Value) : Blk (W.setCell ⟨g, j, none⟩ u) g (vs.set j u) := by
  rcases Nat.lt_or_ge j vs.length with hj | hj
  · exact h.setI j hj u
  · refine ⟨by simpa [World.setCell] using h.1, fun i v hi => ?_⟩
    rw [List.set_eq_of_length_le hj] at hi
    have hne : i ≠ j := fun e => by
      subst e
      rw [List.getElem?_eq_none hj] at hi
      cases hi
    exact ⟨(World.cell?_setCell_other _ _ _ _ (by simp)).trans (h.c i hi), by simp [go_sem, h.f i hi]⟩
theorem BlkN.set {W : World} {g n : Nat} (h : BlkN W g n) (g' j : Nat) (u : Value) : BlkN (W.setCell ⟨g', j, none⟩ u) g n := by
  obtain ⟨vs, h1, h2⟩ := h
  by_cases hg : g = g'
  · subst hg
    exact ⟨vs.set j u, by simpa using h1, h2.setA j u⟩
  · exact ⟨vs, h1, h2.setO (p := ⟨g', j, none⟩) hg u⟩
end Go.Proofs.Ytpnnpkchogooaaa

/- A row of segments drawn from a code: a drawn region. -/
namespace Go.Proofs.Ytpnnpkchogooaaa
open Go.RowKit
def VsgX (_GA _GB GR k c cap : Nat) (C a b d e d2 e2 x2 y2 : Int) (_B : Nat) : Nat → Value → World → Prop
  | 0, v, _ => v = .slice (some ⟨GR, 0, none⟩) c cap
  | 1, v, _ => v = .int .i64 C
  | 2, v, _ => v = .int .i64 (k : Nat)
  | 3, v, _ => v = .pointer (some ⟨GR, k * 4, none⟩)
  | 4, v, _ => v = .pointer (some ⟨GR, k * 4, none⟩)
  | 5, v, _ => v = .agg #[.int .i64 a, .int .i64 b]
  | 6, v, _ => v = .slice (some ⟨GR, 0, none⟩) c cap
  | 7, v, _ => v = .int .i64 C
  | 8, v, _ => v = .int .i64 (k : Nat)
  | 9, v, _ => v = .pointer (some ⟨GR, k * 4, none⟩)
  | 10, v, _ => v = .pointer (some ⟨GR, k * 4 + 2, none⟩)
  | 11, v, _ => v = .pointer (some ⟨GR, k * 4 + 2, none⟩)
  | 12, v, _ => v = .int .i64 d
  | 13, v, _ => v = .int .i64 d2
  | 14, v, _ => v = .slice (some ⟨GR, 0, none⟩) c cap
  | 15, v, _ => v = .int .i64 C
  | 16, v, _ => v = .int .i64 (k : Nat)
  | 17, v, _ => v = .pointer (some ⟨GR, k * 4, none⟩)
  | 18, v, _ => v = .pointer (some ⟨GR, k * 4, none⟩)
  | 19, v, _ => v = .pointer (some ⟨GR, k * 4, none⟩)
  | 20, v, _ => v = .int .i64 a
  | 21, v, _ => v = .int .i64 x2
  | 22, v, _ => v = .slice (some ⟨GR, 0, none⟩) c cap
  | 23, v, _ => v = .int .i64 C
  | 24, v, _ => v = .int .i64 (k : Nat)
  | 25, v, _ => v = .pointer (some ⟨GR, k * 4, none⟩)
  | 26, v, _ => v = .pointer (some ⟨GR, k * 4 + 2, none⟩)
  | 27, v, _ => v = .pointer (some ⟨GR, k * 4 + 2 + 1, none⟩)
  | 28, v, _ => v = .int .i64 e
  | 29, v, _ => v = .int .i64 e2
  | 30, v, _ => v = .slice (some ⟨GR, 0, none⟩) c cap
  | 31, v, _ => v = .int .i64 C
  | 32, v, _ => v = .int .i64 (k : Nat)
  | 33, v, _ => v = .pointer (some ⟨GR, k * 4, none⟩)
  | 34, v, _ => v = .pointer (some ⟨GR, k * 4, none⟩)
  | 35, v, _ => v = .pointer (some ⟨GR, k * 4 + 1, none⟩)
  | 36, v, _ => v = .int .i64 b
  | 37, v, _ => v = .int .i64 y2
  | 38, v, _ => v = .agg #[.int .i64 x2, .int .i64 y2]
  | _, _, _ => True
theorem VsgX.mono {GA GB GR k c cap : Nat} {C a b d e d2 e2 x2 y2 : Int} {B j : Nat} {v : Value} {W W2 : World} (_hB : Below W.heap.size W W2) (h : VsgX GA GB GR k c cap C a b d e d2 e2 x2 y2 B j v W) : VsgX GA GB GR k c cap C a b d e d2 e2 x2 y2 B j v W2 := by
  unfold VsgX at *
  split <;> simp only at h <;> first | exact h | trivial
theorem VsgX.same {GA GB GR k c cap : Nat} {C a b d e d2 e2 x2 y2 : Int} {B j : Nat} {v : Value} {W W2 : World} (h : VsgX GA GB GR k c cap C a b d e d2 e2 x2 y2 B j v W) : VsgX GA GB GR k c cap C a b d e d2 e2 x2 y2 B j v W2 := by
  unfold VsgX at *
  split <;> simp only at h <;> first | exact h | trivial
end Go.Proofs.Ytpnnpkchogooaaa

/- A row of segments drawn from a code: the walk. -/
namespace Go.Proofs.Ytpnnpkchogooaaa
open Go.RowKit
theorem SgRow.setO {w : World} {base : Nat} {v : Value} {c : Nat} {L : List Int} (h : SgRow w base v c L) {p : Addr} (hp : ∀ k, v.ownBlock = some k → k ≠ p.block) (u : Value) : SgRow (w.setCell p u) base v c L := by
  refine ⟨?_, h.i64⟩
  rcases h.own with ⟨h0, h1 | ⟨g, cap, cur, h1, h2, h3, h4⟩⟩
  · exact ⟨h0, .inl h1⟩
  · refine ⟨h0, .inr ⟨g, cap, cur, h1, h2, ?_, h4⟩⟩
    rw [Below.heap_setCell _ _ _ _ (by subst h1; exact hp g rfl)]
    exact h3
theorem SgRow.below {w w' : World} {base B : Nat} {v : Value} {c : Nat} {L : List Int} (h : SgRow w base v c L) (hB : Below B w w') (hp : ∀ k, v.ownBlock = some k → k < B) : SgRow w' base v c L := by
  refine ⟨?_, h.i64⟩
  rcases h.own with ⟨h0, h1 | ⟨g, cap, cur, h1, h2, h3, h4⟩⟩
  · exact ⟨h0, .inl h1⟩
  · refine ⟨h0, .inr ⟨g, cap, cur, h1, h2, ?_, h4⟩⟩
    rw [hB.block g (by subst h1; exact hp g rfl)]
    exact h3
theorem rdr_below {w w' : World} {g B : Nat} {ao : Option Addr} {n cap : Nat} {cs : List Int} (h : Rdr w g ao n cap cs) (hB : Below B w w') (hg : g < B) : Rdr w' g ao n cap cs := by
  obtain ⟨p, hp, X⟩ := h.blk
  refine ⟨⟨p, hp, X.below hB hg⟩, fun i hi => ?_, h.len, h.small, h.byte⟩
  obtain ⟨b, off, e, hb, hc⟩ := h.bytes i hi
  exact ⟨b, off, e, hb, (hB.cell (p := ⟨b, off + i, none⟩) (show b < B by omega)).trans hc⟩
theorem kept_below {g B : Nat} {a b c : World} (h : Kept g a b) (hB : Below B b c) (hg : g < B) (ha : a.heap.size ≤ B) : Kept g a c :=
  ⟨hB.os.trans h.os, hB.tape.trans h.tape, hB.output.trans h.output, Nat.le_trans h.size hB.size, fun k hk hne => (hB.block k (by omega)).trans (h.block k hk hne), fun j hj hl => (hB.cell (p := ⟨g, j, none⟩) hg).trans (h.other j hj hl)⟩
end Go.Proofs.Ytpnnpkchogooaaa
