/- Part 12 of the walks that the proof leans on. -/
import Derived.Test.YtlmlpcdpfeaikaaPart11
import Derived.Test.YtlmlpcdpfeaikaaPart4
import Derived.Test.YtlmlpcdpfeaikaaPart2
import Derived.Deep.RegionHeld3
import Derived.Deep.DeepCutAuto
import Derived.Deep.QuietTactic
import Derived.BigQuiet
import Derived.Test.YtlmlpcdpfeaikaaPart6
/- Fractions by their own numbers: what is asked of the program and of the model. -/
namespace Go.Proofs.Ytlmlpcdpfeaikaa
open Go.RowKit
theorem eqWd4 (a3 a2 a1 a0 b3 b2 b1 b0 : Int) (w : World) : (Op.equalIn 9999 26 (.agg #[.int .u64 a3, .int .u64 a2, .int .u64 a1, .int .u64 a0]) (.agg #[.int .u64 b3, .int .u64 b2, .int .u64 b1, .int .u64 b0])).run Try.prog w = .ok (a3 == b3 && a2 == b2 && a1 == b1 && a0 == b0) w := by
  have u3 := Try.underlying24
  have a3' := Try.isAgg24
  have z3 := Try.sizeOf24
  rw [show (9999 : Nat) = 9998 + 1 from rfl, Op.equalIn]
  simp only [Sem.run_bind, run_underlying Try.underlying26, Result.andThen_ok]
  go_simp
  by_cases h3 : a3 = b3
  · subst h3
    by_cases h2 : a2 = b2
    · subst h2
      by_cases h1 : a1 = b1
      · subst h1
        by_cases h0 : a0 = b0
        · subst h0
          simp
        · simp [h0]
      · simp [h1]
    · simp [h2]
  · simp [h3]
theorem eqWdW (x u : Int) (hx : told x = true) (hu : told u = true) (w : World) : (Op.equalIn 9999 26 (W4 x) (W4 u)).run Try.prog w = .ok (decide (x = u)) w := by
  rw [eqWd4]
  congr 1
  rw [Bool.eq_iff_iff]
  simp only [Bool.and_eq_true, beq_iff_eq, decide_eq_true_eq]
  constructor
  · rintro ⟨⟨⟨e3, e2⟩, e1⟩, e0⟩
    rw [← ww_sw hx, ← ww_sw hu, e3, e2, e1, e0]
  · rintro rfl
    exact ⟨⟨⟨rfl, rfl⟩, rfl⟩, rfl⟩
set_option maxRecDepth 100000 in
set_option maxHeartbeats 2000000 in
theorem eqRZ (n d m e : Int) (hn : told n = true) (hd : told d = true) (hm : told m = true) (he : told e = true) (w : World) : (Op.equalIn 10000 28 (RZ n d) (RZ m e)).run Try.prog w = .ok (decide (n = m) && decide (d = e)) w := by
  have E1 := eqWdW n m hn hm
  have E2 := eqWdW d e hd he
  have u3 := Try.underlying26
  have a3 := Try.isAgg26
  have z3 := Try.sizeOf26
  rw [show (10000 : Nat) = 9999 + 1 from rfl, Op.equalIn]
  simp only [Sem.run_bind, run_underlying Try.underlying28, Result.andThen_ok]
  go_simp
  by_cases h1 : n = m
  · by_cases h2 : d = e
    · simp [h1, h2]
    · simp [h1, h2]
  · simp [h1]
theorem addZ_det (n d m e : Int) (hn : told n = true) (hd : told d = true) (hm : told m = true) (he : told e = true) (w : World) : Calls Try.prog 7 #[RZ n d, RZ m e] w (VP (rat2V n d m e (n * e + m * d) (d * e)) w) := by
  obtain ⟨a3, a2, a1, a0⟩ := ww_words n
  obtain ⟨b3, b2, b1, b0⟩ := ww_words d
  obtain ⟨c3, c2, c1, c0⟩ := ww_words m
  obtain ⟨d3, d2, d1, d0⟩ := ww_words e
  have h := implRatioAdd_any (ww3 n) (ww2 n) (ww1 n) (ww0 n) (ww3 d) (ww2 d) (ww1 d) (ww0 d) (ww3 m) (ww2 m) (ww1 m) (ww0 m) (ww3 e) (ww2 e) (ww1 e) (ww0 e) a3 a2 a1 a0 b3 b2 b1 b0 c3 c2 c1 c0 d3 d2 d1 d0 w
  rw [ww_sw hn, ww_sw hd, ww_sw hm, ww_sw he] at h
  exact h
theorem cmpZ_det (n d m e : Int) (hn : told n = true) (hd : told d = true) (hm : told m = true) (he : told e = true) (w : World) : Calls Try.prog 15 #[RZ n d, RZ m e] w (VP (.tuple #[.int .i64 (ratCmp n d m e).1, .bool (ratCmp n d m e).2]) w) := by
  obtain ⟨a3, a2, a1, a0⟩ := ww_words n
  obtain ⟨b3, b2, b1, b0⟩ := ww_words d
  obtain ⟨c3, c2, c1, c0⟩ := ww_words m
  obtain ⟨d3, d2, d1, d0⟩ := ww_words e
  have h := implRatioCmp_any (ww3 n) (ww2 n) (ww1 n) (ww0 n) (ww3 d) (ww2 d) (ww1 d) (ww0 d) (ww3 m) (ww2 m) (ww1 m) (ww0 m) (ww3 e) (ww2 e) (ww1 e) (ww0 e) a3 a2 a1 a0 b3 b2 b1 b0 c3 c2 c1 c0 d3 d2 d1 d0 w
  rw [ww_sw hn, ww_sw hd, ww_sw hm, ww_sw he] at h
  exact h
theorem cmpS_det (n d m e : Int) (hn : told n = true) (hd : told d = true) (hm : told m = true) (he : told e = true) (w : World) : Calls Try.prog 16 #[RZ n d, RZ m e] w (VP (.tuple #[.int .i64 (ratCmp n d m e).1, .bool (ratCmp n d m e).2]) w) := by
  obtain ⟨a3, a2, a1, a0⟩ := ww_words n
  obtain ⟨b3, b2, b1, b0⟩ := ww_words d
  obtain ⟨c3, c2, c1, c0⟩ := ww_words m
  obtain ⟨d3, d2, d1, d0⟩ := ww_words e
  have h := specRatioCmp_any (ww3 n) (ww2 n) (ww1 n) (ww0 n) (ww3 d) (ww2 d) (ww1 d) (ww0 d) (ww3 m) (ww2 m) (ww1 m) (ww0 m) (ww3 e) (ww2 e) (ww1 e) (ww0 e) a3 a2 a1 a0 b3 b2 b1 b0 c3 c2 c1 c0 d3 d2 d1 d0 w
  rw [ww_sw hn, ww_sw hd, ww_sw hm, ww_sw he] at h
  exact h
theorem floorZ_det (n d : Int) (hn : told n = true) (hd : told d = true) (w : World) : Calls Try.prog 18 #[RZ n d] w (VP (floorV n d) w) := by
  obtain ⟨a3, a2, a1, a0⟩ := ww_words n
  obtain ⟨b3, b2, b1, b0⟩ := ww_words d
  have h := implRatioFloor_any (ww3 n) (ww2 n) (ww1 n) (ww0 n) (ww3 d) (ww2 d) (ww1 d) (ww0 d) a3 a2 a1 a0 b3 b2 b1 b0 w
  rw [ww_sw hn, ww_sw hd] at h
  exact h
theorem negZ_det (n : Int) (hn : told n = true) (w : World) : Calls Try.prog 9 #[W4 n] w (VP (tellV (-n)) w) := by
  obtain ⟨a3, a2, a1, a0⟩ := ww_words n
  refine (implNeg_any (ww3 n) (ww2 n) (ww1 n) (ww0 n) a3 a2 a1 a0 w).mono ?_
  intro e w' h
  rw [ww_sw hn] at h
  exact tellP_VP h
theorem plusZ_det (n m : Int) (hn : told n = true) (hm : told m = true) (w : World) : Calls Try.prog 19 #[W4 n, W4 m] w (VP (tellV (n + m)) w) := by
  obtain ⟨a3, a2, a1, a0⟩ := ww_words n
  obtain ⟨b3, b2, b1, b0⟩ := ww_words m
  refine (implAdd_any (ww3 n) (ww2 n) (ww1 n) (ww0 n) (ww3 m) (ww2 m) (ww1 m) (ww0 m) a3 a2 a1 a0 b3 b2 b1 b0 w).mono ?_
  intro e w' h
  rw [ww_sw hn, ww_sw hm] at h
  exact tellP_VP h
/-- What is told, by its own words. -/
theorem tell_ex (z : Int) : ∃ m t, tellV z = .tuple #[W4 m, .bool t] ∧ told m = true ∧ (t = true → m = z) := by
  unfold tellV
  by_cases h : told z = true
  · rw [if_pos h]; exact ⟨z, true, rfl, h, fun _ => rfl⟩
  · rw [if_neg h]; exact ⟨0, false, rfl, by decide, fun h => by cases h⟩
end Go.Proofs.Ytlmlpcdpfeaikaa

/- Numbers drawn from a code: what the walks of the reader share, and its small ones. -/
namespace Go.Proofs.Ytlmlpcdpfeaikaa
open Go.RowKit
/-- No other block has turned than g. -/
structure Kept (g : Nat) (w w' : World) : Prop where
  os : w'.os = w.os
  tape : w'.tape = w.tape
  output : w'.output = w.output
  size : w.heap.size ≤ w'.heap.size
  block : ∀ k, k < w.heap.size → k ≠ g → w'.heap[k]? = w.heap[k]?
  other : ∀ j, j ≠ 1 → g < w.heap.size → w'.cell? ⟨g, j, none⟩ = w.cell? ⟨g, j, none⟩
theorem Kept.refl (g : Nat) (w : World) : Kept g w w := ⟨rfl, rfl, rfl, Nat.le_refl _, fun _ _ _ => rfl, fun _ _ _ => rfl⟩
theorem Kept.trans {g : Nat} {a b c : World} (h : Kept g a b) (k : Kept g b c) : Kept g a c :=
  ⟨k.os.trans h.os, k.tape.trans h.tape, k.output.trans h.output, Nat.le_trans h.size k.size, fun i hi hg => (k.block i (Nat.lt_of_lt_of_le hi h.size) hg).trans (h.block i hi hg), fun j hj hl => (k.other j hj (Nat.lt_of_lt_of_le hl h.size)).trans (h.other j hj hl)⟩
theorem Kept.of {g : Nat} {a b : World} (h : Below a.heap.size a b) : Kept g a b := ⟨h.os, h.tape, h.output, h.size, fun i hi _ => h.block i hi, fun j _ hl => h.cell (p := ⟨g, j, none⟩) hl⟩
theorem Kept.drew {g : Nat} {a b : World} (h : Kept g a b) : Kept g a b.drew := ⟨h.os, h.tape, h.output, h.size, h.block, h.other⟩
theorem Kept.drewN {g : Nat} {a b : World} (h : Kept g a b) (n : Nat) : Kept g a (b.drewN n) := ⟨h.os, h.tape, h.output, h.size, h.block, h.other⟩
theorem Kept.set {g : Nat} {a b : World} (h : Kept g a b) (u : Value) : Kept g a (b.setCell ⟨g, 1, none⟩ u) :=
  ⟨h.os, h.tape, h.output, by simpa [World.setCell] using h.size, fun k hk hg => (Below.heap_setCell _ _ _ _ hg).trans (h.block k hk hg), fun j hj hl => (World.cell?_setCell_other _ _ _ _ (by intro e; simp only [Addr.mk.injEq] at e; omega)).trans (h.other j hj hl)⟩
theorem Kept.alloc {g : Nat} {a b : World} (h : Kept g a b) (o : Obj) : Kept g a (b.alloc o) := h.trans (Kept.of ((Below.refl _ _).alloc (Nat.le_refl _) o))
theorem Kept.below {g B : Nat} {a b : World} (h : Kept g a b) (hB : B ≤ g) (hB' : B ≤ a.heap.size) : Below B a b := ⟨h.os, h.tape, h.output, h.size, fun k hk => h.block k (by omega) (by omega)⟩
theorem Blk.kept {W W' : World} {g h : Nat} {vs : List Value} (H : Blk W h vs) (k : Kept g W W') (hne : h ≠ g) : Blk W' h vs := by
  have e := k.block h H.lt hne
  refine ⟨Nat.lt_of_lt_of_le H.lt k.size, fun i v hi => ⟨?_, ?_⟩⟩
  · exact (World.cell?_of_block (w := W) e).trans (H.c i hi)
  · exact (World.frozen?_of_block (w := W) e).trans (H.f i hi)
/-- The reader lies in the block g, and what it reads lies ahead of it. -/
structure Rdr (w : World) (g : Nat) (ao : Option Addr) (n cap : Nat) (cs : List Int) : Prop where
  blk : ∃ p : Nat, p ≤ n ∧ Blk w g [.slice ao n cap, .int .i64 p]
  bytes : ∀ i, (h : i < cs.length) → ∃ b off, ao = some ⟨b, off, none⟩ ∧ b < g ∧ w.cell? ⟨b, off + i, none⟩ = some (.int .u8 cs[i])
  len : cs.length = n
  small : n ≤ 1048576
  byte : ∀ c ∈ cs, 0 ≤ c ∧ c < 256
theorem Rdr.lt {w : World} {g : Nat} {ao : Option Addr} {n cap : Nat} {cs : List Int} (h : Rdr w g ao n cap cs) : g < w.heap.size := by
  obtain ⟨p, _, B⟩ := h.blk
  exact B.lt
theorem Rdr.step {w w' : World} {g : Nat} {ao : Option Addr} {n cap : Nat} {cs : List Int} (h : Rdr w g ao n cap cs) (hB : Below w.heap.size w w') : Rdr w' g ao n cap cs := by
  obtain ⟨p, hp, B⟩ := h.blk
  refine ⟨⟨p, hp, B.step hB⟩, fun i hi => ?_, h.len, h.small, h.byte⟩
  obtain ⟨b, off, e, hb, hc⟩ := h.bytes i hi
  exact ⟨b, off, e, hb, (hB.cell (p := ⟨b, off + i, none⟩) (show b < w.heap.size by have := B.lt; omega)).trans hc⟩
theorem Rdr.alloc {w : World} {g : Nat} {ao : Option Addr} {n cap : Nat} {cs : List Int} (h : Rdr w g ao n cap cs) (o : Obj) : Rdr (w.alloc o) g ao n cap cs := h.step ((Below.refl _ _).alloc (Nat.le_refl _) o)
theorem Rdr.drew {w : World} {g : Nat} {ao : Option Addr} {n cap : Nat} {cs : List Int} (h : Rdr w g ao n cap cs) : Rdr w.drew g ao n cap cs := ⟨h.blk, h.bytes, h.len, h.small, h.byte⟩
theorem Rdr.drewN {w : World} {g : Nat} {ao : Option Addr} {n cap : Nat} {cs : List Int} (h : Rdr w g ao n cap cs) (k : Nat) : Rdr (w.drewN k) g ao n cap cs := ⟨h.blk, h.bytes, h.len, h.small, h.byte⟩
theorem Rdr.put {w : World} {g : Nat} {ao : Option Addr} {n cap : Nat} {cs : List Int} (h : Rdr w g ao n cap cs) (p : Nat) (hp : p ≤ n) : Rdr (w.setCell ⟨g, 1, none⟩ (.int .i64 p)) g ao n cap cs := by
  obtain ⟨q, hq, B⟩ := h.blk
  refine ⟨⟨p, hp, B.setI 1 (by simp) _⟩, fun i hi => ?_, h.len, h.small, h.byte⟩
  obtain ⟨b, off, e, hb, hc⟩ := h.bytes i hi
  exact ⟨b, off, e, hb, (World.cell?_setCell_other _ _ _ _ (by intro e; simp only [Addr.mk.injEq] at e; omega)).trans hc⟩
/-- What a call of the reader's leaves. -/
def RdP (g : Nat) (ao : Option Addr) (n cap : Nat) (cs : List Int) (Q : Value → Prop) (w : World) (e : Ending) (w' : World) : Prop := ∃ v, e = .returned v ∧ Q v ∧ Rdr w' g ao n cap cs ∧ Kept g w w'
def IsIn (a b : Int) (v : Value) : Prop := ∃ x : Int, v = .int .i64 x ∧ a ≤ x ∧ x < b
set_option maxRecDepth 100000 in
set_option maxHeartbeats 1000000 in
theorem next_any (g : Nat) (ao : Option Addr) (n cap : Nat) (cs : List Int) (w : World) (h : Rdr w g ao n cap cs) :
    Calls Try.prog 86 #[.pointer (some ⟨g, 0, none⟩)] w (RdP g ao n cap cs (IsIn 0 256) w) := by
  obtain ⟨p, hp, B⟩ := h.blk
  have b0 := B.c 0 rfl; have b1 := B.c 1 rfl; have f1 := B.f 1 rfl; have bl := B.lt
  by_cases hq : p < n
  · have hpl : p < cs.length := by rw [h.len]; exact hq
    obtain ⟨b, off, rfl, hb, hc⟩ := h.bytes p hpl
    obtain ⟨y0, y1⟩ := h.byte _ (List.getElem_mem hpl)
    have R := fun k => (h.drewN k).put (p + 1) (by omega)
    have hs := h.small
    generalize cs[p] = y at *
    have hne : g ≠ b := by omega
    have i1 : (p : Int) < n := by omega
    clear h B
    go_enter Try.func86, Try.ntmps86
    go_wp2
    go_quiet (fail)
    go_wp2
    go_quiet (fail)
    go_wp2
    go_ret
    exact ⟨_, rfl, ⟨y, rfl, y0, y1⟩, (R _).drewN _, (((Kept.refl _ _).drewN _).set _).drewN _⟩
  · obtain rfl : p = n := by omega
    have hs := h.small
    go_enter Try.func86, Try.ntmps86
    go_wp2
    go_quiet (fail)
    go_wp2
    go_ret
    exact ⟨_, rfl, ⟨0, rfl, by decide, by decide⟩, h.drewN _, (Kept.refl _ _).drewN _⟩
set_option maxRecDepth 100000 in
set_option maxHeartbeats 1000000 in
theorem below_any (m : Int) (h2 : 2 ≤ m) (h256 : m ≤ 256) (g : Nat) (ao : Option Addr) (n cap : Nat) (cs : List Int) (w : World) (h : Rdr w g ao n cap cs) :
    Calls Try.prog 62 #[.pointer (some ⟨g, 0, none⟩), .int .i64 m] w (RdP g ao n cap cs (IsIn 0 m) w) := by
  go_enter Try.func62, Try.ntmps62
  go_wp2_with fail
  all_goals first | (exfalso; omega) | skip
  refine (next_any g ao n cap cs _ h).mono ?_
  rintro e w1 ⟨_, rfl, ⟨x, rfl, x0, x1⟩, R, K⟩
  have hm : m ≠ 0 := by omega
  go_wp2
  go_ret
  exact ⟨_, rfl, ⟨x % m, rfl, Int.emod_nonneg _ hm, Int.emod_lt_of_pos _ (by omega)⟩, R, K⟩
theorem or_word {a b : Int} (ha : Word a) (hb : Word b) : Word (bits .or .u64 a b) := by
  obtain ⟨a0, a1⟩ := ha
  obtain ⟨b0, b1⟩ := hb
  obtain ⟨a, rfl⟩ := Int.eq_ofNat_of_zero_le a0
  obtain ⟨b, rfl⟩ := Int.eq_ofNat_of_zero_le b0
  rw [bits_or_u64_nat a b (by omega) (by omega)]
  have := Nat.or_lt_two_pow (n := 64) (x := a) (y := b) (by omega) (by omega)
  exact ⟨by omega, by omega⟩
def IsWord (v : Value) : Prop := ∃ x : Int, v = .int .u64 x ∧ Word x
def IsBool (v : Value) : Prop := ∃ b, v = .bool b
set_option maxRecDepth 100000 in
set_option maxHeartbeats 1000000 in
theorem once_any (m : Int) (h2 : 2 ≤ m) (h256 : m ≤ 256) (g : Nat) (ao : Option Addr) (n cap : Nat) (cs : List Int) (w : World) (h : Rdr w g ao n cap cs) :
    Calls Try.prog 33 #[.pointer (some ⟨g, 0, none⟩), .int .i64 m] w (RdP g ao n cap cs IsBool w) := by
  go_enter Try.func33, Try.ntmps33
  go_wp2_with fail
  refine (below_any m h2 h256 g ao n cap cs _ h).mono ?_
  rintro e w1 ⟨_, rfl, ⟨x, rfl, x0, x1⟩, R, K⟩
  go_wp2
  go_ret
  exact ⟨_, rfl, ⟨_, rfl⟩, R, K⟩
set_option maxRecDepth 100000 in
set_option maxHeartbeats 1000000 in
theorem word_any (g : Nat) (ao : Option Addr) (n cap : Nat) (cs : List Int) (w : World) (h : Rdr w g ao n cap cs) :
    Calls Try.prog 72 #[.pointer (some ⟨g, 0, none⟩)] w (RdP g ao n cap cs IsWord w) := by
  go_enter Try.func72, Try.ntmps72
  go_wp2
  go_loopw [3, 4] (fun o i wr => ∃ (k : Nat) (x : Int), k ≤ 8 ∧ i = .int .i64 k ∧ o = .int .u64 x ∧ Word x ∧ Rdr wr g ao n cap cs ∧ Kept g w wr) (fun _ i _ => 8 - (intOf i).toNat)
  case atStart => exact ⟨0, 0, by omega, rfl, rfl, ⟨by decide, by decide⟩, h, Kept.refl _ _⟩
  case round =>
    clear h
    obtain ⟨k, x, hk, rfl, rfl, hx, R, K⟩ := hrel
    by_cases hk8 : k < 8
    · have i1 : (k : Int) < 8 := by omega
      go_wp2_with fail
      refine (next_any g ao n cap cs _ R).mono ?_
      rintro e w1 ⟨_, rfl, ⟨y, rfl, y0, y1⟩, R1, K1⟩
      replace K := K.trans K1
      clear R K1
      have hy : IntKind.u64.wrap y = y := by rw [IntKind.wrap_u64]; omega
      have OW := or_word (a := IntKind.u64.wrap (x * 256)) (b := y) (by rw [IntKind.wrap_u64]; exact ⟨by omega, by omega⟩) ⟨y0, by omega⟩
      clear hx
      go_wp2
      go_roundw
      case rel => exact ⟨k + 1, _, by omega, by go_num, rfl, OW, R1, K⟩
      case measure => simp [intOf]; omega
    · obtain rfl : k = 8 := by omega
      go_wp2
      go_ret
      exact ⟨_, rfl, ⟨x, rfl, hx⟩, R, K⟩
theorem Rd.kept {w w' : World} {g : Nat} {ao bo : Option Addr} {n cap : Nat} {cs ds : List Int} (h : Rd w bo ds) (R : Rdr w g ao n cap cs) (K : Kept g w w') : Rd w' bo ds := by
  intro i hi
  obtain ⟨b, off, e, hb, hc⟩ := h i hi
  refine ⟨b, off, e, Nat.lt_of_lt_of_le hb K.size, ?_⟩
  by_cases hg : b = g
  · subst hg
    by_cases h1 : off + i = 1
    · exfalso
      obtain ⟨p, _, B⟩ := R.blk
      have := B.c 1 rfl
      rw [h1, this] at hc
      cases hc
    · exact (K.other _ h1 hb).trans hc
  · exact (World.cell?_of_block (w := w) (K.block b hb hg)).trans hc
theorem IsNum.kept {w w' : World} {g : Nat} {ao bo : Option Addr} {n cap m c : Nat} {cs ds : List Int} {s : Bool} {z : Int} {k : Nat} (h : IsNum w s bo m c ds z k) (R : Rdr w g ao n cap cs) (K : Kept g w w') : IsNum w' s bo m c ds z k :=
  ⟨h.neg, h.len, h.cap, h.rd.kept R K, h.nrm, h.val, h.le⟩
set_option maxRecDepth 100000 in
set_option maxHeartbeats 1000000 in
theorem near_any (g : Nat) (ao : Option Addr) (n cap : Nat) (cs : List Int) (w : World) (h : Rdr w g ao n cap cs) :
    Calls Try.prog 43 #[.pointer (some ⟨g, 0, none⟩), .int .i64 (-60), .int .i64 60] w (RdP g ao n cap cs (IsIn (-60) 61) w) := by
  go_enter Try.func43, Try.ntmps43
  go_wp2_with fail
  refine (below_any 8 (by decide) (by decide) g ao n cap cs _ h).mono ?_
  rintro e w1 ⟨_, rfl, ⟨x, rfl, x0, x1⟩, R, K⟩
  clear h
  by_cases h0 : x = 0
  · subst h0
    go_wp2
    go_ret
    exact ⟨_, rfl, ⟨_, rfl, by decide, by decide⟩, R, K⟩
  · by_cases h1 : x = 1
    · subst h1
      go_wp2
      go_ret
      exact ⟨_, rfl, ⟨_, rfl, by decide, by decide⟩, R, K⟩
    · have e0 : (x == 0) = false := by simpa using h0
      have e1 : (x == 1) = false := by simpa using h1
      go_wp2_with fail
      refine (word_any g ao n cap cs _ R).mono ?_
      rintro e w2 ⟨_, rfl, ⟨y, rfl, y0, y1⟩, R2, K2⟩
      replace K := K.trans K2
      clear R K2
      have hw : IntKind.u64.wrap 121 = 121 := by rw [IntKind.wrap_u64]; decide
      go_wp2
      go_ret
      exact ⟨_, rfl, ⟨_, rfl, by omega, by omega⟩, R2, K⟩
end Go.Proofs.Ytlmlpcdpfeaikaa

/- Numbers of four words drawn from a code: the walk. -/
namespace Go.Proofs.Ytlmlpcdpfeaikaa
open Go.RowKit
theorem Rdr.setN {w : World} {g : Nat} {ao : Option Addr} {n cap : Nat} {cs : List Int} (h : Rdr w g ao n cap cs) {p : Addr} (hp : g < p.block) (u : Value) : Rdr (w.setCell p u) g ao n cap cs := by
  obtain ⟨q, hq, B⟩ := h.blk
  refine ⟨⟨q, hq, B.setO (by omega) u⟩, fun i hi => ?_, h.len, h.small, h.byte⟩
  obtain ⟨b, off, e, hb, hc⟩ := h.bytes i hi
  exact ⟨b, off, e, hb, (World.cell?_setCell_other _ _ _ _ (by intro e; rw [e] at hp; simp at hp; omega)).trans hc⟩
theorem Kept.setN {g : Nat} {a b : World} (h : Kept g a b) {p : Addr} (hp : a.heap.size ≤ p.block) (hg : g ≠ p.block) (u : Value) : Kept g a (b.setCell p u) :=
  ⟨h.os, h.tape, h.output, by simpa [World.setCell] using h.size, fun k hk hne => (Below.heap_setCell _ _ _ _ (by omega)).trans (h.block k hk hne), fun j hj hl => (World.cell?_setCell_other _ _ _ _ (by intro e; rw [e] at hg; exact hg rfl)).trans (h.other j hj hl)⟩
def IsWide (v : Value) : Prop := ∃ a3 a2 a1 a0 : Int, v = .agg #[.int .u64 a3, .int .u64 a2, .int .u64 a1, .int .u64 a0] ∧ Word a3 ∧ Word a2 ∧ Word a1 ∧ Word a0
theorem wide_done {w W : World} {g : Nat} {ao : Option Addr} {n cap : Nat} {cs : List Int} {a3 a2 a1 a0 : Int} (hg : g < w.heap.size) (R : Rdr W g ao n cap cs) (K : Kept g w W) (h3 : Word a3) (h2 : Word a2) (h1 : Word a1) (h0 : Word a0) {v0 v1 v2 v3 : Value} :
    RdP g ao n cap cs IsWide w (.returned (.agg #[.int .u64 a3, .int .u64 a2, .int .u64 a1, .int .u64 a0])) ((((W.setCell ⟨w.heap.size, 0, none⟩ v0).setCell ⟨w.heap.size, 1, none⟩ v1).setCell ⟨w.heap.size, 2, none⟩ v2).setCell ⟨w.heap.size, 3, none⟩ v3) :=
  ⟨_, rfl, ⟨a3, a2, a1, a0, rfl, h3, h2, h1, h0⟩, (((R.setN hg _).setN hg _).setN hg _).setN hg _, (((K.setN (Nat.le_refl _) (by show g ≠ w.heap.size; omega) _).setN (Nat.le_refl _) (by show g ≠ w.heap.size; omega) _).setN (Nat.le_refl _) (by show g ≠ w.heap.size; omega) _).setN (Nat.le_refl _) (by show g ≠ w.heap.size; omega) _⟩
theorem wide_done2 {w W : World} {g : Nat} {ao : Option Addr} {n cap : Nat} {cs : List Int} {a3 a2 a1 a0 : Int} (hg : g < w.heap.size) (R : Rdr W g ao n cap cs) (K : Kept g w W) (h3 : Word a3) (h2 : Word a2) (h1 : Word a1) (h0 : Word a0) {v0 v1 v2 v3 : Value} {o : Obj} :
    RdP g ao n cap cs IsWide w (.returned (.agg #[.int .u64 a3, .int .u64 a2, .int .u64 a1, .int .u64 a0])) (((((W.setCell ⟨w.heap.size, 0, none⟩ v0).setCell ⟨w.heap.size, 1, none⟩ v1).setCell ⟨w.heap.size, 2, none⟩ v2).setCell ⟨w.heap.size, 3, none⟩ v3).alloc o) := by
  obtain ⟨v, e, q, R', K'⟩ := wide_done (v0 := v0) (v1 := v1) (v2 := v2) (v3 := v3) hg R K h3 h2 h1 h0
  exact ⟨v, e, q, R'.alloc o, K'.alloc o⟩
theorem pick7 {W : World} {G : Nat} (h : Blk W G [.int .i64 0, .int .i64 1, .int .i64 (-1), .int .i64 2, .int .i64 10, .int .i64 (-9223372036854775808), .int .i64 9223372036854775807]) (k : Nat) (hk : k < 7) : ∃ v : Int, W.cell? ⟨G, k, none⟩ = some (.int .i64 v) ∧ -9223372036854775808 ≤ v ∧ v ≤ 9223372036854775807 := by
  rcases (by omega : k = 0 ∨ k = 1 ∨ k = 2 ∨ k = 3 ∨ k = 4 ∨ k = 5 ∨ k = 6) with rfl | rfl | rfl | rfl | rfl | rfl | rfl
  · exact ⟨_, h.c 0 rfl, by decide, by decide⟩
  · exact ⟨_, h.c 1 rfl, by decide, by decide⟩
  · exact ⟨_, h.c 2 rfl, by decide, by decide⟩
  · exact ⟨_, h.c 3 rfl, by decide, by decide⟩
  · exact ⟨_, h.c 4 rfl, by decide, by decide⟩
  · exact ⟨_, h.c 5 rfl, by decide, by decide⟩
  · exact ⟨_, h.c 6 rfl, by decide, by decide⟩
theorem word_div {p : Int} (h : Word p) (k : Nat) : Word (p / 2 ^ k) := by
  have h1 : (0 : Int) ≤ 2 ^ k := by rw [ipow2]; exact Int.natCast_nonneg _
  refine ⟨Int.ediv_nonneg h.1 h1, ?_⟩
  have := Int.ediv_le_self (b := 2 ^ k) h.1
  have := h.2
  omega
theorem tell_words {z : Int} {w w' : World} {e : Ending} (h : TellP z w e w') : ∃ a3 a2 a1 a0 b, e = .returned (.tuple #[.agg #[.int .u64 a3, .int .u64 a2, .int .u64 a1, .int .u64 a0], .bool b]) ∧ Word a3 ∧ Word a2 ∧ Word a1 ∧ Word a0 ∧ Below w.heap.size w w' := by
  obtain ⟨hB, ⟨_, a3, a2, a1, a0, rfl, g3, g2, g1, g0, _⟩ | ⟨_, rfl⟩⟩ := h
  · exact ⟨a3, a2, a1, a0, true, rfl, g3, g2, g1, g0, hB⟩
  · exact ⟨0, 0, 0, 0, false, rfl, ⟨by decide, by decide⟩, ⟨by decide, by decide⟩, ⟨by decide, by decide⟩, ⟨by decide, by decide⟩, hB⟩
set_option maxRecDepth 100000 in
set_option maxHeartbeats 4000000 in
theorem wide_any (g : Nat) (ao : Option Addr) (n cap : Nat) (cs : List Int) (w : World) (h : Rdr w g ao n cap cs) :
    Calls Try.prog 40 #[.pointer (some ⟨g, 0, none⟩)] w (RdP g ao n cap cs IsWide w) := by
  have hg := h.lt
  have hne : w.heap.size ≠ g := by omega
  have B := Blk.new w [.int .u64 0, .int .u64 0, .int .u64 0, .int .u64 0] 26 rfl
  have R := h.alloc (.cells #[.int .u64 0, .int .u64 0, .int .u64 0, .int .u64 0] 26)
  have K := (Kept.refl g w).alloc (.cells #[.int .u64 0, .int .u64 0, .int .u64 0, .int .u64 0] 26)
  clear h
  go_enter Try.func40, Try.ntmps40
  go_wp2_with fail
  refine (below_any 9 (by decide) (by decide) g ao n cap cs _ R).mono ?_
  rintro e w1 ⟨_, rfl, ⟨x, rfl, x0, x1⟩, R1, K1⟩
  replace B := B.kept K1 hne
  replace K := K.trans K1
  clear R K1
  have R := R1
  clear R1
  rcases (by omega : x = 0 ∨ x = 1 ∨ x = 2 ∨ x = 3 ∨ x = 4 ∨ x = 5 ∨ (x = 6 ∨ x = 7 ∨ x = 8)) with rfl | rfl | rfl | rfl | rfl | rfl | hx
  · have G := Blk.new w1 [.int .i64 0, .int .i64 1, .int .i64 (-1), .int .i64 2, .int .i64 10, .int .i64 (-9223372036854775808), .int .i64 9223372036854775807] 2 rfl
    have hG : w1.heap.size ≠ g := by have := R.lt; omega
    replace B := B.alloc (.cells #[.int .i64 0, .int .i64 1, .int .i64 (-1), .int .i64 2, .int .i64 10, .int .i64 (-9223372036854775808), .int .i64 9223372036854775807] 2)
    replace R := R.alloc (.cells #[.int .i64 0, .int .i64 1, .int .i64 (-1), .int .i64 2, .int .i64 10, .int .i64 (-9223372036854775808), .int .i64 9223372036854775807] 2)
    replace K := K.alloc (.cells #[.int .i64 0, .int .i64 1, .int .i64 (-1), .int .i64 2, .int .i64 10, .int .i64 (-9223372036854775808), .int .i64 9223372036854775807] 2)
    go_wp2_with fail
    refine (below_any 7 (by decide) (by decide) g ao n cap cs _ R).mono ?_
    rintro e w2 ⟨_, rfl, ⟨y, rfl, y0, y1⟩, R1, K1⟩
    replace B := B.kept K1 hne
    replace G := G.kept K1 hG
    replace K := K.trans K1
    clear R K1
    have R := R1
    clear R1
    obtain ⟨k, rfl⟩ := Int.eq_ofNat_of_zero_le y0
    obtain ⟨v, hv, v0, v1⟩ := pick7 G k (by omega)
    have k7 : (k : Int) < 7 := y1
    go_wp2_with fail
    refine (specOf_any v _ v0 v1).mono ?_
    rintro e w3 ⟨a3, a2, a1, a0, rfl, g3, g2, g1, g0, -, hB⟩
    replace B := B.step hB
    replace K := K.trans (Kept.of hB)
    replace R := R.step hB
    clear hB
    clear hv G
    have z0 := B.c 0 rfl; have y0 := B.f 0 rfl; have z1 := B.c 1 rfl; have y1 := B.f 1 rfl; have z2 := B.c 2 rfl; have y2 := B.f 2 rfl; have z3 := B.c 3 rfl; have y3 := B.f 3 rfl; have zl := B.lt
    go_wp2
    refine bodyPost_ret (v := .agg #[.int .u64 a3, .int .u64 a2, .int .u64 a1, .int .u64 a0]) (by simp [results, Try.results40, go_sem, z0, z1, z2, z3]) rfl ?_
    exact wide_done hg R K g3 g2 g1 g0
  · have G := Blk.new w1 [.int .u64 9223372036854775808, .int .u64 0, .int .u64 0, .int .u64 0, .int .u64 9223372036854775807, .int .u64 18446744073709551615, .int .u64 18446744073709551615, .int .u64 18446744073709551615, .int .u64 9223372036854775808, .int .u64 0, .int .u64 0, .int .u64 1, .int .u64 4611686018427387904, .int .u64 0, .int .u64 0, .int .u64 0, .int .u64 0, .int .u64 1, .int .u64 0, .int .u64 0, .int .u64 0, .int .u64 0, .int .u64 1, .int .u64 0] 26 rfl
    have hG : w1.heap.size ≠ g := by have := R.lt; omega
    replace B := B.alloc (.cells #[.int .u64 9223372036854775808, .int .u64 0, .int .u64 0, .int .u64 0, .int .u64 9223372036854775807, .int .u64 18446744073709551615, .int .u64 18446744073709551615, .int .u64 18446744073709551615, .int .u64 9223372036854775808, .int .u64 0, .int .u64 0, .int .u64 1, .int .u64 4611686018427387904, .int .u64 0, .int .u64 0, .int .u64 0, .int .u64 0, .int .u64 1, .int .u64 0, .int .u64 0, .int .u64 0, .int .u64 0, .int .u64 1, .int .u64 0] 26)
    replace R := R.alloc (.cells #[.int .u64 9223372036854775808, .int .u64 0, .int .u64 0, .int .u64 0, .int .u64 9223372036854775807, .int .u64 18446744073709551615, .int .u64 18446744073709551615, .int .u64 18446744073709551615, .int .u64 9223372036854775808, .int .u64 0, .int .u64 0, .int .u64 1, .int .u64 4611686018427387904, .int .u64 0, .int .u64 0, .int .u64 0, .int .u64 0, .int .u64 1, .int .u64 0, .int .u64 0, .int .u64 0, .int .u64 0, .int .u64 1, .int .u64 0] 26)
    replace K := K.alloc (.cells #[.int .u64 9223372036854775808, .int .u64 0, .int .u64 0, .int .u64 0, .int .u64 9223372036854775807, .int .u64 18446744073709551615, .int .u64 18446744073709551615, .int .u64 18446744073709551615, .int .u64 9223372036854775808, .int .u64 0, .int .u64 0, .int .u64 1, .int .u64 4611686018427387904, .int .u64 0, .int .u64 0, .int .u64 0, .int .u64 0, .int .u64 1, .int .u64 0, .int .u64 0, .int .u64 0, .int .u64 0, .int .u64 1, .int .u64 0] 26)
    go_wp2_with fail
    refine (below_any 6 (by decide) (by decide) g ao n cap cs _ R).mono ?_
    rintro e w2 ⟨_, rfl, ⟨y, rfl, q0, q1⟩, R1, K1⟩
    replace B := B.kept K1 hne
    replace G := G.kept K1 hG
    replace K := K.trans K1
    clear R K1
    have R := R1
    clear R1
    have z0 := B.c 0 rfl; have y0 := B.f 0 rfl; have z1 := B.c 1 rfl; have y1 := B.f 1 rfl; have z2 := B.c 2 rfl; have y2 := B.f 2 rfl; have z3 := B.c 3 rfl; have y3 := B.f 3 rfl; have zl := B.lt
    have gl := G.lt
    rcases (by omega : y = 0 ∨ y = 1 ∨ y = 2 ∨ y = 3 ∨ y = 4 ∨ y = 5) with rfl | rfl | rfl | rfl | rfl | rfl
    · have c0 := G.c 0 rfl; have c1 := G.c 1 rfl; have c2 := G.c 2 rfl; have c3 := G.c 3 rfl
      clear G
      go_wp2
      refine bodyPost_ret (v := .agg #[.int .u64 9223372036854775808, .int .u64 0, .int .u64 0, .int .u64 0]) (by simp [results, Try.results40, go_sem, z0, z1, z2, z3]) rfl ?_
      exact wide_done hg R K ⟨by decide, by decide⟩ ⟨by decide, by decide⟩ ⟨by decide, by decide⟩ ⟨by decide, by decide⟩
    · have c0 := G.c 4 rfl; have c1 := G.c 5 rfl; have c2 := G.c 6 rfl; have c3 := G.c 7 rfl
      clear G
      go_wp2
      refine bodyPost_ret (v := .agg #[.int .u64 9223372036854775807, .int .u64 18446744073709551615, .int .u64 18446744073709551615, .int .u64 18446744073709551615]) (by simp [results, Try.results40, go_sem, z0, z1, z2, z3]) rfl ?_
      exact wide_done hg R K ⟨by decide, by decide⟩ ⟨by decide, by decide⟩ ⟨by decide, by decide⟩ ⟨by decide, by decide⟩
    · have c0 := G.c 8 rfl; have c1 := G.c 9 rfl; have c2 := G.c 10 rfl; have c3 := G.c 11 rfl
      clear G
      go_wp2
      refine bodyPost_ret (v := .agg #[.int .u64 9223372036854775808, .int .u64 0, .int .u64 0, .int .u64 1]) (by simp [results, Try.results40, go_sem, z0, z1, z2, z3]) rfl ?_
      exact wide_done hg R K ⟨by decide, by decide⟩ ⟨by decide, by decide⟩ ⟨by decide, by decide⟩ ⟨by decide, by decide⟩
    · have c0 := G.c 12 rfl; have c1 := G.c 13 rfl; have c2 := G.c 14 rfl; have c3 := G.c 15 rfl
      clear G
      go_wp2
      refine bodyPost_ret (v := .agg #[.int .u64 4611686018427387904, .int .u64 0, .int .u64 0, .int .u64 0]) (by simp [results, Try.results40, go_sem, z0, z1, z2, z3]) rfl ?_
      exact wide_done hg R K ⟨by decide, by decide⟩ ⟨by decide, by decide⟩ ⟨by decide, by decide⟩ ⟨by decide, by decide⟩
    · have c0 := G.c 16 rfl; have c1 := G.c 17 rfl; have c2 := G.c 18 rfl; have c3 := G.c 19 rfl
      clear G
      go_wp2
      refine bodyPost_ret (v := .agg #[.int .u64 0, .int .u64 1, .int .u64 0, .int .u64 0]) (by simp [results, Try.results40, go_sem, z0, z1, z2, z3]) rfl ?_
      exact wide_done hg R K ⟨by decide, by decide⟩ ⟨by decide, by decide⟩ ⟨by decide, by decide⟩ ⟨by decide, by decide⟩
    · have c0 := G.c 20 rfl; have c1 := G.c 21 rfl; have c2 := G.c 22 rfl; have c3 := G.c 23 rfl
      clear G
      go_wp2
      refine bodyPost_ret (v := .agg #[.int .u64 0, .int .u64 0, .int .u64 1, .int .u64 0]) (by simp [results, Try.results40, go_sem, z0, z1, z2, z3]) rfl ?_
      exact wide_done hg R K ⟨by decide, by decide⟩ ⟨by decide, by decide⟩ ⟨by decide, by decide⟩ ⟨by decide, by decide⟩
  · go_wp2_with fail
    refine (once_any 2 (by decide) (by decide) g ao n cap cs _ R).mono ?_
    rintro e w2 ⟨_, rfl, ⟨b, rfl⟩, R1, K1⟩
    replace B := B.kept K1 hne
    replace K := K.trans K1
    clear R K1
    have R := R1
    clear R1
    have L := Rd.lit w2 (cs := #[.int .u32 1]) (e := 103) (zs := [1]) rfl rfl (by simp [maxLen])
    replace B := B.alloc (.cells #[.int .u32 1] 103)
    replace R := R.alloc (.cells #[.int .u32 1] 103)
    replace K := K.alloc (.cells #[.int .u32 1] 103)
    go_wp2_with fail
    refine (below_any 255 (by decide) (by decide) g ao n cap cs _ R).mono ?_
    rintro e w3 ⟨_, rfl, ⟨y, rfl, y0, y1⟩, R1, K1⟩
    replace B := B.kept K1 hne
    replace L := L.kept R K1
    replace K := K.trans K1
    clear R K1
    have R := R1
    clear R1
    obtain ⟨k, rfl⟩ := Int.eq_ofNat_of_zero_le y0
    go_wp2_with fail
    refine (left_any _ 1 1 k [1] _ rfl (dig_cons.2 ⟨by omega, dig_nil⟩) L (by omega) (by omega)).mono ?_
    rintro e w4 ⟨o1, n1, c1, zs1, rfl, k1, k2, k3, k4, k5, k6, hB⟩
    replace B := B.step hB
    replace K := K.trans (Kept.of hB)
    replace R := R.step hB
    clear hB L
    go_wp2_with fail
    refine (trim_any b o1 n1 c1 zs1 _ k1 k2 k4.1 k6 (by omega)).mono ?_
    rintro e w5 ⟨s2, o2, n2, c2, d2, rfl, l1, l2, l3, l4, l5, l6, l7, hB⟩
    have hv0 := val_nonneg k4.1
    have N : IsNum w5 s2 o2 n2 c2 d2 (if b then -val zs1 else val zs1) 1000 := num_of l1 l2 (by omega) l4 l5 l6 l7 (by cases b <;> simp <;> omega) (by intro hz; cases b <;> simp at hz ⊢ <;> omega)
    replace B := B.step hB
    replace K := K.trans (Kept.of hB)
    replace R := R.step hB
    clear hB k1 k2 k3 k4 k5 k6 l1 l2 l3 l4 l5 l6 l7 hv0
    go_wp2_with fail
    refine (toW_any s2 o2 n2 c2 d2 _ 1000 _ N (by omega)).mono ?_
    intro e w7 hT
    obtain ⟨a3, a2, a1, a0, b', rfl, g3, g2, g1, g0, hB⟩ := tell_words hT
    replace B := B.step hB
    replace K := K.trans (Kept.of hB)
    replace R := R.step hB
    clear hB hT N
    have z0 := B.c 0 rfl; have y0 := B.f 0 rfl; have z1 := B.c 1 rfl; have y1 := B.f 1 rfl; have z2 := B.c 2 rfl; have y2 := B.f 2 rfl; have z3 := B.c 3 rfl; have y3 := B.f 3 rfl; have zl := B.lt
    go_wp2
    refine bodyPost_ret (v := .agg #[.int .u64 a3, .int .u64 a2, .int .u64 a1, .int .u64 a0]) (by simp [results, Try.results40, go_sem, World.cell?_alloc_past, z0, z1, z2, z3, zl]) rfl ?_
    exact wide_done2 hg R K g3 g2 g1 g0
  · go_wp2_with fail
    refine (word_any g ao n cap cs _ R).mono ?_
    rintro e w2 ⟨_, rfl, ⟨a3, rfl, g3⟩, R1, K1⟩
    replace B := B.kept K1 hne
    replace K := K.trans K1
    clear R K1
    have R := R1
    clear R1
    go_wp2_with fail
    refine (word_any g ao n cap cs _ R).mono ?_
    rintro e w3 ⟨_, rfl, ⟨a2, rfl, g2⟩, R1, K1⟩
    replace B := B.kept K1 hne
    replace K := K.trans K1
    clear R K1
    have R := R1
    clear R1
    go_wp2_with fail
    refine (word_any g ao n cap cs _ R).mono ?_
    rintro e w4 ⟨_, rfl, ⟨a1, rfl, g1⟩, R1, K1⟩
    replace B := B.kept K1 hne
    replace K := K.trans K1
    clear R K1
    have R := R1
    clear R1
    go_wp2_with fail
    refine (word_any g ao n cap cs _ R).mono ?_
    rintro e w5 ⟨_, rfl, ⟨a0, rfl, g0⟩, R1, K1⟩
    replace B := B.kept K1 hne
    replace K := K.trans K1
    clear R K1
    have R := R1
    clear R1
    have z0 := B.c 0 rfl; have y0 := B.f 0 rfl; have z1 := B.c 1 rfl; have y1 := B.f 1 rfl; have z2 := B.c 2 rfl; have y2 := B.f 2 rfl; have z3 := B.c 3 rfl; have y3 := B.f 3 rfl; have zl := B.lt
    go_wp2
    refine bodyPost_ret (v := .agg #[.int .u64 a3, .int .u64 a2, .int .u64 a1, .int .u64 a0]) (by simp [results, Try.results40, go_sem, z0, z1, z2, z3]) rfl ?_
    exact wide_done hg R K g3 g2 g1 g0
  · go_wp2_with fail
    refine (word_any g ao n cap cs _ R).mono ?_
    rintro e w2 ⟨_, rfl, ⟨p, rfl, p0, p1⟩, R1, K1⟩
    replace B := B.kept K1 hne
    replace K := K.trans K1
    clear R K1
    have R := R1
    clear R1
    go_wp2_with fail
    refine (below_any 64 (by decide) (by decide) g ao n cap cs _ R).mono ?_
    rintro e w3 ⟨_, rfl, ⟨y, rfl, y0, y1⟩, R1, K1⟩
    replace B := B.kept K1 hne
    replace K := K.trans K1
    clear R K1
    have R := R1
    clear R1
    obtain ⟨k, rfl⟩ := Int.eq_ofNat_of_zero_le y0
    have hk : IntKind.u64.wrap (k : Int) = (k : Int) := by rw [IntKind.wrap_u64]; omega
    go_wp2_with fail
    refine (word_any g ao n cap cs _ R).mono ?_
    rintro e w4 ⟨_, rfl, ⟨a0, rfl, g0⟩, R1, K1⟩
    replace B := B.kept K1 hne
    replace K := K.trans K1
    clear R K1
    have R := R1
    clear R1
    have z0 := B.c 0 rfl; have y0 := B.f 0 rfl; have z1 := B.c 1 rfl; have y1 := B.f 1 rfl; have z2 := B.c 2 rfl; have y2 := B.f 2 rfl; have z3 := B.c 3 rfl; have y3 := B.f 3 rfl; have zl := B.lt
    go_wp2
    refine bodyPost_ret (v := .agg #[.int .u64 0, .int .u64 0, .int .u64 (p / 2 ^ k), .int .u64 a0]) (by simp [results, Try.results40, go_sem, z0, z1, z2, z3]) rfl ?_
    exact wide_done hg R K ⟨by decide, by decide⟩ ⟨by decide, by decide⟩ (word_div ⟨p0, p1⟩ k) g0
  · go_wp2_with fail
    refine (word_any g ao n cap cs _ R).mono ?_
    rintro e w2 ⟨_, rfl, ⟨p, rfl, p0, p1⟩, R1, K1⟩
    replace B := B.kept K1 hne
    replace K := K.trans K1
    clear R K1
    have R := R1
    clear R1
    go_wp2_with fail
    refine (int_any (wrap64 p) _ (by unfold wrap64; omega) (by unfold wrap64; omega)).mono ?_
    rintro e w3 ⟨s1, o1, n1, c1, d1, rfl, N1, hB⟩
    replace B := B.step hB
    replace K := K.trans (Kept.of hB)
    replace R := R.step hB
    clear hB
    go_wp2_with fail
    refine (word_any g ao n cap cs _ R).mono ?_
    rintro e w4 ⟨_, rfl, ⟨q, rfl, q0, q1⟩, R1, K1⟩
    replace B := B.kept K1 hne
    replace N1 := N1.kept R K1
    replace K := K.trans K1
    clear R K1
    have R := R1
    clear R1
    go_wp2_with fail
    refine (int_any (wrap64 q) _ (by unfold wrap64; omega) (by unfold wrap64; omega)).mono ?_
    rintro e w5 ⟨s2, o2, n2, c2, d2, rfl, N2, hB⟩
    replace B := B.step hB
    replace N1 := N1.below hB
    replace K := K.trans (Kept.of hB)
    replace R := R.step hB
    clear hB
    go_wp2_with fail
    refine (mul_any s1 s2 o1 o2 n1 n2 c1 c2 2 d1 d2 _ _ _ N1 N2 (by omega)).mono ?_
    rintro e w6 ⟨s3, o3, n3, c3, d3, rfl, N3, hB⟩
    replace B := B.step hB
    replace K := K.trans (Kept.of hB)
    replace R := R.step hB
    clear hB
    go_wp2_with fail
    refine (toW_any s3 o3 n3 c3 d3 _ (2 + 2) _ N3 (by omega)).mono ?_
    intro e w7 hT
    obtain ⟨a3, a2, a1, a0, b, rfl, g3, g2, g1, g0, hB⟩ := tell_words hT
    replace B := B.step hB
    replace K := K.trans (Kept.of hB)
    replace R := R.step hB
    clear hB hT N1 N2 N3
    have z0 := B.c 0 rfl; have y0 := B.f 0 rfl; have z1 := B.c 1 rfl; have y1 := B.f 1 rfl; have z2 := B.c 2 rfl; have y2 := B.f 2 rfl; have z3 := B.c 3 rfl; have y3 := B.f 3 rfl; have zl := B.lt
    go_wp2
    refine bodyPost_ret (v := .agg #[.int .u64 a3, .int .u64 a2, .int .u64 a1, .int .u64 a0]) (by simp [results, Try.results40, go_sem, World.cell?_alloc_past, z0, z1, z2, z3, zl]) rfl ?_
    exact wide_done2 hg R K g3 g2 g1 g0
  · have e0 : (x == 0) = false := by rw [beq_eq_false_iff_ne]; omega
    have e1 : (x == 1) = false := by rw [beq_eq_false_iff_ne]; omega
    have e2 : (x == 2) = false := by rw [beq_eq_false_iff_ne]; omega
    have e3 : (x == 3) = false := by rw [beq_eq_false_iff_ne]; omega
    have e4 : (x == 4) = false := by rw [beq_eq_false_iff_ne]; omega
    have e5 : (x == 5) = false := by rw [beq_eq_false_iff_ne]; omega
    clear hx
    go_wp2_with fail
    refine (near_any g ao n cap cs _ R).mono ?_
    rintro e w2 ⟨_, rfl, ⟨y, rfl, y0, y1⟩, R1, K1⟩
    replace B := B.kept K1 hne
    replace K := K.trans K1
    clear R K1
    have R := R1
    clear R1
    go_wp2_with fail
    refine (specOf_any y _ (by omega) (by omega)).mono ?_
    rintro e w3 ⟨a3, a2, a1, a0, rfl, g3, g2, g1, g0, -, hB⟩
    replace B := B.step hB
    replace K := K.trans (Kept.of hB)
    replace R := R.step hB
    clear hB
    have z0 := B.c 0 rfl; have y0 := B.f 0 rfl; have z1 := B.c 1 rfl; have y1 := B.f 1 rfl; have z2 := B.c 2 rfl; have y2 := B.f 2 rfl; have z3 := B.c 3 rfl; have y3 := B.f 3 rfl; have zl := B.lt
    go_wp2
    refine bodyPost_ret (v := .agg #[.int .u64 a3, .int .u64 a2, .int .u64 a1, .int .u64 a0]) (by simp [results, Try.results40, go_sem, z0, z1, z2, z3]) rfl ?_
    exact wide_done hg R K g3 g2 g1 g0
end Go.Proofs.Ytlmlpcdpfeaikaa

/- Two numbers drawn from a code: the walks. -/
namespace Go.Proofs.Ytlmlpcdpfeaikaa
open Go.RowKit
/-- The code as it lies: so many bytes. -/
structure Code (w : World) (ao : Option Addr) (n : Nat) (cs : List Int) : Prop where
  bytes : ∀ i, (h : i < cs.length) → ∃ b off, ao = some ⟨b, off, none⟩ ∧ b < w.heap.size ∧ w.cell? ⟨b, off + i, none⟩ = some (.int .u8 cs[i])
  len : cs.length = n
  small : n ≤ 1048576
  byte : ∀ c ∈ cs, 0 ≤ c ∧ c < 256
theorem Code.below {w w' : World} {ao : Option Addr} {n : Nat} {cs : List Int} (h : Code w ao n cs) (hB : Below w.heap.size w w') : Code w' ao n cs := by
  refine ⟨fun i hi => ?_, h.len, h.small, h.byte⟩
  obtain ⟨b, off, e, hb, hc⟩ := h.bytes i hi
  exact ⟨b, off, e, Nat.lt_of_lt_of_le hb hB.size, (hB.cell (p := ⟨b, off + i, none⟩) hb).trans hc⟩
def OpenP (ao : Option Addr) (n cap : Nat) (cs : List Int) (w : World) (e : Ending) (w' : World) : Prop := ∃ G, e = .returned (.pointer (some ⟨G, 0, none⟩)) ∧ w.heap.size ≤ G ∧ Rdr w' G ao n cap cs ∧ Below w.heap.size w w'
theorem open_any (ao : Option Addr) (n cap : Nat) (cs : List Int) (w : World) (h : Code w ao n cs) :
    Calls Try.prog 20 #[.slice ao n cap] w (OpenP ao n cap cs w) := by
  go_enter Try.func20, Try.ntmps20
  go_wp2
  go_ret
  refine ⟨w.heap.size, rfl, Nat.le_refl _, ⟨⟨0, Nat.zero_le _, Blk.new w [.slice ao n cap, .int .i64 0] 73 rfl⟩, fun i hi => ?_, h.len, h.small, h.byte⟩, (Below.refl _ _).alloc (Nat.le_refl _) _⟩
  obtain ⟨b, off, e, hb, hc⟩ := h.bytes i hi
  exact ⟨b, off, e, hb, cell_alloc hb hc⟩
end Go.Proofs.Ytlmlpcdpfeaikaa

/- Fractions drawn from a code. -/
namespace Go.Proofs.Ytlmlpcdpfeaikaa
open Go.RowKit
set_option maxRecDepth 100000 in
set_option maxHeartbeats 1000000 in
theorem near_m20 (g : Nat) (ao : Option Addr) (n cap : Nat) (cs : List Int) (w : World) (h : Rdr w g ao n cap cs) :
    Calls Try.prog 43 #[.pointer (some ⟨g, 0, none⟩), .int .i64 (-20), .int .i64 20] w (RdP g ao n cap cs (IsIn (-20) 21) w) := by
  go_enter Try.func43, Try.ntmps43
  go_wp2_with fail
  refine (below_any 8 (by decide) (by decide) g ao n cap cs _ h).mono ?_
  rintro e w1 ⟨_, rfl, ⟨x, rfl, x0, x1⟩, R, K⟩
  clear h
  by_cases h0 : x = 0
  · subst h0
    go_wp2
    go_ret
    exact ⟨_, rfl, ⟨_, rfl, by decide, by decide⟩, R, K⟩
  · by_cases h1 : x = 1
    · subst h1
      go_wp2
      go_ret
      exact ⟨_, rfl, ⟨_, rfl, by decide, by decide⟩, R, K⟩
    · have e0 : (x == 0) = false := by simpa using h0
      have e1 : (x == 1) = false := by simpa using h1
      go_wp2_with fail
      refine (word_any g ao n cap cs _ R).mono ?_
      rintro e w2 ⟨_, rfl, ⟨y, rfl, y0, y1⟩, R2, K2⟩
      replace K := K.trans K2
      clear R K2
      have hw : IntKind.u64.wrap 41 = 41 := by rw [IntKind.wrap_u64]; decide
      go_wp2
      go_ret
      exact ⟨_, rfl, ⟨_, rfl, by omega, by omega⟩, R2, K⟩
set_option maxRecDepth 100000 in
set_option maxHeartbeats 1000000 in
theorem near_p11 (g : Nat) (ao : Option Addr) (n cap : Nat) (cs : List Int) (w : World) (h : Rdr w g ao n cap cs) :
    Calls Try.prog 43 #[.pointer (some ⟨g, 0, none⟩), .int .i64 0, .int .i64 11] w (RdP g ao n cap cs (IsIn 0 12) w) := by
  go_enter Try.func43, Try.ntmps43
  go_wp2_with fail
  refine (below_any 8 (by decide) (by decide) g ao n cap cs _ h).mono ?_
  rintro e w1 ⟨_, rfl, ⟨x, rfl, x0, x1⟩, R, K⟩
  clear h
  by_cases h0 : x = 0
  · subst h0
    go_wp2
    go_ret
    exact ⟨_, rfl, ⟨_, rfl, by decide, by decide⟩, R, K⟩
  · by_cases h1 : x = 1
    · subst h1
      go_wp2
      go_ret
      exact ⟨_, rfl, ⟨_, rfl, by decide, by decide⟩, R, K⟩
    · have e0 : (x == 0) = false := by simpa using h0
      have e1 : (x == 1) = false := by simpa using h1
      go_wp2_with fail
      refine (word_any g ao n cap cs _ R).mono ?_
      rintro e w2 ⟨_, rfl, ⟨y, rfl, y0, y1⟩, R2, K2⟩
      replace K := K.trans K2
      clear R K2
      have hw : IntKind.u64.wrap 12 = 12 := by rw [IntKind.wrap_u64]; decide
      go_wp2
      go_ret
      exact ⟨_, rfl, ⟨_, rfl, by omega, by omega⟩, R2, K⟩
theorem told_i {x : Int} (h0 : -100 ≤ x) (h1 : x ≤ 100) : told x = true := by
  unfold told
  exact decide_eq_true ⟨by omega, by omega⟩
theorem wideW4 {v : Value} (h : IsWide v) : ∃ x : Int, v = W4 x ∧ told x = true := by
  obtain ⟨a3, a2, a1, a0, rfl, h3, h2, h1, h0⟩ := h
  obtain ⟨f3, f2, f1, f0⟩ := wd_of h3 h2 h1 h0 rfl
  have ht : told (sw a3 a2 a1 a0) = true := by
    unfold told
    exact decide_eq_true (sw_bound h3 h2 h1 h0)
  exact ⟨sw a3 a2 a1 a0, by show _ = Value.agg _; rw [← f3, ← f2, ← f1, ← f0], ht⟩
theorem ofS_det (n d : Int) (hn : told n = true) (hd : told d = true) (w : World) : Calls Try.prog 41 #[W4 n, W4 d] w (VP (ratV n d) w) := by
  obtain ⟨a3, a2, a1, a0⟩ := ww_words n
  obtain ⟨b3, b2, b1, b0⟩ := ww_words d
  have h := specRatioOf_any (ww3 n) (ww2 n) (ww1 n) (ww0 n) (ww3 d) (ww2 d) (ww1 d) (ww0 d) a3 a2 a1 a0 b3 b2 b1 b0 w
  rw [ww_sw hn, ww_sw hd] at h
  exact h
theorem ofW_spec (n : Int) (w : World) (h0 : -9223372036854775808 ≤ n) (h1 : n ≤ 9223372036854775807) : Calls Try.prog 42 #[.int .i64 n] w (VP (W4 n) w) := by
  refine (specOf_any n w h0 h1).mono ?_
  rintro e w' ⟨a3, a2, a1, a0, rfl, g3, g2, g1, g0, hs, hB⟩
  obtain ⟨rfl, rfl, rfl, rfl⟩ := wd_of g3 g2 g1 g0 hs
  exact ⟨rfl, hB⟩
/-- A fraction, whatever its numbers. -/
def IsRt (v : Value) : Prop := ∃ x y : Int, v = RZ x y ∧ told x = true ∧ told y = true
theorem rdr_set8 {W : World} {g gx : Nat} {ao : Option Addr} {n cap : Nat} {cs : List Int} {v0 v1 v2 v3 v4 v5 v6 v7 : Value} (hx : g < gx) (R : Rdr W g ao n cap cs) : Rdr ((((((((W.setCell ⟨gx, 0, none⟩ v0).setCell ⟨gx, 1, none⟩ v1).setCell ⟨gx, 2, none⟩ v2).setCell ⟨gx, 3, none⟩ v3).setCell ⟨gx, 4, none⟩ v4).setCell ⟨gx, 5, none⟩ v5).setCell ⟨gx, 6, none⟩ v6).setCell ⟨gx, 7, none⟩ v7) g ao n cap cs := by
  repeat' (refine Rdr.setN ?_ (by exact hx) _)
  exact R
theorem kept_set8 {w W : World} {g gx : Nat} {v0 v1 v2 v3 v4 v5 v6 v7 : Value} (hm : w.heap.size ≤ gx) (hx : gx ≠ g) (K : Kept g w W) : Kept g w ((((((((W.setCell ⟨gx, 0, none⟩ v0).setCell ⟨gx, 1, none⟩ v1).setCell ⟨gx, 2, none⟩ v2).setCell ⟨gx, 3, none⟩ v3).setCell ⟨gx, 4, none⟩ v4).setCell ⟨gx, 5, none⟩ v5).setCell ⟨gx, 6, none⟩ v6).setCell ⟨gx, 7, none⟩ v7) := by
  repeat' (refine Kept.setN ?_ (by exact hm) (by exact hx.symm) _)
  exact K
theorem rt_done {w W : World} {g : Nat} {ao : Option Addr} {n cap : Nat} {cs : List Int} {a b : Int} (hg : g < w.heap.size) (R : Rdr W g ao n cap cs) (K : Kept g w W) (ta : told a = true) (tb : told b = true) {v0 v1 v2 v3 v4 v5 v6 v7 : Value} :
    RdP g ao n cap cs IsRt w (.returned (RZ a b)) ((((((((W.setCell ⟨w.heap.size, 0, none⟩ v0).setCell ⟨w.heap.size, 1, none⟩ v1).setCell ⟨w.heap.size, 2, none⟩ v2).setCell ⟨w.heap.size, 3, none⟩ v3).setCell ⟨w.heap.size, 4, none⟩ v4).setCell ⟨w.heap.size, 5, none⟩ v5).setCell ⟨w.heap.size, 6, none⟩ v6).setCell ⟨w.heap.size, 7, none⟩ v7) :=
  ⟨_, rfl, ⟨a, b, rfl, ta, tb⟩, rdr_set8 hg R, kept_set8 (Nat.le_refl _) (by omega) K⟩
set_option maxRecDepth 100000 in
set_option maxHeartbeats 4000000 in
theorem ratio_any (g : Nat) (ao : Option Addr) (n cap : Nat) (cs : List Int) (w : World) (h : Rdr w g ao n cap cs) :
    Calls Try.prog 21 #[.pointer (some ⟨g, 0, none⟩)] w (RdP g ao n cap cs IsRt w) := by
  have hg := h.lt
  have hne : w.heap.size ≠ g := by omega
  have B := Blk.new w [.int .u64 0, .int .u64 0, .int .u64 0, .int .u64 0, .int .u64 0, .int .u64 0, .int .u64 0, .int .u64 0] 28 rfl
  have R := h.alloc (.cells #[.int .u64 0, .int .u64 0, .int .u64 0, .int .u64 0, .int .u64 0, .int .u64 0, .int .u64 0, .int .u64 0] 28)
  have K := (Kept.refl g w).alloc (.cells #[.int .u64 0, .int .u64 0, .int .u64 0, .int .u64 0, .int .u64 0, .int .u64 0, .int .u64 0, .int .u64 0] 28)
  have SO := fun n w h0 h1 => ofW_spec n w h0 h1
  clear h
  go_enter Try.func21, Try.ntmps21
  go_wp2_with fail
  refine (once_any 12 (by decide) (by decide) g ao n cap cs _ R).mono ?_
  rintro e w1 ⟨_, rfl, ⟨bb, rfl⟩, R1, K1⟩
  replace B := B.kept K1 hne
  replace K := K.trans K1
  clear R K1
  have R := R1
  clear R1
  cases bb
  · skip
    go_wp2_with fail
    refine (wide_any g ao n cap cs _ R).mono ?_
    rintro e w2 ⟨_, rfl, hv, R1, K1⟩
    replace B := B.kept K1 hne
    replace K := K.trans K1
    clear R K1
    have R := R1
    clear R1
    obtain ⟨x, rfl, tx⟩ := wideW4 hv
    clear hv
    go_wp2_with fail
    refine (wide_any g ao n cap cs _ R).mono ?_
    rintro e w3 ⟨_, rfl, hv, R1, K1⟩
    replace B := B.kept K1 hne
    replace K := K.trans K1
    clear R K1
    have R := R1
    clear R1
    obtain ⟨y, rfl, ty⟩ := wideW4 hv
    clear hv
    have RO := ofS_det x y tx ty
    obtain ⟨a, b, ff, hro, ta, tb, -⟩ := ratV_rz x y
    rw [hro] at RO
    clear hro tx ty
    go_wp2_with fail
    refine (RO _).mono ?_
    rintro e w4 ⟨rfl, hB⟩
    have hx4 := (B.step hB).lt
    replace R := (R.step hB).alloc (.cells #[.int .u64 (ww3 a), .int .u64 (ww2 a), .int .u64 (ww1 a), .int .u64 (ww0 a), .int .u64 (ww3 b), .int .u64 (ww2 b), .int .u64 (ww1 b), .int .u64 (ww0 b)] 28); replace B := (B.step hB).alloc (.cells #[.int .u64 (ww3 a), .int .u64 (ww2 a), .int .u64 (ww1 a), .int .u64 (ww0 a), .int .u64 (ww3 b), .int .u64 (ww2 b), .int .u64 (ww1 b), .int .u64 (ww0 b)] 28); replace K := (K.trans (Kept.of hB)).alloc (.cells #[.int .u64 (ww3 a), .int .u64 (ww2 a), .int .u64 (ww1 a), .int .u64 (ww0 a), .int .u64 (ww3 b), .int .u64 (ww2 b), .int .u64 (ww1 b), .int .u64 (ww0 b)] 28)
    have X := Blk.new w4 [.int .u64 (ww3 a), .int .u64 (ww2 a), .int .u64 (ww1 a), .int .u64 (ww0 a), .int .u64 (ww3 b), .int .u64 (ww2 b), .int .u64 (ww1 b), .int .u64 (ww0 b)] 28 rfl
    have hxl : g < w4.heap.size := by omega
    have hxm : w.heap.size ≤ w4.heap.size := by omega
    have hxg : w4.heap.size ≠ g := by omega
    have hxb : w.heap.size ≠ w4.heap.size := by omega
    clear hB RO
    cases ff
    · go_wp2_with fail
      generalize w4.alloc (.cells #[.int .u64 (ww3 a), .int .u64 (ww2 a), .int .u64 (ww1 a), .int .u64 (ww0 a), .int .u64 (ww3 b), .int .u64 (ww2 b), .int .u64 (ww1 b), .int .u64 (ww0 b)] 28) = W4' at *
      generalize w4.heap.size = gx at *
      go_wp2_with fail
      refine (near_m20 g ao n cap cs _ R).mono ?_
      rintro e p1 ⟨_, rfl, ⟨na, rfl, na0, na1⟩, R1, K1⟩
      replace B := B.kept K1 hne
      replace X := X.kept K1 hxg
      replace K := K.trans K1
      clear R K1
      have R := R1
      clear R1
      go_wp2_with fail
      refine (SO na _ (by omega) (by omega)).mono ?_
      rintro e q1 ⟨rfl, hB⟩
      replace R := R.step hB; replace B := B.step hB; replace X := X.step hB; replace K := K.trans (Kept.of hB)
      clear hB
      go_wp2_with fail
      refine (near_p11 g ao n cap cs _ R).mono ?_
      rintro e r1 ⟨_, rfl, ⟨nb, rfl, nb0, nb1⟩, R1, K1⟩
      replace B := B.kept K1 hne
      replace X := X.kept K1 hxg
      replace K := K.trans K1
      clear R K1
      have R := R1
      clear R1
      have hw1 : wrap64 (1 + nb) = 1 + nb := by unfold wrap64; omega
      go_wp2_with fail
      refine (SO (1 + nb) _ (by omega) (by omega)).mono ?_
      rintro e s1 ⟨rfl, hB⟩
      replace R := R.step hB; replace B := B.step hB; replace X := X.step hB; replace K := K.trans (Kept.of hB)
      clear hB hw1
      have RO := ofS_det na (1 + nb) (told_i (by omega) (by omega)) (told_i (by omega) (by omega))
      obtain ⟨c, d, f', hro, tc, td, -⟩ := ratV_rz na (1 + nb)
      rw [hro] at RO
      clear hro
      go_wp2_with fail
      refine (RO _).mono ?_
      rintro e t1 ⟨rfl, hB⟩
      replace R := R.step hB; replace B := B.step hB; replace X := X.step hB; replace K := K.trans (Kept.of hB)
      clear hB RO SO
      have oc0 := B.c 0 rfl; have of0 := B.f 0 rfl; have oc1 := B.c 1 rfl; have of1 := B.f 1 rfl; have oc2 := B.c 2 rfl; have of2 := B.f 2 rfl; have oc3 := B.c 3 rfl; have of3 := B.f 3 rfl; have oc4 := B.c 4 rfl; have of4 := B.f 4 rfl; have oc5 := B.c 5 rfl; have of5 := B.f 5 rfl; have oc6 := B.c 6 rfl; have of6 := B.f 6 rfl; have oc7 := B.c 7 rfl; have of7 := B.f 7 rfl; have ol := B.lt; have ac0 := X.c 0 rfl; have af0 := X.f 0 rfl; have ac1 := X.c 1 rfl; have af1 := X.f 1 rfl; have ac2 := X.c 2 rfl; have af2 := X.f 2 rfl; have ac3 := X.c 3 rfl; have af3 := X.f 3 rfl; have ac4 := X.c 4 rfl; have af4 := X.f 4 rfl; have ac5 := X.c 5 rfl; have af5 := X.f 5 rfl; have ac6 := X.c 6 rfl; have af6 := X.f 6 rfl; have ac7 := X.c 7 rfl; have af7 := X.f 7 rfl; have al := X.lt
      go_upto_region 6 with fail
      clear oc0 of0 ac0 af0 oc1 of1 ac1 af1 oc2 of2 ac2 af2 oc3 of3 ac3 af3 oc4 of4 ac4 af4 oc5 of5 ac5 af5 oc6 of6 ac6 af6 oc7 of7 ac7 af7 ol al
      replace X := X.stored8 (.int .u64 (ww3 c)) (.int .u64 (ww2 c)) (.int .u64 (ww1 c)) (.int .u64 (ww0 c)) (.int .u64 (ww3 d)) (.int .u64 (ww2 d)) (.int .u64 (ww1 d)) (.int .u64 (ww0 d))
      replace B := B.set8 (g := gx) (v0 := .int .u64 (ww3 c)) (v1 := .int .u64 (ww2 c)) (v2 := .int .u64 (ww1 c)) (v3 := .int .u64 (ww0 c)) (v4 := .int .u64 (ww3 d)) (v5 := .int .u64 (ww2 d)) (v6 := .int .u64 (ww1 d)) (v7 := .int .u64 (ww0 d)) (by omega)
      replace R := rdr_set8 (v0 := .int .u64 (ww3 c)) (v1 := .int .u64 (ww2 c)) (v2 := .int .u64 (ww1 c)) (v3 := .int .u64 (ww0 c)) (v4 := .int .u64 (ww3 d)) (v5 := .int .u64 (ww2 d)) (v6 := .int .u64 (ww1 d)) (v7 := .int .u64 (ww0 d)) hxl R
      replace K := kept_set8 (v0 := .int .u64 (ww3 c)) (v1 := .int .u64 (ww2 c)) (v2 := .int .u64 (ww1 c)) (v3 := .int .u64 (ww0 c)) (v4 := .int .u64 (ww3 d)) (v5 := .int .u64 (ww2 d)) (v6 := .int .u64 (ww1 d)) (v7 := .int .u64 (ww0 d)) hxm hxg K
      generalize ((((((((t1.setCell ⟨gx, 0, none⟩ (.int .u64 (ww3 c))).setCell ⟨gx, 1, none⟩ (.int .u64 (ww2 c))).setCell ⟨gx, 2, none⟩ (.int .u64 (ww1 c))).setCell ⟨gx, 3, none⟩ (.int .u64 (ww0 c))).setCell ⟨gx, 4, none⟩ (.int .u64 (ww3 d))).setCell ⟨gx, 5, none⟩ (.int .u64 (ww2 d))).setCell ⟨gx, 6, none⟩ (.int .u64 (ww1 d))).setCell ⟨gx, 7, none⟩ (.int .u64 (ww0 d))) = WS at *
      have oc0 := B.c 0 rfl; have of0 := B.f 0 rfl; have oc1 := B.c 1 rfl; have of1 := B.f 1 rfl; have oc2 := B.c 2 rfl; have of2 := B.f 2 rfl; have oc3 := B.c 3 rfl; have of3 := B.f 3 rfl; have oc4 := B.c 4 rfl; have of4 := B.f 4 rfl; have oc5 := B.c 5 rfl; have of5 := B.f 5 rfl; have oc6 := B.c 6 rfl; have of6 := B.f 6 rfl; have oc7 := B.c 7 rfl; have of7 := B.f 7 rfl; have ol := B.lt; have ac0 := X.c 0 rfl; have af0 := X.f 0 rfl; have ac1 := X.c 1 rfl; have af1 := X.f 1 rfl; have ac2 := X.c 2 rfl; have af2 := X.f 2 rfl; have ac3 := X.c 3 rfl; have af3 := X.f 3 rfl; have ac4 := X.c 4 rfl; have af4 := X.f 4 rfl; have ac5 := X.c 5 rfl; have af5 := X.f 5 rfl; have ac6 := X.c 6 rfl; have af6 := X.f 6 rfl; have ac7 := X.c 7 rfl; have af7 := X.f 7 rfl; have al := X.lt
      clear B X
      go_wp2
      refine bodyPost_ret (v := RZ c d) (by simp [results, Try.results21, go_sem, oc0, oc1, oc2, oc3, oc4, oc5, oc6, oc7]) rfl ?_
      exact rt_done hg R K tc td
    · go_wp2_with fail
      generalize w4.alloc (.cells #[.int .u64 (ww3 a), .int .u64 (ww2 a), .int .u64 (ww1 a), .int .u64 (ww0 a), .int .u64 (ww3 b), .int .u64 (ww2 b), .int .u64 (ww1 b), .int .u64 (ww0 b)] 28) = W4' at *
      generalize w4.heap.size = gx at *
      refine (once_any 2 (by decide) (by decide) g ao n cap cs _ R).mono ?_
      rintro e w5 ⟨_, rfl, ⟨bb, rfl⟩, R1, K1⟩
      replace B := B.kept K1 hne
      replace X := X.kept K1 hxg
      replace K := K.trans K1
      clear R K1
      have R := R1
      clear R1
      cases bb
      · clear SO
        have oc0 := B.c 0 rfl; have of0 := B.f 0 rfl; have oc1 := B.c 1 rfl; have of1 := B.f 1 rfl; have oc2 := B.c 2 rfl; have of2 := B.f 2 rfl; have oc3 := B.c 3 rfl; have of3 := B.f 3 rfl; have oc4 := B.c 4 rfl; have of4 := B.f 4 rfl; have oc5 := B.c 5 rfl; have of5 := B.f 5 rfl; have oc6 := B.c 6 rfl; have of6 := B.f 6 rfl; have oc7 := B.c 7 rfl; have of7 := B.f 7 rfl; have ol := B.lt; have ac0 := X.c 0 rfl; have af0 := X.f 0 rfl; have ac1 := X.c 1 rfl; have af1 := X.f 1 rfl; have ac2 := X.c 2 rfl; have af2 := X.f 2 rfl; have ac3 := X.c 3 rfl; have af3 := X.f 3 rfl; have ac4 := X.c 4 rfl; have af4 := X.f 4 rfl; have ac5 := X.c 5 rfl; have af5 := X.f 5 rfl; have ac6 := X.c 6 rfl; have af6 := X.f 6 rfl; have ac7 := X.c 7 rfl; have af7 := X.f 7 rfl; have al := X.lt
        clear B X
        go_wp2
        refine bodyPost_ret (v := RZ a b) (by simp [results, Try.results21, go_sem, oc0, oc1, oc2, oc3, oc4, oc5, oc6, oc7]) rfl ?_
        exact rt_done hg (by first | exact R | exact R.drew) (by first | exact K | exact K.drew) ta tb
      · skip
        go_wp2_with fail
        refine (near_m20 g ao n cap cs _ R).mono ?_
        rintro e p2 ⟨_, rfl, ⟨na, rfl, na0, na1⟩, R1, K1⟩
        replace B := B.kept K1 hne
        replace X := X.kept K1 hxg
        replace K := K.trans K1
        clear R K1
        have R := R1
        clear R1
        go_wp2_with fail
        refine (SO na _ (by omega) (by omega)).mono ?_
        rintro e q2 ⟨rfl, hB⟩
        replace R := R.step hB; replace B := B.step hB; replace X := X.step hB; replace K := K.trans (Kept.of hB)
        clear hB
        go_wp2_with fail
        refine (near_p11 g ao n cap cs _ R).mono ?_
        rintro e r2 ⟨_, rfl, ⟨nb, rfl, nb0, nb1⟩, R1, K1⟩
        replace B := B.kept K1 hne
        replace X := X.kept K1 hxg
        replace K := K.trans K1
        clear R K1
        have R := R1
        clear R1
        have hw1 : wrap64 (1 + nb) = 1 + nb := by unfold wrap64; omega
        go_wp2_with fail
        refine (SO (1 + nb) _ (by omega) (by omega)).mono ?_
        rintro e s2 ⟨rfl, hB⟩
        replace R := R.step hB; replace B := B.step hB; replace X := X.step hB; replace K := K.trans (Kept.of hB)
        clear hB hw1
        have RO := ofS_det na (1 + nb) (told_i (by omega) (by omega)) (told_i (by omega) (by omega))
        obtain ⟨c, d, f', hro, tc, td, -⟩ := ratV_rz na (1 + nb)
        rw [hro] at RO
        clear hro
        go_wp2_with fail
        refine (RO _).mono ?_
        rintro e t2 ⟨rfl, hB⟩
        replace R := R.step hB; replace B := B.step hB; replace X := X.step hB; replace K := K.trans (Kept.of hB)
        clear hB RO SO
        have oc0 := B.c 0 rfl; have of0 := B.f 0 rfl; have oc1 := B.c 1 rfl; have of1 := B.f 1 rfl; have oc2 := B.c 2 rfl; have of2 := B.f 2 rfl; have oc3 := B.c 3 rfl; have of3 := B.f 3 rfl; have oc4 := B.c 4 rfl; have of4 := B.f 4 rfl; have oc5 := B.c 5 rfl; have of5 := B.f 5 rfl; have oc6 := B.c 6 rfl; have of6 := B.f 6 rfl; have oc7 := B.c 7 rfl; have of7 := B.f 7 rfl; have ol := B.lt; have ac0 := X.c 0 rfl; have af0 := X.f 0 rfl; have ac1 := X.c 1 rfl; have af1 := X.f 1 rfl; have ac2 := X.c 2 rfl; have af2 := X.f 2 rfl; have ac3 := X.c 3 rfl; have af3 := X.f 3 rfl; have ac4 := X.c 4 rfl; have af4 := X.f 4 rfl; have ac5 := X.c 5 rfl; have af5 := X.f 5 rfl; have ac6 := X.c 6 rfl; have af6 := X.f 6 rfl; have ac7 := X.c 7 rfl; have af7 := X.f 7 rfl; have al := X.lt
        go_upto_region 6 with fail
        clear oc0 of0 ac0 af0 oc1 of1 ac1 af1 oc2 of2 ac2 af2 oc3 of3 ac3 af3 oc4 of4 ac4 af4 oc5 of5 ac5 af5 oc6 of6 ac6 af6 oc7 of7 ac7 af7 ol al
        replace X := X.stored8 (.int .u64 (ww3 c)) (.int .u64 (ww2 c)) (.int .u64 (ww1 c)) (.int .u64 (ww0 c)) (.int .u64 (ww3 d)) (.int .u64 (ww2 d)) (.int .u64 (ww1 d)) (.int .u64 (ww0 d))
        replace B := B.set8 (g := gx) (v0 := .int .u64 (ww3 c)) (v1 := .int .u64 (ww2 c)) (v2 := .int .u64 (ww1 c)) (v3 := .int .u64 (ww0 c)) (v4 := .int .u64 (ww3 d)) (v5 := .int .u64 (ww2 d)) (v6 := .int .u64 (ww1 d)) (v7 := .int .u64 (ww0 d)) (by omega)
        replace R := rdr_set8 (v0 := .int .u64 (ww3 c)) (v1 := .int .u64 (ww2 c)) (v2 := .int .u64 (ww1 c)) (v3 := .int .u64 (ww0 c)) (v4 := .int .u64 (ww3 d)) (v5 := .int .u64 (ww2 d)) (v6 := .int .u64 (ww1 d)) (v7 := .int .u64 (ww0 d)) hxl R
        replace K := kept_set8 (v0 := .int .u64 (ww3 c)) (v1 := .int .u64 (ww2 c)) (v2 := .int .u64 (ww1 c)) (v3 := .int .u64 (ww0 c)) (v4 := .int .u64 (ww3 d)) (v5 := .int .u64 (ww2 d)) (v6 := .int .u64 (ww1 d)) (v7 := .int .u64 (ww0 d)) hxm hxg K
        generalize ((((((((t2.setCell ⟨gx, 0, none⟩ (.int .u64 (ww3 c))).setCell ⟨gx, 1, none⟩ (.int .u64 (ww2 c))).setCell ⟨gx, 2, none⟩ (.int .u64 (ww1 c))).setCell ⟨gx, 3, none⟩ (.int .u64 (ww0 c))).setCell ⟨gx, 4, none⟩ (.int .u64 (ww3 d))).setCell ⟨gx, 5, none⟩ (.int .u64 (ww2 d))).setCell ⟨gx, 6, none⟩ (.int .u64 (ww1 d))).setCell ⟨gx, 7, none⟩ (.int .u64 (ww0 d))) = WS at *
        have oc0 := B.c 0 rfl; have of0 := B.f 0 rfl; have oc1 := B.c 1 rfl; have of1 := B.f 1 rfl; have oc2 := B.c 2 rfl; have of2 := B.f 2 rfl; have oc3 := B.c 3 rfl; have of3 := B.f 3 rfl; have oc4 := B.c 4 rfl; have of4 := B.f 4 rfl; have oc5 := B.c 5 rfl; have of5 := B.f 5 rfl; have oc6 := B.c 6 rfl; have of6 := B.f 6 rfl; have oc7 := B.c 7 rfl; have of7 := B.f 7 rfl; have ol := B.lt; have ac0 := X.c 0 rfl; have af0 := X.f 0 rfl; have ac1 := X.c 1 rfl; have af1 := X.f 1 rfl; have ac2 := X.c 2 rfl; have af2 := X.f 2 rfl; have ac3 := X.c 3 rfl; have af3 := X.f 3 rfl; have ac4 := X.c 4 rfl; have af4 := X.f 4 rfl; have ac5 := X.c 5 rfl; have af5 := X.f 5 rfl; have ac6 := X.c 6 rfl; have af6 := X.f 6 rfl; have ac7 := X.c 7 rfl; have af7 := X.f 7 rfl; have al := X.lt
        clear B X
        go_wp2
        refine bodyPost_ret (v := RZ c d) (by simp [results, Try.results21, go_sem, oc0, oc1, oc2, oc3, oc4, oc5, oc6, oc7]) rfl ?_
        exact rt_done hg R K tc td
  · clear SO
    go_wp2_with fail
    refine (wide_any g ao n cap cs _ R).mono ?_
    rintro e w2 ⟨_, rfl, hv, R1, K1⟩
    replace B := B.kept K1 hne
    replace K := K.trans K1
    clear R K1
    have R := R1
    clear R1
    obtain ⟨x, rfl, tx⟩ := wideW4 hv
    clear hv
    go_wp2_with fail
    refine (wide_any g ao n cap cs _ R).mono ?_
    rintro e w3 ⟨_, rfl, hv, R1, K1⟩
    replace B := B.kept K1 hne
    replace K := K.trans K1
    clear R K1
    have R := R1
    clear R1
    obtain ⟨y, rfl, ty⟩ := wideW4 hv
    clear hv
    have oc0 := B.c 0 rfl; have of0 := B.f 0 rfl; have oc1 := B.c 1 rfl; have of1 := B.f 1 rfl; have oc2 := B.c 2 rfl; have of2 := B.f 2 rfl; have oc3 := B.c 3 rfl; have of3 := B.f 3 rfl; have oc4 := B.c 4 rfl; have of4 := B.f 4 rfl; have oc5 := B.c 5 rfl; have of5 := B.f 5 rfl; have oc6 := B.c 6 rfl; have of6 := B.f 6 rfl; have oc7 := B.c 7 rfl; have of7 := B.f 7 rfl; have ol := B.lt
    clear B
    go_wp2
    refine bodyPost_ret (v := RZ x y) (by simp [results, Try.results21, go_sem, oc0, oc1, oc2, oc3, oc4, oc5, oc6, oc7]) rfl ?_
    exact rt_done hg (by first | exact R | exact R.drew) (by first | exact K | exact K.drew) tx ty
end Go.Proofs.Ytlmlpcdpfeaikaa

/- Two fractions drawn from a code. -/
namespace Go.Proofs.Ytlmlpcdpfeaikaa
open Go.RowKit
/-- Two fractions, whatever their numbers. -/
def TwoR (w : World) (e : Ending) (w' : World) : Prop := ∃ x y u v : Int, e = .returned (.tuple #[RZ x y, RZ u v]) ∧ told x = true ∧ told y = true ∧ told u = true ∧ told v = true ∧ Below w.heap.size w w'
theorem rd_cells {x y : Int} {W : World} {gp : Nat} (Xp : Blk W gp [.int .u64 (ww3 x), .int .u64 (ww2 x), .int .u64 (ww1 x), .int .u64 (ww0 x), .int .u64 (ww3 y), .int .u64 (ww2 y), .int .u64 (ww1 y), .int .u64 (ww0 y)]) : (fun w' => w'.cell? ⟨gp, 0, none⟩ = some (.int .u64 (ww3 x)) ∧ w'.cell? ⟨gp, 1, none⟩ = some (.int .u64 (ww2 x)) ∧ w'.cell? ⟨gp, 2, none⟩ = some (.int .u64 (ww1 x)) ∧ w'.cell? ⟨gp, 3, none⟩ = some (.int .u64 (ww0 x)) ∧ w'.cell? ⟨gp, 4, none⟩ = some (.int .u64 (ww3 y)) ∧ w'.cell? ⟨gp, 5, none⟩ = some (.int .u64 (ww2 y)) ∧ w'.cell? ⟨gp, 6, none⟩ = some (.int .u64 (ww1 y)) ∧ w'.cell? ⟨gp, 7, none⟩ = some (.int .u64 (ww0 y))) W := ⟨Xp.c 0 rfl, Xp.c 1 rfl, Xp.c 2 rfl, Xp.c 3 rfl, Xp.c 4 rfl, Xp.c 5 rfl, Xp.c 6 rfl, Xp.c 7 rfl⟩
set_option maxRecDepth 100000 in
set_option maxHeartbeats 4000000 in
theorem drawRatioCmp_any (ao : Option Addr) (n cap : Nat) (cs : List Int) (w : World) (h : Code w ao n cs) :
    Calls Try.prog 14 #[.slice ao n cap] w (TwoR w) := by
  have B0 := (Blk.new w [.int .u64 0, .int .u64 0, .int .u64 0, .int .u64 0, .int .u64 0, .int .u64 0, .int .u64 0, .int .u64 0] 28 rfl).alloc (.cells #[.int .u64 0, .int .u64 0, .int .u64 0, .int .u64 0, .int .u64 0, .int .u64 0, .int .u64 0, .int .u64 0] 28)
  have B1 := Blk.new (w.alloc (.cells #[.int .u64 0, .int .u64 0, .int .u64 0, .int .u64 0, .int .u64 0, .int .u64 0, .int .u64 0, .int .u64 0] 28)) [.int .u64 0, .int .u64 0, .int .u64 0, .int .u64 0, .int .u64 0, .int .u64 0, .int .u64 0, .int .u64 0] 28 (g := w.heap.size + 1) (by simp)
  have HB : Below w.heap.size w ((w.alloc (.cells #[.int .u64 0, .int .u64 0, .int .u64 0, .int .u64 0, .int .u64 0, .int .u64 0, .int .u64 0, .int .u64 0] 28)).alloc (.cells #[.int .u64 0, .int .u64 0, .int .u64 0, .int .u64 0, .int .u64 0, .int .u64 0, .int .u64 0, .int .u64 0] 28)) := ((Below.refl _ _).alloc (Nat.le_refl _) _).alloc (by simp) _
  replace h := h.below HB
  go_enter Try.func14, Try.ntmps14
  go_wp2_with fail
  refine (open_any ao n cap cs _ h).mono ?_
  rintro e w1 ⟨g, rfl, hG, R, hB⟩
  simp at hG
  have h0 : w.heap.size ≠ g := by omega
  have h1 : w.heap.size + 1 ≠ g := by omega
  replace B0 := B0.step hB; replace B1 := B1.step hB
  replace HB : Below w.heap.size w w1 := HB.trans (hB.mono HB.size)
  have K := Kept.refl g w1
  have hl := HB.size
  clear h hB
  go_wp2_with fail
  refine (ratio_any g ao n cap cs _ R).mono ?_
  rintro e w2 ⟨_, rfl, ⟨x, y, rfl, tx, ty⟩, R1, K1⟩
  replace B0 := B0.kept K1 h0
  replace B1 := B1.kept K1 h1
  replace K := K.trans K1
  clear R K1
  have R := R1
  clear R1
  have hnp : w2.heap.size ≠ g := by have := R.lt; omega
  have hgp : w.heap.size + 1 < w2.heap.size := B1.lt
  have Xp := Blk.new w2 [.int .u64 (ww3 x), .int .u64 (ww2 x), .int .u64 (ww1 x), .int .u64 (ww0 x), .int .u64 (ww3 y), .int .u64 (ww2 y), .int .u64 (ww1 y), .int .u64 (ww0 y)] 28 rfl
  replace R := R.alloc (.cells #[.int .u64 (ww3 x), .int .u64 (ww2 x), .int .u64 (ww1 x), .int .u64 (ww0 x), .int .u64 (ww3 y), .int .u64 (ww2 y), .int .u64 (ww1 y), .int .u64 (ww0 y)] 28); replace B0 := B0.alloc (.cells #[.int .u64 (ww3 x), .int .u64 (ww2 x), .int .u64 (ww1 x), .int .u64 (ww0 x), .int .u64 (ww3 y), .int .u64 (ww2 y), .int .u64 (ww1 y), .int .u64 (ww0 y)] 28); replace B1 := B1.alloc (.cells #[.int .u64 (ww3 x), .int .u64 (ww2 x), .int .u64 (ww1 x), .int .u64 (ww0 x), .int .u64 (ww3 y), .int .u64 (ww2 y), .int .u64 (ww1 y), .int .u64 (ww0 y)] 28); replace K := K.alloc (.cells #[.int .u64 (ww3 x), .int .u64 (ww2 x), .int .u64 (ww1 x), .int .u64 (ww0 x), .int .u64 (ww3 y), .int .u64 (ww2 y), .int .u64 (ww1 y), .int .u64 (ww0 y)] 28)
  go_wp2_with fail
  generalize w2.alloc (.cells #[.int .u64 (ww3 x), .int .u64 (ww2 x), .int .u64 (ww1 x), .int .u64 (ww0 x), .int .u64 (ww3 y), .int .u64 (ww2 y), .int .u64 (ww1 y), .int .u64 (ww0 y)] 28) = W2 at *
  generalize w2.heap.size = gp at *
  refine (once_any 5 (by decide) (by decide) g ao n cap cs _ R).mono ?_
  rintro e w3 ⟨_, rfl, ⟨bb, rfl⟩, R1, K1⟩
  replace B0 := B0.kept K1 h0; replace B1 := B1.kept K1 h1; replace K := K.trans K1; replace Xp := Xp.kept K1 hnp
  clear R K1
  have R := R1
  clear R1
  cases bb
  · go_upto_region 5 with fail
    go_region_held3 (fun w' => w'.cell? ⟨gp, 0, none⟩ = some (.int .u64 (ww3 x)) ∧ w'.cell? ⟨gp, 1, none⟩ = some (.int .u64 (ww2 x)) ∧ w'.cell? ⟨gp, 2, none⟩ = some (.int .u64 (ww1 x)) ∧ w'.cell? ⟨gp, 3, none⟩ = some (.int .u64 (ww0 x)) ∧ w'.cell? ⟨gp, 4, none⟩ = some (.int .u64 (ww3 y)) ∧ w'.cell? ⟨gp, 5, none⟩ = some (.int .u64 (ww2 y)) ∧ w'.cell? ⟨gp, 6, none⟩ = some (.int .u64 (ww1 y)) ∧ w'.cell? ⟨gp, 7, none⟩ = some (.int .u64 (ww0 y))) ((refine rd_cells ?_ <;> repeat (first | (with_reducible exact Xp) | (with_reducible refine Blk.drew ?_) | (with_reducible refine Blk.set8 ?_ (by omega)))))
      (first
        | (go_at_call 21; refine (ratio_any g ao n cap cs _ (by first | exact R | exact R.drew)).mono ?_; rintro e w5 ⟨_, rfl, ⟨u, v, rfl, tu, tv⟩, R1, K1⟩; (first | (replace B0 := B0.kept K1 h0; replace B1 := B1.kept K1 h1; replace K := K.trans K1; replace Xp := Xp.kept K1 hnp) | (replace B0 := B0.drew.kept K1 h0; replace B1 := B1.drew.kept K1 h1; replace K := K.drew.trans K1; replace Xp := Xp.drew.kept K1 hnp)); clear R K1; have R := R1; clear R1; have oc0 := B0.c 0 rfl; have of0 := B0.f 0 rfl; have oc1 := B0.c 1 rfl; have of1 := B0.f 1 rfl; have oc2 := B0.c 2 rfl; have of2 := B0.f 2 rfl; have oc3 := B0.c 3 rfl; have of3 := B0.f 3 rfl; have oc4 := B0.c 4 rfl; have of4 := B0.f 4 rfl; have oc5 := B0.c 5 rfl; have of5 := B0.f 5 rfl; have oc6 := B0.c 6 rfl; have of6 := B0.f 6 rfl; have oc7 := B0.c 7 rfl; have of7 := B0.f 7 rfl; have kc0 := B1.c 0 rfl; have kf0 := B1.f 0 rfl; have kc1 := B1.c 1 rfl; have kf1 := B1.f 1 rfl; have kc2 := B1.c 2 rfl; have kf2 := B1.f 2 rfl; have kc3 := B1.c 3 rfl; have kf3 := B1.f 3 rfl; have kc4 := B1.c 4 rfl; have kf4 := B1.f 4 rfl; have kc5 := B1.c 5 rfl; have kf5 := B1.f 5 rfl; have kc6 := B1.c 6 rfl; have kf6 := B1.f 6 rfl; have kc7 := B1.c 7 rfl; have kf7 := B1.f 7 rfl; have ol := B0.lt; have kl := B1.lt))
    all_goals replace HB : Below w.heap.size w w5 := HB.trans (K.below (by omega) hl)
    all_goals clear Xp K R
    all_goals go_wp2
    all_goals (
      have F0 : Blk ((((((((((((((((w5.setCell ⟨w.heap.size, 0, none⟩ (.int .u64 (ww3 x))).setCell ⟨w.heap.size, 1, none⟩ (.int .u64 (ww2 x))).setCell ⟨w.heap.size, 2, none⟩ (.int .u64 (ww1 x))).setCell ⟨w.heap.size, 3, none⟩ (.int .u64 (ww0 x))).setCell ⟨w.heap.size, 4, none⟩ (.int .u64 (ww3 y))).setCell ⟨w.heap.size, 5, none⟩ (.int .u64 (ww2 y))).setCell ⟨w.heap.size, 6, none⟩ (.int .u64 (ww1 y))).setCell ⟨w.heap.size, 7, none⟩ (.int .u64 (ww0 y))).setCell ⟨(w.heap.size + 1), 0, none⟩ (.int .u64 (ww3 u))).setCell ⟨(w.heap.size + 1), 1, none⟩ (.int .u64 (ww2 u))).setCell ⟨(w.heap.size + 1), 2, none⟩ (.int .u64 (ww1 u))).setCell ⟨(w.heap.size + 1), 3, none⟩ (.int .u64 (ww0 u))).setCell ⟨(w.heap.size + 1), 4, none⟩ (.int .u64 (ww3 v))).setCell ⟨(w.heap.size + 1), 5, none⟩ (.int .u64 (ww2 v))).setCell ⟨(w.heap.size + 1), 6, none⟩ (.int .u64 (ww1 v))).setCell ⟨(w.heap.size + 1), 7, none⟩ (.int .u64 (ww0 v))) w.heap.size [.int .u64 (ww3 x), .int .u64 (ww2 x), .int .u64 (ww1 x), .int .u64 (ww0 x), .int .u64 (ww3 y), .int .u64 (ww2 y), .int .u64 (ww1 y), .int .u64 (ww0 y)] := (B0.stored8 (.int .u64 (ww3 x)) (.int .u64 (ww2 x)) (.int .u64 (ww1 x)) (.int .u64 (ww0 x)) (.int .u64 (ww3 y)) (.int .u64 (ww2 y)) (.int .u64 (ww1 y)) (.int .u64 (ww0 y))).set8 (by omega)
      have F1 : Blk ((((((((((((((((w5.setCell ⟨w.heap.size, 0, none⟩ (.int .u64 (ww3 x))).setCell ⟨w.heap.size, 1, none⟩ (.int .u64 (ww2 x))).setCell ⟨w.heap.size, 2, none⟩ (.int .u64 (ww1 x))).setCell ⟨w.heap.size, 3, none⟩ (.int .u64 (ww0 x))).setCell ⟨w.heap.size, 4, none⟩ (.int .u64 (ww3 y))).setCell ⟨w.heap.size, 5, none⟩ (.int .u64 (ww2 y))).setCell ⟨w.heap.size, 6, none⟩ (.int .u64 (ww1 y))).setCell ⟨w.heap.size, 7, none⟩ (.int .u64 (ww0 y))).setCell ⟨(w.heap.size + 1), 0, none⟩ (.int .u64 (ww3 u))).setCell ⟨(w.heap.size + 1), 1, none⟩ (.int .u64 (ww2 u))).setCell ⟨(w.heap.size + 1), 2, none⟩ (.int .u64 (ww1 u))).setCell ⟨(w.heap.size + 1), 3, none⟩ (.int .u64 (ww0 u))).setCell ⟨(w.heap.size + 1), 4, none⟩ (.int .u64 (ww3 v))).setCell ⟨(w.heap.size + 1), 5, none⟩ (.int .u64 (ww2 v))).setCell ⟨(w.heap.size + 1), 6, none⟩ (.int .u64 (ww1 v))).setCell ⟨(w.heap.size + 1), 7, none⟩ (.int .u64 (ww0 v))) (w.heap.size + 1) [.int .u64 (ww3 u), .int .u64 (ww2 u), .int .u64 (ww1 u), .int .u64 (ww0 u), .int .u64 (ww3 v), .int .u64 (ww2 v), .int .u64 (ww1 v), .int .u64 (ww0 v)] := (B1.set8 (by omega)).stored8 (.int .u64 (ww3 u)) (.int .u64 (ww2 u)) (.int .u64 (ww1 u)) (.int .u64 (ww0 u)) (.int .u64 (ww3 v)) (.int .u64 (ww2 v)) (.int .u64 (ww1 v)) (.int .u64 (ww0 v))
      have HBF : Below w.heap.size w ((((((((((((((((w5.setCell ⟨w.heap.size, 0, none⟩ (.int .u64 (ww3 x))).setCell ⟨w.heap.size, 1, none⟩ (.int .u64 (ww2 x))).setCell ⟨w.heap.size, 2, none⟩ (.int .u64 (ww1 x))).setCell ⟨w.heap.size, 3, none⟩ (.int .u64 (ww0 x))).setCell ⟨w.heap.size, 4, none⟩ (.int .u64 (ww3 y))).setCell ⟨w.heap.size, 5, none⟩ (.int .u64 (ww2 y))).setCell ⟨w.heap.size, 6, none⟩ (.int .u64 (ww1 y))).setCell ⟨w.heap.size, 7, none⟩ (.int .u64 (ww0 y))).setCell ⟨(w.heap.size + 1), 0, none⟩ (.int .u64 (ww3 u))).setCell ⟨(w.heap.size + 1), 1, none⟩ (.int .u64 (ww2 u))).setCell ⟨(w.heap.size + 1), 2, none⟩ (.int .u64 (ww1 u))).setCell ⟨(w.heap.size + 1), 3, none⟩ (.int .u64 (ww0 u))).setCell ⟨(w.heap.size + 1), 4, none⟩ (.int .u64 (ww3 v))).setCell ⟨(w.heap.size + 1), 5, none⟩ (.int .u64 (ww2 v))).setCell ⟨(w.heap.size + 1), 6, none⟩ (.int .u64 (ww1 v))).setCell ⟨(w.heap.size + 1), 7, none⟩ (.int .u64 (ww0 v))) := below_set8 (by omega) (below_set8 (Nat.le_refl _) HB)
      clear B0 B1 HB
      generalize ((((((((((((((((w5.setCell ⟨w.heap.size, 0, none⟩ (.int .u64 (ww3 x))).setCell ⟨w.heap.size, 1, none⟩ (.int .u64 (ww2 x))).setCell ⟨w.heap.size, 2, none⟩ (.int .u64 (ww1 x))).setCell ⟨w.heap.size, 3, none⟩ (.int .u64 (ww0 x))).setCell ⟨w.heap.size, 4, none⟩ (.int .u64 (ww3 y))).setCell ⟨w.heap.size, 5, none⟩ (.int .u64 (ww2 y))).setCell ⟨w.heap.size, 6, none⟩ (.int .u64 (ww1 y))).setCell ⟨w.heap.size, 7, none⟩ (.int .u64 (ww0 y))).setCell ⟨(w.heap.size + 1), 0, none⟩ (.int .u64 (ww3 u))).setCell ⟨(w.heap.size + 1), 1, none⟩ (.int .u64 (ww2 u))).setCell ⟨(w.heap.size + 1), 2, none⟩ (.int .u64 (ww1 u))).setCell ⟨(w.heap.size + 1), 3, none⟩ (.int .u64 (ww0 u))).setCell ⟨(w.heap.size + 1), 4, none⟩ (.int .u64 (ww3 v))).setCell ⟨(w.heap.size + 1), 5, none⟩ (.int .u64 (ww2 v))).setCell ⟨(w.heap.size + 1), 6, none⟩ (.int .u64 (ww1 v))).setCell ⟨(w.heap.size + 1), 7, none⟩ (.int .u64 (ww0 v))) = WF at *
      have m0 := F0.c 0 rfl; have n0 := F1.c 0 rfl; have m1 := F0.c 1 rfl; have n1 := F1.c 1 rfl; have m2 := F0.c 2 rfl; have n2 := F1.c 2 rfl; have m3 := F0.c 3 rfl; have n3 := F1.c 3 rfl; have m4 := F0.c 4 rfl; have n4 := F1.c 4 rfl; have m5 := F0.c 5 rfl; have n5 := F1.c 5 rfl; have m6 := F0.c 6 rfl; have n6 := F1.c 6 rfl; have m7 := F0.c 7 rfl; have n7 := F1.c 7 rfl
      refine bodyPost_ret (v := .tuple #[RZ x y, RZ u v]) (by simp [results, Try.results14, go_sem, m0, n0, m1, n1, m2, n2, m3, n3, m4, n4, m5, n5, m6, n6, m7, n7]) rfl ?_
      exact ⟨x, y, u, v, rfl, tx, ty, tu, tv, by first | exact HBF | exact HBF.drew⟩)
  · replace HB : Below w.heap.size w w3 := HB.trans (K.below (by omega) hl)
    have oc0 := B0.c 0 rfl; have of0 := B0.f 0 rfl; have oc1 := B0.c 1 rfl; have of1 := B0.f 1 rfl; have oc2 := B0.c 2 rfl; have of2 := B0.f 2 rfl; have oc3 := B0.c 3 rfl; have of3 := B0.f 3 rfl; have oc4 := B0.c 4 rfl; have of4 := B0.f 4 rfl; have oc5 := B0.c 5 rfl; have of5 := B0.f 5 rfl; have oc6 := B0.c 6 rfl; have of6 := B0.f 6 rfl; have oc7 := B0.c 7 rfl; have of7 := B0.f 7 rfl; have kc0 := B1.c 0 rfl; have kf0 := B1.f 0 rfl; have kc1 := B1.c 1 rfl; have kf1 := B1.f 1 rfl; have kc2 := B1.c 2 rfl; have kf2 := B1.f 2 rfl; have kc3 := B1.c 3 rfl; have kf3 := B1.f 3 rfl; have kc4 := B1.c 4 rfl; have kf4 := B1.f 4 rfl; have kc5 := B1.c 5 rfl; have kf5 := B1.f 5 rfl; have kc6 := B1.c 6 rfl; have kf6 := B1.f 6 rfl; have kc7 := B1.c 7 rfl; have kf7 := B1.f 7 rfl; have ol := B0.lt; have kl := B1.lt
    go_upto_region 4 with fail
    go_region_held3 (fun w' => w'.cell? ⟨gp, 0, none⟩ = some (.int .u64 (ww3 x)) ∧ w'.cell? ⟨gp, 1, none⟩ = some (.int .u64 (ww2 x)) ∧ w'.cell? ⟨gp, 2, none⟩ = some (.int .u64 (ww1 x)) ∧ w'.cell? ⟨gp, 3, none⟩ = some (.int .u64 (ww0 x)) ∧ w'.cell? ⟨gp, 4, none⟩ = some (.int .u64 (ww3 y)) ∧ w'.cell? ⟨gp, 5, none⟩ = some (.int .u64 (ww2 y)) ∧ w'.cell? ⟨gp, 6, none⟩ = some (.int .u64 (ww1 y)) ∧ w'.cell? ⟨gp, 7, none⟩ = some (.int .u64 (ww0 y))) ((refine rd_cells ?_ <;> repeat (first | (with_reducible exact Xp) | (with_reducible refine Blk.drew ?_) | (with_reducible refine Blk.set8 ?_ (by omega)))))
      (first | fail)
    all_goals clear Xp K R
    all_goals go_wp2
    all_goals (
      have F0 : Blk ((((((((((((((((w3.setCell ⟨w.heap.size, 0, none⟩ (.int .u64 (ww3 x))).setCell ⟨w.heap.size, 1, none⟩ (.int .u64 (ww2 x))).setCell ⟨w.heap.size, 2, none⟩ (.int .u64 (ww1 x))).setCell ⟨w.heap.size, 3, none⟩ (.int .u64 (ww0 x))).setCell ⟨w.heap.size, 4, none⟩ (.int .u64 (ww3 y))).setCell ⟨w.heap.size, 5, none⟩ (.int .u64 (ww2 y))).setCell ⟨w.heap.size, 6, none⟩ (.int .u64 (ww1 y))).setCell ⟨w.heap.size, 7, none⟩ (.int .u64 (ww0 y))).setCell ⟨(w.heap.size + 1), 0, none⟩ (.int .u64 (ww3 x))).setCell ⟨(w.heap.size + 1), 1, none⟩ (.int .u64 (ww2 x))).setCell ⟨(w.heap.size + 1), 2, none⟩ (.int .u64 (ww1 x))).setCell ⟨(w.heap.size + 1), 3, none⟩ (.int .u64 (ww0 x))).setCell ⟨(w.heap.size + 1), 4, none⟩ (.int .u64 (ww3 y))).setCell ⟨(w.heap.size + 1), 5, none⟩ (.int .u64 (ww2 y))).setCell ⟨(w.heap.size + 1), 6, none⟩ (.int .u64 (ww1 y))).setCell ⟨(w.heap.size + 1), 7, none⟩ (.int .u64 (ww0 y))) w.heap.size [.int .u64 (ww3 x), .int .u64 (ww2 x), .int .u64 (ww1 x), .int .u64 (ww0 x), .int .u64 (ww3 y), .int .u64 (ww2 y), .int .u64 (ww1 y), .int .u64 (ww0 y)] := (B0.stored8 (.int .u64 (ww3 x)) (.int .u64 (ww2 x)) (.int .u64 (ww1 x)) (.int .u64 (ww0 x)) (.int .u64 (ww3 y)) (.int .u64 (ww2 y)) (.int .u64 (ww1 y)) (.int .u64 (ww0 y))).set8 (by omega)
      have F1 : Blk ((((((((((((((((w3.setCell ⟨w.heap.size, 0, none⟩ (.int .u64 (ww3 x))).setCell ⟨w.heap.size, 1, none⟩ (.int .u64 (ww2 x))).setCell ⟨w.heap.size, 2, none⟩ (.int .u64 (ww1 x))).setCell ⟨w.heap.size, 3, none⟩ (.int .u64 (ww0 x))).setCell ⟨w.heap.size, 4, none⟩ (.int .u64 (ww3 y))).setCell ⟨w.heap.size, 5, none⟩ (.int .u64 (ww2 y))).setCell ⟨w.heap.size, 6, none⟩ (.int .u64 (ww1 y))).setCell ⟨w.heap.size, 7, none⟩ (.int .u64 (ww0 y))).setCell ⟨(w.heap.size + 1), 0, none⟩ (.int .u64 (ww3 x))).setCell ⟨(w.heap.size + 1), 1, none⟩ (.int .u64 (ww2 x))).setCell ⟨(w.heap.size + 1), 2, none⟩ (.int .u64 (ww1 x))).setCell ⟨(w.heap.size + 1), 3, none⟩ (.int .u64 (ww0 x))).setCell ⟨(w.heap.size + 1), 4, none⟩ (.int .u64 (ww3 y))).setCell ⟨(w.heap.size + 1), 5, none⟩ (.int .u64 (ww2 y))).setCell ⟨(w.heap.size + 1), 6, none⟩ (.int .u64 (ww1 y))).setCell ⟨(w.heap.size + 1), 7, none⟩ (.int .u64 (ww0 y))) (w.heap.size + 1) [.int .u64 (ww3 x), .int .u64 (ww2 x), .int .u64 (ww1 x), .int .u64 (ww0 x), .int .u64 (ww3 y), .int .u64 (ww2 y), .int .u64 (ww1 y), .int .u64 (ww0 y)] := (B1.set8 (by omega)).stored8 (.int .u64 (ww3 x)) (.int .u64 (ww2 x)) (.int .u64 (ww1 x)) (.int .u64 (ww0 x)) (.int .u64 (ww3 y)) (.int .u64 (ww2 y)) (.int .u64 (ww1 y)) (.int .u64 (ww0 y))
      have HBF : Below w.heap.size w ((((((((((((((((w3.setCell ⟨w.heap.size, 0, none⟩ (.int .u64 (ww3 x))).setCell ⟨w.heap.size, 1, none⟩ (.int .u64 (ww2 x))).setCell ⟨w.heap.size, 2, none⟩ (.int .u64 (ww1 x))).setCell ⟨w.heap.size, 3, none⟩ (.int .u64 (ww0 x))).setCell ⟨w.heap.size, 4, none⟩ (.int .u64 (ww3 y))).setCell ⟨w.heap.size, 5, none⟩ (.int .u64 (ww2 y))).setCell ⟨w.heap.size, 6, none⟩ (.int .u64 (ww1 y))).setCell ⟨w.heap.size, 7, none⟩ (.int .u64 (ww0 y))).setCell ⟨(w.heap.size + 1), 0, none⟩ (.int .u64 (ww3 x))).setCell ⟨(w.heap.size + 1), 1, none⟩ (.int .u64 (ww2 x))).setCell ⟨(w.heap.size + 1), 2, none⟩ (.int .u64 (ww1 x))).setCell ⟨(w.heap.size + 1), 3, none⟩ (.int .u64 (ww0 x))).setCell ⟨(w.heap.size + 1), 4, none⟩ (.int .u64 (ww3 y))).setCell ⟨(w.heap.size + 1), 5, none⟩ (.int .u64 (ww2 y))).setCell ⟨(w.heap.size + 1), 6, none⟩ (.int .u64 (ww1 y))).setCell ⟨(w.heap.size + 1), 7, none⟩ (.int .u64 (ww0 y))) := below_set8 (by omega) (below_set8 (Nat.le_refl _) HB)
      clear B0 B1 HB
      generalize ((((((((((((((((w3.setCell ⟨w.heap.size, 0, none⟩ (.int .u64 (ww3 x))).setCell ⟨w.heap.size, 1, none⟩ (.int .u64 (ww2 x))).setCell ⟨w.heap.size, 2, none⟩ (.int .u64 (ww1 x))).setCell ⟨w.heap.size, 3, none⟩ (.int .u64 (ww0 x))).setCell ⟨w.heap.size, 4, none⟩ (.int .u64 (ww3 y))).setCell ⟨w.heap.size, 5, none⟩ (.int .u64 (ww2 y))).setCell ⟨w.heap.size, 6, none⟩ (.int .u64 (ww1 y))).setCell ⟨w.heap.size, 7, none⟩ (.int .u64 (ww0 y))).setCell ⟨(w.heap.size + 1), 0, none⟩ (.int .u64 (ww3 x))).setCell ⟨(w.heap.size + 1), 1, none⟩ (.int .u64 (ww2 x))).setCell ⟨(w.heap.size + 1), 2, none⟩ (.int .u64 (ww1 x))).setCell ⟨(w.heap.size + 1), 3, none⟩ (.int .u64 (ww0 x))).setCell ⟨(w.heap.size + 1), 4, none⟩ (.int .u64 (ww3 y))).setCell ⟨(w.heap.size + 1), 5, none⟩ (.int .u64 (ww2 y))).setCell ⟨(w.heap.size + 1), 6, none⟩ (.int .u64 (ww1 y))).setCell ⟨(w.heap.size + 1), 7, none⟩ (.int .u64 (ww0 y))) = WF at *
      have m0 := F0.c 0 rfl; have n0 := F1.c 0 rfl; have m1 := F0.c 1 rfl; have n1 := F1.c 1 rfl; have m2 := F0.c 2 rfl; have n2 := F1.c 2 rfl; have m3 := F0.c 3 rfl; have n3 := F1.c 3 rfl; have m4 := F0.c 4 rfl; have n4 := F1.c 4 rfl; have m5 := F0.c 5 rfl; have n5 := F1.c 5 rfl; have m6 := F0.c 6 rfl; have n6 := F1.c 6 rfl; have m7 := F0.c 7 rfl; have n7 := F1.c 7 rfl
      refine bodyPost_ret (v := .tuple #[RZ x y, RZ x y]) (by simp [results, Try.results14, go_sem, m0, n0, m1, n1, m2, n2, m3, n3, m4, n4, m5, n5, m6, n6, m7, n7]) rfl ?_
      exact ⟨x, y, x, y, rfl, tx, ty, tx, ty, by first | exact HBF | exact HBF.drew⟩)
end Go.Proofs.Ytlmlpcdpfeaikaa
