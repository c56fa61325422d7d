/- Numbers drawn from a code: what the walks of the reader share, and its small ones. -/
import Derived.Test.YtlfogfjehdgjmaaOf
import Derived.Test.YtlfogfjehdgjmaaBlk
import Derived.Deep.RegionHeld3
import Derived.Deep.DeepCutAuto
import Derived.Deep.QuietTactic
import Derived.BigQuiet
namespace Go.Proofs.Ytlfogfjehdgjmaa
open Go.RowKit
/-- No other block has turned than g. -/
structure Kept (g : Nat) (w w' : World) : Prop where
  os : w'.os = w.os
  tape : w'.tape = w.tape
  output : w'.output = w.output
  size : w.heap.size ≤ w'.heap.size
  block : ∀ k, k < w.heap.size → k ≠ g → w'.heap[k]? = w.heap[k]?
  other : ∀ j, j ≠ 1 → g < w.heap.size → w'.cell? ⟨g, j, none⟩ = w.cell? ⟨g, j, none⟩
theorem Kept.refl (g : Nat) (w : World) : Kept g w w := ⟨rfl, rfl, rfl, Nat.le_refl _, fun _ _ _ => rfl, fun _ _ _ => rfl⟩
theorem Kept.trans {g : Nat} {a b c : World} (h : Kept g a b) (k : Kept g b c) : Kept g a c :=
  ⟨k.os.trans h.os, k.tape.trans h.tape, k.output.trans h.output, Nat.le_trans h.size k.size, fun i hi hg => (k.block i (Nat.lt_of_lt_of_le hi h.size) hg).trans (h.block i hi hg), fun j hj hl => (k.other j hj (Nat.lt_of_lt_of_le hl h.size)).trans (h.other j hj hl)⟩
theorem Kept.of {g : Nat} {a b : World} (h : Below a.heap.size a b) : Kept g a b := ⟨h.os, h.tape, h.output, h.size, fun i hi _ => h.block i hi, fun j _ hl => h.cell (p := ⟨g, j, none⟩) hl⟩
theorem Kept.drewN {g : Nat} {a b : World} (h : Kept g a b) (n : Nat) : Kept g a (b.drewN n) := ⟨h.os, h.tape, h.output, h.size, h.block, h.other⟩
theorem Kept.set {g : Nat} {a b : World} (h : Kept g a b) (u : Value) : Kept g a (b.setCell ⟨g, 1, none⟩ u) :=
  ⟨h.os, h.tape, h.output, by simpa [World.setCell] using h.size, fun k hk hg => (Below.heap_setCell _ _ _ _ hg).trans (h.block k hk hg), fun j hj hl => (World.cell?_setCell_other _ _ _ _ (by intro e; simp only [Addr.mk.injEq] at e; omega)).trans (h.other j hj hl)⟩
theorem Kept.alloc {g : Nat} {a b : World} (h : Kept g a b) (o : Obj) : Kept g a (b.alloc o) := h.trans (Kept.of ((Below.refl _ _).alloc (Nat.le_refl _) o))
theorem Kept.below {g B : Nat} {a b : World} (h : Kept g a b) (hB : B ≤ g) (hB' : B ≤ a.heap.size) : Below B a b := ⟨h.os, h.tape, h.output, h.size, fun k hk => h.block k (by omega) (by omega)⟩
theorem Blk.kept {W W' : World} {g h : Nat} {vs : List Value} (H : Blk W h vs) (k : Kept g W W') (hne : h ≠ g) : Blk W' h vs := by
  have e := k.block h H.lt hne
  refine ⟨Nat.lt_of_lt_of_le H.lt k.size, fun i v hi => ⟨?_, ?_⟩⟩
  · exact (World.cell?_of_block (w := W) e).trans (H.c i hi)
  · exact (World.frozen?_of_block (w := W) e).trans (H.f i hi)
/-- The reader lies in the block g, and what it reads lies ahead of it. -/
structure Rdr (w : World) (g : Nat) (ao : Option Addr) (n cap : Nat) (cs : List Int) : Prop where
  blk : ∃ p : Nat, p ≤ n ∧ Blk w g [.slice ao n cap, .int .i64 p]
  bytes : ∀ i, (h : i < cs.length) → ∃ b off, ao = some ⟨b, off, none⟩ ∧ b < g ∧ w.cell? ⟨b, off + i, none⟩ = some (.int .u8 cs[i])
  len : cs.length = n
  small : n ≤ 1048576
  byte : ∀ c ∈ cs, 0 ≤ c ∧ c < 256
theorem Rdr.lt {w : World} {g : Nat} {ao : Option Addr} {n cap : Nat} {cs : List Int} (h : Rdr w g ao n cap cs) : g < w.heap.size := by
  obtain ⟨p, _, B⟩ := h.blk
  exact B.lt
theorem Rdr.step {w w' : World} {g : Nat} {ao : Option Addr} {n cap : Nat} {cs : List Int} (h : Rdr w g ao n cap cs) (hB : Below w.heap.size w w') : Rdr w' g ao n cap cs := by
  obtain ⟨p, hp, B⟩ := h.blk
  refine ⟨⟨p, hp, B.step hB⟩, fun i hi => ?_, h.len, h.small, h.byte⟩
  obtain ⟨b, off, e, hb, hc⟩ := h.bytes i hi
  exact ⟨b, off, e, hb, (hB.cell (p := ⟨b, off + i, none⟩) (show b < w.heap.size by have := B.lt; omega)).trans hc⟩
theorem Rdr.alloc {w : World} {g : Nat} {ao : Option Addr} {n cap : Nat} {cs : List Int} (h : Rdr w g ao n cap cs) (o : Obj) : Rdr (w.alloc o) g ao n cap cs := h.step ((Below.refl _ _).alloc (Nat.le_refl _) o)
theorem Rdr.drewN {w : World} {g : Nat} {ao : Option Addr} {n cap : Nat} {cs : List Int} (h : Rdr w g ao n cap cs) (k : Nat) : Rdr (w.drewN k) g ao n cap cs := ⟨h.blk, h.bytes, h.len, h.small, h.byte⟩
theorem Rdr.put {w : World} {g : Nat} {ao : Option Addr} {n cap : Nat} {cs : List Int} (h : Rdr w g ao n cap cs) (p : Nat) (hp : p ≤ n) : Rdr (w.setCell ⟨g, 1, none⟩ (.int .i64 p)) g ao n cap cs := by
  obtain ⟨q, hq, B⟩ := h.blk
  refine ⟨⟨p, hp, B.setI 1 (by simp) _⟩, fun i hi => ?_, h.len, h.small, h.byte⟩
  obtain ⟨b, off, e, hb, hc⟩ := h.bytes i hi
  exact ⟨b, off, e, hb, (World.cell?_setCell_other _ _ _ _ (by intro e; simp only [Addr.mk.injEq] at e; omega)).trans hc⟩
/-- What a call of the reader's leaves. -/
def RdP (g : Nat) (ao : Option Addr) (n cap : Nat) (cs : List Int) (Q : Value → Prop) (w : World) (e : Ending) (w' : World) : Prop := ∃ v, e = .returned v ∧ Q v ∧ Rdr w' g ao n cap cs ∧ Kept g w w'
def IsIn (a b : Int) (v : Value) : Prop := ∃ x : Int, v = .int .i64 x ∧ a ≤ x ∧ x < b
set_option maxRecDepth 100000 in
set_option maxHeartbeats 1000000 in
theorem next_any (g : Nat) (ao : Option Addr) (n cap : Nat) (cs : List Int) (w : World) (h : Rdr w g ao n cap cs) :
    Calls Try.prog 115 #[.pointer (some ⟨g, 0, none⟩)] w (RdP g ao n cap cs (IsIn 0 256) w) := by
  obtain ⟨p, hp, B⟩ := h.blk
  have b0 := B.c 0 rfl; have b1 := B.c 1 rfl; have f1 := B.f 1 rfl; have bl := B.lt
  by_cases hq : p < n
  · have hpl : p < cs.length := by rw [h.len]; exact hq
    obtain ⟨b, off, rfl, hb, hc⟩ := h.bytes p hpl
    obtain ⟨y0, y1⟩ := h.byte _ (List.getElem_mem hpl)
    have R := fun k => (h.drewN k).put (p + 1) (by omega)
    have hs := h.small
    generalize cs[p] = y at *
    have hne : g ≠ b := by omega
    have i1 : (p : Int) < n := by omega
    clear h B
    go_enter Try.func115, Try.ntmps115
    go_wp2
    go_quiet (fail)
    go_wp2
    go_quiet (fail)
    go_wp2
    go_ret
    exact ⟨_, rfl, ⟨y, rfl, y0, y1⟩, (R _).drewN _, (((Kept.refl _ _).drewN _).set _).drewN _⟩
  · obtain rfl : p = n := by omega
    have hs := h.small
    go_enter Try.func115, Try.ntmps115
    go_wp2
    go_quiet (fail)
    go_wp2
    go_ret
    exact ⟨_, rfl, ⟨0, rfl, by decide, by decide⟩, h.drewN _, (Kept.refl _ _).drewN _⟩
set_option maxRecDepth 100000 in
set_option maxHeartbeats 1000000 in
theorem below_any (m : Int) (h2 : 2 ≤ m) (h256 : m ≤ 256) (g : Nat) (ao : Option Addr) (n cap : Nat) (cs : List Int) (w : World) (h : Rdr w g ao n cap cs) :
    Calls Try.prog 82 #[.pointer (some ⟨g, 0, none⟩), .int .i64 m] w (RdP g ao n cap cs (IsIn 0 m) w) := by
  go_enter Try.func82, Try.ntmps82
  go_wp2_with fail
  all_goals first | (exfalso; omega) | skip
  refine (next_any g ao n cap cs _ h).mono ?_
  rintro e w1 ⟨_, rfl, ⟨x, rfl, x0, x1⟩, R, K⟩
  have hm : m ≠ 0 := by omega
  go_wp2
  go_ret
  exact ⟨_, rfl, ⟨x % m, rfl, Int.emod_nonneg _ hm, Int.emod_lt_of_pos _ (by omega)⟩, R, K⟩
def IsBool (v : Value) : Prop := ∃ b, v = .bool b
set_option maxRecDepth 100000 in
set_option maxHeartbeats 1000000 in
theorem once_any (m : Int) (h2 : 2 ≤ m) (h256 : m ≤ 256) (g : Nat) (ao : Option Addr) (n cap : Nat) (cs : List Int) (w : World) (h : Rdr w g ao n cap cs) :
    Calls Try.prog 45 #[.pointer (some ⟨g, 0, none⟩), .int .i64 m] w (RdP g ao n cap cs IsBool w) := by
  go_enter Try.func45, Try.ntmps45
  go_wp2_with fail
  refine (below_any m h2 h256 g ao n cap cs _ h).mono ?_
  rintro e w1 ⟨_, rfl, ⟨x, rfl, x0, x1⟩, R, K⟩
  go_wp2
  go_ret
  exact ⟨_, rfl, ⟨_, rfl⟩, R, K⟩
theorem Rd.kept {w w' : World} {g : Nat} {ao bo : Option Addr} {n cap : Nat} {cs ds : List Int} (h : Rd w bo ds) (R : Rdr w g ao n cap cs) (K : Kept g w w') : Rd w' bo ds := by
  intro i hi
  obtain ⟨b, off, e, hb, hc⟩ := h i hi
  refine ⟨b, off, e, Nat.lt_of_lt_of_le hb K.size, ?_⟩
  by_cases hg : b = g
  · subst hg
    by_cases h1 : off + i = 1
    · exfalso
      obtain ⟨p, _, B⟩ := R.blk
      have := B.c 1 rfl
      rw [h1, this] at hc
      cases hc
    · exact (K.other _ h1 hb).trans hc
  · exact (World.cell?_of_block (w := w) (K.block b hb hg)).trans hc
theorem IsNum.kept {w w' : World} {g : Nat} {ao bo : Option Addr} {n cap m c : Nat} {cs ds : List Int} {s : Bool} {z : Int} {k : Nat} (h : IsNum w s bo m c ds z k) (R : Rdr w g ao n cap cs) (K : Kept g w w') : IsNum w' s bo m c ds z k :=
  ⟨h.neg, h.len, h.cap, h.rd.kept R K, h.nrm, h.val, h.le⟩
end Go.Proofs.Ytlfogfjehdgjmaa
