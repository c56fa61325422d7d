/- Part 2 of the walks that the proof leans on. -/
import Derived.Test.YtjcpdihdlklapaaDoorRl1
import Derived.Deep.RegionHeld3
import Derived.Deep.DeepCutAuto
import Derived.Deep.QuietTactic
import Derived.BigQuiet
import Derived.Deep.MidRow
import Derived.Test.YtjcpdihdlklapaaDoorRows
import Derived.ProofKit
import Derived.Lib.SmallJoins
import Derived.Deep.Strs
import Derived.Deep.OwnRows
import Derived.Lib.Join
import Derived.Lib.ItoaNum
import Derived.Lib.SplitLaws
import Derived.Laws.BitsLemmas
namespace Go.Proofs.YtjcpdihdlklapaaDoor
open Go.RowKit
structure AddI (w wr : World) (xs ys : List Int) (k c : Nat) (cv : Int) (zs : List Int) : Prop where
 len : zs.length = k
 dig : Dig zs
 eq : val zs + cv * pw k = val (xs.take k) + val (ys.take k)
 own : wr.ownsRow w.heap.size 79 1 (.slice (some ⟨w.heap.size, 0, none⟩) k c) k (zs.map (Value.int .u32))
 below : Below w.heap.size w wr
theorem add_eq (xs ys zs : List Int) (k : Nat) (hl : zs.length = k) (cv x : Int) (eq : val zs + cv * pw k = val (xs.take k) + val (ys.take k)) (hx : x = cv + xs.getD k 0 + ys.getD k 0) :
   val (zs ++ [x % 4294967296]) + x / 4294967296 * pw (k + 1) = val (xs.take (k + 1)) + val (ys.take (k + 1)) := by
 rw [val_snoc, hl, val_take_getD, val_take_getD, pw]
 have e1 : pw k * (x % 4294967296) + x / 4294967296 * (4294967296 * pw k) = pw k * x := by
   have : x = x % 4294967296 + 4294967296 * (x / 4294967296) := by omega
   generalize x / 4294967296 = q at *
   generalize x % 4294967296 = r at *
   subst this
   grind
 have e2 : pw k * x = cv * pw k + pw k * xs.getD k 0 + pw k * ys.getD k 0 := by rw [hx]; grind
 omega
theorem add_step {w wr w2 : World} {xs ys : List Int} {k c : Nat} {cv : Int} {zs : List Int} (hI : AddI w wr xs ys k c cv zs) (x : Int) (hx : x = cv + xs.getD k 0 + ys.getD k 0) {o : Obj}
   (hown : w2.ownsRow w.heap.size 79 1 (.slice (some ⟨w.heap.size, 0, none⟩) (k + 1) c) (k + 1) (zs.map (Value.int .u32) ++ [.int .u32 (x % 4294967296)]))
   (hgrow : (wr.alloc o).grownBy w2 (some w.heap.size)) : AddI w w2 xs ys (k + 1) c (x / 4294967296) (zs ++ [x % 4294967296]) := by
 refine ⟨by simp [hI.len], dig_append.2 ⟨hI.dig, dig_cons.2 ⟨⟨by omega, by omega⟩, dig_nil⟩⟩, add_eq xs ys zs k hI.len cv x hI.eq hx, by simpa using hown, ?_⟩
 have hs := hI.below.size
 refine (hI.below.alloc hs o).grown hgrow (by simp; omega) ?_
 intro j hj
 cases hj
 exact Nat.le_refl _
def DigleP (k : Nat) (z : Int) (w : World) (e : Ending) (w' : World) : Prop :=
 ∃ (ao : Option Addr) (n cap : Nat) (zs : List Int), e = .returned (.slice ao n cap) ∧ zs.length = n ∧ n ≤ cap ∧ n ≤ k ∧ Dig zs ∧ val zs = z ∧ Rd w' ao zs ∧ Below w.heap.size w w'
theorem add_done {w wr : World} {n : Nat} {xs ys : List Int} {zs : List Int} (hI : AddI w wr xs ys n (n + 1) 0 zs) (hx : xs.length = n) (hy : ys.length ≤ n) :
   DigleP (n + 1) (val xs + val ys) w (.returned (.slice (some ⟨w.heap.size, 0, none⟩) n (n + 1))) wr := by
 refine ⟨_, n, n + 1, zs, rfl, hI.len, by omega, by omega, hI.dig, ?_, Rd.own hI.own hI.len, hI.below⟩
 have := hI.eq
 rw [val_take_all xs n (by omega), val_take_all ys n hy] at this
 simpa using this
theorem add_done1 {w wr w2 : World} {n : Nat} {xs ys : List Int} {cv : Int} {zs : List Int} (hI : AddI w wr xs ys n (n + 1) cv zs) (h0 : 0 ≤ cv) (h1 : cv < 4294967296) (hx : xs.length = n) (hy : ys.length ≤ n) {o : Obj}
   (hown : w2.ownsRow w.heap.size 79 1 (.slice (some ⟨w.heap.size, 0, none⟩) (n + 1) (n + 1)) (n + 1) (zs.map (Value.int .u32) ++ [.int .u32 cv])) (hgrow : (wr.alloc o).grownBy w2 (some w.heap.size)) :
   DigleP (n + 1) (val xs + val ys) w (.returned (.slice (some ⟨w.heap.size, 0, none⟩) (n + 1) (n + 1))) w2 := by
 have hl : (zs ++ [cv]).length = n + 1 := by simp [hI.len]
 refine ⟨_, n + 1, n + 1, zs ++ [cv], rfl, hl, Nat.le_refl _, Nat.le_refl _, dig_append.2 ⟨hI.dig, dig_cons.2 ⟨⟨h0, h1⟩, dig_nil⟩⟩, ?_, Rd.own (by simpa using hown) hl, ?_⟩
 · have := hI.eq
   rw [val_take_all xs n (by omega), val_take_all ys n hy] at this
   rw [val_snoc, hI.len, Int.mul_comm, this]
 · have hs := hI.below.size
   refine (hI.below.alloc hs o).grown hgrow (by simp; omega) ?_
   intro j hj
   cases hj
   exact Nat.le_refl _
set_option maxRecDepth 100000 in
set_option maxHeartbeats 1000000 in
theorem addAbs_ge (ao bo : Option Addr) (n m ca cb : Nat) (xs ys : List Int) (w : World) (hx : xs.length = n) (hy : ys.length = m) (dx : Dig xs) (dy : Dig ys) (rx : Rd w ao xs) (ry : Rd w bo ys) (hm : n ≤ 1000000) (hnm : m ≤ n) :
   Calls Tryd.prog 64 #[.slice ao n ca, .slice bo m cb] w (DigleP (n + 1) (val xs + val ys) w) := by
 obtain ⟨i0, hi, hz0, hz1, hz2⟩ := info_parts Tryd.info88
 have HX : Hid (xs.length = n) := hx
 have HY : Hid (ys.length = m) := hy
 have HDX : Hid (Dig xs) := dx
 have HDY : Hid (Dig ys) := dy
 have HRX : Hid (Rd w ao xs) := rx
 have HRY : Hid (Rd w bo ys) := ry
 have hnm' : ¬ n < m := by omega
 clear rx ry dx dy hx hy
 go_enter Tryd.func64, Tryd.ntmps64
 go_wp2_with (at_make; refine wpList_make_own _ rfl _ _ 60 rfl w.heap.size 79 i0 (.int .u32 0) 1 Tryd.underlying60 hi hz0 hz1 _ _ _ (n + 1) rfl rfl (by omega) (by rw [hz2]; omega) (by unfold maxLen; omega) (Nat.le_refl _) ?_)
 intro w1 hown hgrow
 have HS : AddI w w1 xs ys 0 (n + 1) 0 [] := ⟨rfl, dig_nil, by simp [val], hown, (Below.refl _ _).grown hgrow (Nat.le_refl _) (by simp)⟩
 clear hown hgrow
 go_wp2
 go_loopw [5, 6, 7] (fun o c i wr => ∃ (k : Nat) (cv : Int) (zs : List Int), k ≤ n ∧ i = .int .i64 k ∧ 0 ≤ cv ∧ cv ≤ 1 ∧ c = .int .u64 cv ∧ o = .slice (some ⟨w.heap.size, 0, none⟩) k (n + 1) ∧ AddI w wr xs ys k (n + 1) cv zs) (fun _ _ i _ => n - (intOf i).toNat)
 case atStart => exact ⟨0, 0, [], Nat.zero_le _, rfl, by decide, by decide, rfl, rfl, HS⟩
 case round =>
   obtain ⟨k, cv, zs, hk, rfl, hc0, hc1, rfl, rfl, hI⟩ := hrel
   clear HS
   by_cases hkn : k < n
   · have hkx : k < xs.length := by have := HX.out; omega
     obtain ⟨b, off, rfl, hbl, hcx0⟩ := HRX.out k hkx
     have hcx := (hI.below.cell (p := ⟨b, off + k, none⟩) hbl).trans hcx0
     clear hcx0
     obtain ⟨hx0, hx1⟩ := dig_at HDX.out k hkx
     by_cases hkm : k < m
     · have hky : k < ys.length := by have := HY.out; omega
       obtain ⟨b', off', rfl, hbl', hcy0⟩ := HRY.out k hky
       have hcy := (hI.below.cell (p := ⟨b', off' + k, none⟩) hbl').trans hcy0
       clear hcy0
       obtain ⟨hy0, hy1⟩ := dig_at HDY.out k hky
       go_wp2_with (at_builtin; refine wpList_append_fits _ rfl _ _ 60 rfl w.heap.size 79 i0 1 Tryd.underlying60 hi hz1 w.heap.size k (n + 1) _ rfl (hI.own.alloc _) ⟨wr.heap.size, 0, none⟩ 1 1 [.int .u32 ((cv + xs[k] + ys[k]) % 4294967296)] rfl rfl (cell_one_new _ _ _) (one_cell _ _) (by omega) ?_)
       intro w2 hown2 hgrow2
       go_wp2
       go_roundw
       case rel => exact ⟨k + 1, (cv + xs[k] + ys[k]) / 4294967296, _, by omega, by go_num, by omega, by omega, rfl, rfl, add_step hI _ (by simp [List.getD, hkx, hky]) hown2 hgrow2⟩
       case measure => simp [intOf]; omega
     · have hky : ¬ k < ys.length := by have := HY.out; omega
       go_wp2_with (at_builtin; refine wpList_append_fits _ rfl _ _ 60 rfl w.heap.size 79 i0 1 Tryd.underlying60 hi hz1 w.heap.size k (n + 1) _ rfl (hI.own.alloc _) ⟨wr.heap.size, 0, none⟩ 1 1 [.int .u32 ((cv + xs[k]) % 4294967296)] rfl rfl (cell_one_new _ _ _) (one_cell _ _) (by omega) ?_)
       intro w2 hown2 hgrow2
       go_wp2
       go_roundw
       case rel => exact ⟨k + 1, (cv + xs[k]) / 4294967296, _, by omega, by go_num, by omega, by omega, rfl, rfl, add_step hI _ (by simp [List.getD, hkx, hky]) hown2 hgrow2⟩
       case measure => simp [intOf]; omega
   · obtain rfl : k = n := by omega
     by_cases hcp : 0 < cv
     · obtain rfl : cv = 1 := by omega
       go_wp2_with (at_builtin; refine wpList_append_fits _ rfl _ _ 60 rfl w.heap.size 79 i0 1 Tryd.underlying60 hi hz1 w.heap.size k (k + 1) _ rfl (hI.own.alloc _) ⟨wr.heap.size, 0, none⟩ 1 1 [.int .u32 1] rfl rfl (cell_one_new _ _ _) (one_cell _ _) (by omega) ?_)
       intro w2 hown2 hgrow2
       go_wp2
       go_ret
       exact add_done1 hI (by omega) (by omega) HX.out (by have := HY.out; omega) hown2 hgrow2
     · obtain rfl : cv = 0 := by omega
       go_wp2
       go_ret
       exact add_done hI HX.out (by have := HY.out; omega)
set_option maxRecDepth 100000 in
set_option maxHeartbeats 1000000 in
theorem addAbs_lt (ao bo : Option Addr) (n m ca cb : Nat) (xs ys : List Int) (w : World) (hx : xs.length = n) (hy : ys.length = m) (dx : Dig xs) (dy : Dig ys) (rx : Rd w ao xs) (ry : Rd w bo ys) (hm : n ≤ 1000000) (hnm : m < n) :
   Calls Tryd.prog 64 #[.slice bo m cb, .slice ao n ca] w (DigleP (n + 1) (val xs + val ys) w) := by
 obtain ⟨i0, hi, hz0, hz1, hz2⟩ := info_parts Tryd.info88
 have HX : Hid (xs.length = n) := hx
 have HY : Hid (ys.length = m) := hy
 have HDX : Hid (Dig xs) := dx
 have HDY : Hid (Dig ys) := dy
 have HRX : Hid (Rd w ao xs) := rx
 have HRY : Hid (Rd w bo ys) := ry
 clear rx ry dx dy hx hy
 go_enter Tryd.func64, Tryd.ntmps64
 go_wp2_with (at_make; refine wpList_make_own _ rfl _ _ 60 rfl w.heap.size 79 i0 (.int .u32 0) 1 Tryd.underlying60 hi hz0 hz1 _ _ _ (n + 1) rfl rfl (by omega) (by rw [hz2]; omega) (by unfold maxLen; omega) (Nat.le_refl _) ?_)
 intro w1 hown hgrow
 have HS : AddI w w1 xs ys 0 (n + 1) 0 [] := ⟨rfl, dig_nil, by simp [val], hown, (Below.refl _ _).grown hgrow (Nat.le_refl _) (by simp)⟩
 clear hown hgrow
 go_wp2
 go_loopw [5, 6, 7] (fun o c i wr => ∃ (k : Nat) (cv : Int) (zs : List Int), k ≤ n ∧ i = .int .i64 k ∧ 0 ≤ cv ∧ cv ≤ 1 ∧ c = .int .u64 cv ∧ o = .slice (some ⟨w.heap.size, 0, none⟩) k (n + 1) ∧ AddI w wr xs ys k (n + 1) cv zs) (fun _ _ i _ => n - (intOf i).toNat)
 case atStart => exact ⟨0, 0, [], Nat.zero_le _, rfl, by decide, by decide, rfl, rfl, HS⟩
 case round =>
   obtain ⟨k, cv, zs, hk, rfl, hc0, hc1, rfl, rfl, hI⟩ := hrel
   clear HS
   by_cases hkn : k < n
   · have hkx : k < xs.length := by have := HX.out; omega
     obtain ⟨b, off, rfl, hbl, hcx0⟩ := HRX.out k hkx
     have hcx := (hI.below.cell (p := ⟨b, off + k, none⟩) hbl).trans hcx0
     clear hcx0
     obtain ⟨hx0, hx1⟩ := dig_at HDX.out k hkx
     by_cases hkm : k < m
     · have hky : k < ys.length := by have := HY.out; omega
       obtain ⟨b', off', rfl, hbl', hcy0⟩ := HRY.out k hky
       have hcy := (hI.below.cell (p := ⟨b', off' + k, none⟩) hbl').trans hcy0
       clear hcy0
       obtain ⟨hy0, hy1⟩ := dig_at HDY.out k hky
       go_wp2_with (at_builtin; refine wpList_append_fits _ rfl _ _ 60 rfl w.heap.size 79 i0 1 Tryd.underlying60 hi hz1 w.heap.size k (n + 1) _ rfl (hI.own.alloc _) ⟨wr.heap.size, 0, none⟩ 1 1 [.int .u32 ((cv + xs[k] + ys[k]) % 4294967296)] rfl rfl (cell_one_new _ _ _) (one_cell _ _) (by omega) ?_)
       intro w2 hown2 hgrow2
       go_wp2
       go_roundw
       case rel => exact ⟨k + 1, (cv + xs[k] + ys[k]) / 4294967296, _, by omega, by go_num, by omega, by omega, rfl, rfl, add_step hI _ (by simp [List.getD, hkx, hky]) hown2 hgrow2⟩
       case measure => simp [intOf]; omega
     · have hky : ¬ k < ys.length := by have := HY.out; omega
       go_wp2_with (at_builtin; refine wpList_append_fits _ rfl _ _ 60 rfl w.heap.size 79 i0 1 Tryd.underlying60 hi hz1 w.heap.size k (n + 1) _ rfl (hI.own.alloc _) ⟨wr.heap.size, 0, none⟩ 1 1 [.int .u32 ((cv + xs[k]) % 4294967296)] rfl rfl (cell_one_new _ _ _) (one_cell _ _) (by omega) ?_)
       intro w2 hown2 hgrow2
       go_wp2
       go_roundw
       case rel => exact ⟨k + 1, (cv + xs[k]) / 4294967296, _, by omega, by go_num, by omega, by omega, rfl, rfl, add_step hI _ (by simp [List.getD, hkx, hky]) hown2 hgrow2⟩
       case measure => simp [intOf]; omega
   · obtain rfl : k = n := by omega
     by_cases hcp : 0 < cv
     · obtain rfl : cv = 1 := by omega
       go_wp2_with (at_builtin; refine wpList_append_fits _ rfl _ _ 60 rfl w.heap.size 79 i0 1 Tryd.underlying60 hi hz1 w.heap.size k (k + 1) _ rfl (hI.own.alloc _) ⟨wr.heap.size, 0, none⟩ 1 1 [.int .u32 1] rfl rfl (cell_one_new _ _ _) (one_cell _ _) (by omega) ?_)
       intro w2 hown2 hgrow2
       go_wp2
       go_ret
       exact add_done1 hI (by omega) (by omega) HX.out (by have := HY.out; omega) hown2 hgrow2
     · obtain rfl : cv = 0 := by omega
       go_wp2
       go_ret
       exact add_done hI HX.out (by have := HY.out; omega)
theorem addAbs_any (ao bo : Option Addr) (n m ca cb k : Nat) (xs ys : List Int) (w : World) (hx : xs.length = n) (hy : ys.length = m) (dx : Dig xs) (dy : Dig ys) (rx : Rd w ao xs) (ry : Rd w bo ys) (h1 : n ≤ k) (h2 : m ≤ k) (hk : k ≤ 1000000) :
   Calls Tryd.prog 64 #[.slice ao n ca, .slice bo m cb] w (DigleP (k + 1) (val xs + val ys) w) := by
 by_cases hnm : m ≤ n
 · refine (addAbs_ge ao bo n m ca cb xs ys w hx hy dx dy rx ry (by omega) hnm).mono ?_
   rintro e w' ⟨a, l, c, zs, he, g1, g2, g3, g⟩
   exact ⟨a, l, c, zs, he, g1, g2, by omega, g⟩
 · refine (addAbs_lt bo ao m n cb ca ys xs w hy hx dy dx ry rx (by omega) (by omega)).mono ?_
   rintro e w' ⟨a, l, c, zs, he, g1, g2, g3, g4, g5, g6, g7⟩
   exact ⟨a, l, c, zs, he, g1, g2, by omega, g4, by rw [g5, Int.add_comm], g6, g7⟩
structure Two (w W : World) (A0 A1 B0 B1 : Value) : Prop where
 a0 : W.cell? ⟨w.heap.size, 0, none⟩ = some A0
 a1 : W.cell? ⟨w.heap.size, 1, none⟩ = some A1
 b0 : W.cell? ⟨w.heap.size + 1, 0, none⟩ = some B0
 b1 : W.cell? ⟨w.heap.size + 1, 1, none⟩ = some B1
 r0 : W.cell? ⟨w.heap.size + 1 + 1, 0, none⟩ = some (.bool false)
 r1 : W.cell? ⟨w.heap.size + 1 + 1, 1, none⟩ = some (.slice none 0 0)
 f0 : W.frozen? ⟨w.heap.size + 1 + 1, 0, none⟩ = false
 f1 : W.frozen? ⟨w.heap.size + 1 + 1, 1, none⟩ = false
 sz : w.heap.size + 1 + 1 < W.heap.size
 below : Below w.heap.size w W
theorem two_start (w : World) (A0 A1 B0 B1 : Value) : Two w (((w.alloc (Obj.cells #[A0, A1] 62)).alloc (Obj.cells #[B0, B1] 62)).alloc (Obj.cells #[Value.bool false, Value.slice none 0 0] 62)) A0 A1 B0 B1 :=
 ⟨by simp [go_sem], by simp [go_sem], by simp [go_sem], by simp [go_sem], by simp [go_sem], by simp [go_sem], by simp [go_sem], by simp [go_sem], by simp, (((Below.refl _ _).alloc (Nat.le_refl _) _).alloc (by simp) _).alloc (by simp; omega) _⟩
theorem Two.step {w W W' : World} {A0 A1 B0 B1 : Value} (h : Two w W A0 A1 B0 B1) (hb : Below W.heap.size W W') : Two w W' A0 A1 B0 B1 := by
 have hs := h.sz
 have hc := fun b o (hl : b < W.heap.size) => hb.cell (p := ⟨b, o, none⟩) hl
 have hf := fun b o (hl : b < W.heap.size) => hb.frozen (p := ⟨b, o, none⟩) hl
 exact ⟨(hc _ _ (by omega)).trans h.a0, (hc _ _ (by omega)).trans h.a1, (hc _ _ (by omega)).trans h.b0, (hc _ _ (by omega)).trans h.b1, (hc _ _ hs).trans h.r0, (hc _ _ hs).trans h.r1, (hf _ _ hs).trans h.f0, (hf _ _ hs).trans h.f1,
   Nat.lt_of_lt_of_le hs hb.size, h.below.trans (hb.mono h.below.size)⟩
theorem Two.drew {w W : World} {A0 A1 B0 B1 : Value} (h : Two w W A0 A1 B0 B1) : Two w W.drew A0 A1 B0 B1 := ⟨h.a0, h.a1, h.b0, h.b1, h.r0, h.r1, h.f0, h.f1, h.sz, h.below.drew⟩
theorem two_keep {w W : World} {u v : Value} (a o : Nat) {c : Value} (ha : a ≠ w.heap.size + 1 + 1) (hc : W.cell? ⟨a, o, none⟩ = some c) :
   ((W.setCell ⟨w.heap.size + 1 + 1, 0, none⟩ u).setCell ⟨w.heap.size + 1 + 1, 1, none⟩ v).cell? ⟨a, o, none⟩ = some c := by
 have hn : ∀ j, (⟨w.heap.size + 1 + 1, j, none⟩ : Addr) ≠ ⟨a, o, none⟩ := by intro j e; simp only [Addr.mk.injEq] at e; exact ha e.1.symm
 rw [World.cell?_setCell_other _ _ _ _ (hn 1), World.cell?_setCell_other _ _ _ _ (hn 0)]
 exact hc
theorem abs_add {x y : Int} (h : decide (x < 0) = decide (y < 0)) : ((x.natAbs : Int) + y.natAbs) = ((x + y).natAbs : Int) := by
 have : (x < 0) ↔ (y < 0) := by simpa using h
 omega
theorem sign_add {x y : Int} {s : Bool} (h1 : s = decide (x < 0)) (h : decide (x < 0) = decide (y < 0)) : x + y ≠ 0 → s = decide (x + y < 0) := by
 intro hz
 rw [h1]
 have : (x < 0) ↔ (y < 0) := by simpa using h
 rw [decide_eq_decide]; omega
theorem abs_sub {x y : Int} {s t : Bool} (hs : s = decide (x < 0)) (ht : t = decide (y < 0)) (hne : s ≠ t) (h : (y.natAbs : Int) ≤ x.natAbs) : ((x.natAbs : Int) - y.natAbs) = ((x + y).natAbs : Int) ∧ (x + y ≠ 0 → s = decide (x + y < 0)) := by
 have : ¬ ((x < 0) ↔ (y < 0)) := by intro h'; apply hne; rw [hs, ht, decide_eq_decide]; exact h'
 constructor
 · omega
 · intro hz; rw [hs, decide_eq_decide]; omega
theorem num_ret' {w w3 : World} {s : Bool} {ao : Option Addr} {n cap : Nat} {ds : List Int} {z : Int} {k R : Nat} {b0 : Bool} {a0 : Option Addr} {n0 c0 : Nat} (hR : w.heap.size ≤ R) (h0 : w3.cell? ⟨R, 0, none⟩ = some (.bool b0)) (h1 : w3.cell? ⟨R, 1, none⟩ = some (.slice a0 n0 c0))
   (h : IsNum w3 s ao n cap ds z k) (hb : Below w.heap.size w w3) {w4 : World} (hw : w4 = ((w3.setCell ⟨R, 0, none⟩ (.bool s)).setCell ⟨R, 1, none⟩ (.slice ao n cap)).drew ∨ w4 = (w3.setCell ⟨R, 0, none⟩ (.bool s)).setCell ⟨R, 1, none⟩ (.slice ao n cap) := by first | exact Or.inl rfl | exact Or.inr rfl) :
   NumP k z w (.returned (.agg #[.bool s, .slice ao n cap])) w4 := by
 obtain ⟨s', ao', n', cap', ds', e, hN, hB⟩ := num_ret hR h0 h1 h hb
 rcases hw with rfl | rfl
 · exact ⟨s', ao', n', cap', ds', e, ⟨hN.neg, hN.len, hN.cap, hN.rd, hN.nrm, hN.val, hN.le⟩, hB.drew⟩
 · exact ⟨s', ao', n', cap', ds', e, hN, hB⟩
def Nn (z : Int) : Prop := 0 ≤ z
def Ng (z : Int) : Prop := z < 0
set_option maxRecDepth 100000 in
set_option maxHeartbeats 1000000 in
theorem add_same (s : Bool) (ao bo : Option Addr) (n m ca cb k : Nat) (xs ys : List Int) (x y : Int) (w : World) (hx : IsNum w s ao n ca xs x k) (hy : IsNum w s bo m cb ys y k) (hk : k ≤ 1000000) :
   Calls Tryd.prog 51 #[.agg #[.bool s, .slice ao n ca], .agg #[.bool s, .slice bo m cb]] w (NumP (k + 1) (x + y) w) := by
 have hss : (s == s) = true := by simp
 have hsg : decide (x < 0) = decide (y < 0) := hx.neg.symm.trans hy.neg
 have HV : Hid (val xs + val ys = ((x + y).natAbs : Int) ∧ (x + y ≠ 0 → s = decide (x + y < 0))) := ⟨by rw [hx.val, hy.val]; exact abs_add hsg, sign_add hx.neg hsg⟩
 have HX : Hid (xs.length = n) := hx.len
 have HY : Hid (ys.length = m) := hy.len
 have hnk := hx.le
 have hmk := hy.le
 have dx := hx.nrm.1
 have dy := hy.nrm.1
 have T0 := two_start w (.bool s) (.slice ao n ca) (.bool s) (.slice bo m cb)
 have rx := hx.rd.below T0.below (Nat.le_refl _)
 have ry := hy.rd.below T0.below (Nat.le_refl _)
 clear hsg hx hy
 go_enter Tryd.func51, Tryd.ntmps51
 go_wp2
 generalize ((w.alloc (Obj.cells #[Value.bool s, Value.slice ao n ca] 62)).alloc (Obj.cells #[Value.bool s, Value.slice bo m cb] 62)).alloc (Obj.cells #[Value.bool false, Value.slice none 0 0] 62) = W at *
 go_region_held3 (fun w' => w'.cell? ⟨w.heap.size, 0, none⟩ = some (.bool s) ∧ w'.cell? ⟨w.heap.size, 1, none⟩ = some (.slice ao n ca) ∧ w'.cell? ⟨w.heap.size + 1, 1, none⟩ = some (.slice bo m cb)) (first | exact ⟨two_keep _ _ (by omega) T2.a0, two_keep _ _ (by omega) T2.a1, two_keep _ _ (by omega) T2.b1⟩ | exact ⟨T2.a0, T2.a1, T2.b1⟩ | exact ⟨T1.a0, T1.a1, T1.b1⟩ | exact ⟨T0.a0, T0.a1, T0.b1⟩)
   (first
     | (go_at_call 64; refine (addAbs_any ao bo n m ca cb k xs ys _ HX.out HY.out dx dy (by exact rx) (by exact ry) hnk hmk hk).mono ?_; rintro e w1 ⟨ao1, n1, c1, zs, rfl, p1, p2, p3, p4, p5, p6, p7⟩; have T1 := T0.drew.step p7; clear p7)
     | (go_at_call 44; refine (trim_any s _ _ _ zs _ p1 p2 p4 p6 (by omega)).mono ?_; rintro e w2 ⟨neg', ao', n', cap', ds', rfl, k1, k2, k3, k4, k5, k6, k7, k8⟩; have T2 := T1.step k8; have HN := num_of (z := x + y) (k := k + 1) k1 k2 (by omega) k4 (k5.trans p5) (k6.trans (by rw [p5])) k7 HV.out.1 HV.out.2; have c0 := T2.r0; have c1 := T2.r1; have f0 := T2.f0; have f1 := T2.f1; clear k1 k2 k3 k4 k5 k6 k7 k8))
 all_goals go_wp2
 all_goals refine bodyPost_ret (v := .agg #[.bool neg', .slice ao' n' cap']) (by simp [results, Tryd.results51, go_sem, c0, c1]) rfl ?_
 all_goals exact num_ret' (by omega) c0 c1 HN T2.below
set_option maxRecDepth 100000 in
set_option maxHeartbeats 1000000 in
theorem add_ge (s t : Bool) (hst : s ≠ t) (ao bo : Option Addr) (n m ca cb k : Nat) (xs ys : List Int) (x y : Int) (w : World) (hx : IsNum w s ao n ca xs x k) (hy : IsNum w t bo m cb ys y k) (hk : k ≤ 1000000) (hle : val ys ≤ val xs) :
   Calls Tryd.prog 51 #[.agg #[.bool s, .slice ao n ca], .agg #[.bool t, .slice bo m cb]] w (NumP (k + 1) (x + y) w) := by
 have hss : (s == t) = false := by simpa using hst
 have HV : Hid (val xs - val ys = ((x + y).natAbs : Int) ∧ (x + y ≠ 0 → s = decide (x + y < 0))) := by have := hle; rw [hx.val, hy.val] at this ⊢; exact abs_sub hx.neg hy.neg hst this
 have HX : Hid (xs.length = n) := hx.len
 have HY : Hid (ys.length = m) := hy.len
 have hnk := hx.le
 have hmk := hy.le
 have NX := hx.nrm
 have NY := hy.nrm
 have HLE : Hid (val ys ≤ val xs) := hle
 have T0 := two_start w (.bool s) (.slice ao n ca) (.bool t) (.slice bo m cb)
 have rx := hx.rd.below T0.below (Nat.le_refl _)
 have ry := hy.rd.below T0.below (Nat.le_refl _)
 have hcc : Nn (cmpI (val xs) (val ys)) := by show 0 ≤ _; unfold cmpI; split <;> (try split) <;> omega
 clear hx hy hst hle
 go_enter Tryd.func51, Tryd.ntmps51
 go_wp2_with fail
 generalize ((w.alloc (Obj.cells #[Value.bool s, Value.slice ao n ca] 62)).alloc (Obj.cells #[Value.bool t, Value.slice bo m cb] 62)).alloc (Obj.cells #[Value.bool false, Value.slice none 0 0] 62) = W0 at *
 refine (cmpAbs_any ao bo n m ca cb xs ys _ HX.out HY.out NX NY rx ry (by omega) (by omega)).mono ?_
 rintro e W ⟨rfl, hB⟩
 have T := T0.step hB
 have rx := rx.below hB (Nat.le_refl _)
 have ry := ry.below hB (Nat.le_refl _)
 generalize cmpI (val xs) (val ys) = cc at *
 have hcc : 0 ≤ cc := hcc
 clear T0 hB
 have T0 := T
 clear T
 go_wp2
 go_region_held3 (fun w' => w'.cell? ⟨w.heap.size, 0, none⟩ = some (.bool s) ∧ w'.cell? ⟨w.heap.size, 1, none⟩ = some (.slice ao n ca) ∧ w'.cell? ⟨w.heap.size + 1, 1, none⟩ = some (.slice bo m cb)) (first | exact ⟨two_keep _ _ (by omega) T2.a0, two_keep _ _ (by omega) T2.a1, two_keep _ _ (by omega) T2.b1⟩ | exact ⟨T2.a0, T2.a1, T2.b1⟩ | exact ⟨T1.a0, T1.a1, T1.b1⟩ | exact ⟨T0.a0, T0.a1, T0.b1⟩)
   (first
     | (go_at_call 66; refine (subAbs_any ao bo n m ca cb xs ys _ HX.out HY.out NX.1 NY.1 (by exact rx) (by exact ry) (by omega) (by omega) HLE.out).mono ?_; rintro e w1 ⟨ao1, c1, zs, rfl, p1, p2, p4, p5, p6, p7⟩; have T1 := T0.drew.step p7; clear p7)
     | (go_at_call 44; refine (trim_any s _ _ _ zs _ p1 p2 p4 p6 (by omega)).mono ?_; rintro e w2 ⟨neg', ao', n', cap', ds', rfl, k1, k2, k3, k4, k5, k6, k7, k8⟩; have T2 := T1.step k8; have HN := num_of (z := x + y) (k := k + 1) k1 k2 (by omega) k4 (k5.trans p5) (k6.trans (by rw [p5])) k7 HV.out.1 HV.out.2; have c0 := T2.r0; have c1 := T2.r1; have f0 := T2.f0; have f1 := T2.f1; clear k1 k2 k3 k4 k5 k6 k7 k8))
 all_goals go_wp2
 all_goals refine bodyPost_ret (v := .agg #[.bool neg', .slice ao' n' cap']) (by simp [results, Tryd.results51, go_sem, c0, c1]) rfl ?_
 all_goals exact num_ret' (by omega) c0 c1 HN T2.below
set_option maxRecDepth 100000 in
set_option maxHeartbeats 1000000 in
theorem add_lt (s t : Bool) (hst : s ≠ t) (ao bo : Option Addr) (n m ca cb k : Nat) (xs ys : List Int) (x y : Int) (w : World) (hx : IsNum w s ao n ca xs x k) (hy : IsNum w t bo m cb ys y k) (hk : k ≤ 1000000) (hle : val xs < val ys) :
   Calls Tryd.prog 51 #[.agg #[.bool s, .slice ao n ca], .agg #[.bool t, .slice bo m cb]] w (NumP (k + 1) (x + y) w) := by
 have hss : (s == t) = false := by simpa using hst
 have HV : Hid (val ys - val xs = ((x + y).natAbs : Int) ∧ (x + y ≠ 0 → t = decide (x + y < 0))) := by have := hle; rw [hx.val, hy.val] at this ⊢; have h := abs_sub hy.neg hx.neg (fun e => hst e.symm) (by omega); rw [Int.add_comm y x] at h; exact h
 have HX : Hid (xs.length = n) := hx.len
 have HY : Hid (ys.length = m) := hy.len
 have hnk := hx.le
 have hmk := hy.le
 have NX := hx.nrm
 have NY := hy.nrm
 have HLE : Hid (val xs < val ys) := hle
 have T0 := two_start w (.bool s) (.slice ao n ca) (.bool t) (.slice bo m cb)
 have rx := hx.rd.below T0.below (Nat.le_refl _)
 have ry := hy.rd.below T0.below (Nat.le_refl _)
 have hcc : Ng (cmpI (val xs) (val ys)) := by show _ < 0; rw [cmpI_lt hle]; decide
 clear hx hy hst hle
 go_enter Tryd.func51, Tryd.ntmps51
 go_wp2_with fail
 generalize ((w.alloc (Obj.cells #[Value.bool s, Value.slice ao n ca] 62)).alloc (Obj.cells #[Value.bool t, Value.slice bo m cb] 62)).alloc (Obj.cells #[Value.bool false, Value.slice none 0 0] 62) = W0 at *
 refine (cmpAbs_any ao bo n m ca cb xs ys _ HX.out HY.out NX NY rx ry (by omega) (by omega)).mono ?_
 rintro e W ⟨rfl, hB⟩
 have T := T0.step hB
 have rx := rx.below hB (Nat.le_refl _)
 have ry := ry.below hB (Nat.le_refl _)
 generalize cmpI (val xs) (val ys) = cc at *
 have hcc : ¬ 0 ≤ cc := by have : cc < 0 := hcc; omega
 clear T0 hB
 have T0 := T
 clear T
 go_wp2
 go_region_held3 (fun w' => w'.cell? ⟨w.heap.size + 1, 0, none⟩ = some (.bool t) ∧ w'.cell? ⟨w.heap.size + 1, 1, none⟩ = some (.slice bo m cb) ∧ w'.cell? ⟨w.heap.size, 1, none⟩ = some (.slice ao n ca)) (first | exact ⟨two_keep _ _ (by omega) T2.b0, two_keep _ _ (by omega) T2.b1, two_keep _ _ (by omega) T2.a1⟩ | exact ⟨T2.b0, T2.b1, T2.a1⟩ | exact ⟨T1.b0, T1.b1, T1.a1⟩ | exact ⟨T0.b0, T0.b1, T0.a1⟩)
   (first
     | (go_at_call 66; refine (subAbs_any bo ao m n cb ca ys xs _ HY.out HX.out NY.1 NX.1 (by exact ry) (by exact rx) (by omega) (by omega) (Int.le_of_lt HLE.out)).mono ?_; rintro e w1 ⟨ao1, c1, zs, rfl, p1, p2, p4, p5, p6, p7⟩; have T1 := T0.drew.step p7; clear p7)
     | (go_at_call 44; refine (trim_any t _ _ _ zs _ p1 p2 p4 p6 (by omega)).mono ?_; rintro e w2 ⟨neg', ao', n', cap', ds', rfl, k1, k2, k3, k4, k5, k6, k7, k8⟩; have T2 := T1.step k8; have HN := num_of (z := x + y) (k := k + 1) k1 k2 (by omega) k4 (k5.trans p5) (k6.trans (by rw [p5])) k7 HV.out.1 HV.out.2; have c0 := T2.r0; have c1 := T2.r1; have f0 := T2.f0; have f1 := T2.f1; clear k1 k2 k3 k4 k5 k6 k7 k8))
 all_goals go_wp2
 all_goals refine bodyPost_ret (v := .agg #[.bool neg', .slice ao' n' cap']) (by simp [results, Tryd.results51, go_sem, c0, c1]) rfl ?_
 all_goals exact num_ret' (by omega) c0 c1 HN T2.below
theorem add_any (s t : Bool) (ao bo : Option Addr) (n m ca cb k : Nat) (xs ys : List Int) (x y : Int) (w : World) (hx : IsNum w s ao n ca xs x k) (hy : IsNum w t bo m cb ys y k) (hk : k ≤ 1000000) :
   Calls Tryd.prog 51 #[.agg #[.bool s, .slice ao n ca], .agg #[.bool t, .slice bo m cb]] w (NumP (k + 1) (x + y) w) := by
 by_cases hst : s = t
 · subst hst
   exact add_same s ao bo n m ca cb k xs ys x y w hx hy hk
 · by_cases hle : val ys ≤ val xs
   · exact add_ge s t hst ao bo n m ca cb k xs ys x y w hx hy hk hle
   · exact add_lt s t hst ao bo n m ca cb k xs ys x y w hx hy hk (by omega)
theorem IsNum.drew {w : World} {s : Bool} {ao : Option Addr} {n cap : Nat} {ds : List Int} {z : Int} {k : Nat} (h : IsNum w s ao n cap ds z k) : IsNum w.drew s ao n cap ds z k := ⟨h.neg, h.len, h.cap, h.rd, h.nrm, h.val, h.le⟩
theorem IsNum.negated {w : World} {s : Bool} {ao : Option Addr} {n cap : Nat} {ds : List Int} {z : Int} {k : Nat} (h : IsNum w s ao n cap ds z k) (hz : z ≠ 0) : IsNum w (!s) ao n cap ds (-z) k :=
 ⟨by rw [h.neg]; by_cases h' : z < 0 <;> simp [h'] <;> omega, h.len, h.cap, h.rd, h.nrm, by rw [h.val]; omega, h.le⟩
set_option maxRecDepth 100000 in
set_option maxHeartbeats 400000 in
theorem neg_any (s : Bool) (ao : Option Addr) (n cap : Nat) (ds : List Int) (z : Int) (k : Nat) (w : World) (h : IsNum w s ao n cap ds z k) :
   Calls Tryd.prog 53 #[.agg #[.bool s, .slice ao n cap]] w (NumP k (-z) w) := by
 have h1 := h.zero
 have hB : ∀ o o', Below w.heap.size w ((w.alloc o).alloc o') := fun o o' => ((Below.refl _ _).alloc (Nat.le_refl _) o).alloc (by simp) o'
 by_cases hz : z = 0
 · subst hz
   have hn := h1.2 rfl
   subst hn
   have HH : Hid (IsNum w s ao 0 cap ds 0 k) := h
   clear h1 h
   go_enter Tryd.func53, Tryd.ntmps53
   go_wp2
   refine bodyPost_ret (v := .agg #[.bool s, .slice ao 0 cap]) (by simp [results, Tryd.results53, go_sem]) rfl ?_
   exact ⟨s, ao, 0, cap, ds, rfl, by simpa using HH.out.below (hB _ _), hB _ _⟩
 · have hn : ((n : Int) == 0) = false := beq_eq_false_iff_ne.2 (by have := fun h => hz (h1.1 h); omega)
   have HH : Hid (IsNum w (!s) ao n cap ds (-z) k) := h.negated hz
   clear h1 h
   go_enter Tryd.func53, Tryd.ntmps53
   go_wp2
   refine bodyPost_ret (v := .agg #[.bool (!s), .slice ao n cap]) (by simp [results, Tryd.results53, go_sem]) rfl ?_
   exact ⟨!s, ao, n, cap, ds, rfl, HH.out.below (hB _ _), hB _ _⟩
def SwP (z : Int) (w : World) (e : Ending) (w' : World) : Prop :=
 ∃ a3 a2 a1 a0, e = .returned (.agg #[.int .u64 a3, .int .u64 a2, .int .u64 a1, .int .u64 a0]) ∧ Word a3 ∧ Word a2 ∧ Word a1 ∧ Word a0 ∧ sw a3 a2 a1 a0 = z ∧ Below w.heap.size w w'
set_option maxRecDepth 100000 in
set_option maxHeartbeats 1000000 in
theorem implOf_any (n : Int) (w : World) (h0 : -9223372036854775808 ≤ n) (h1 : n ≤ 9223372036854775807) :
   Calls Tryd.prog 72 #[.int .i64 n] w (SwP n w) := by
 by_cases hn : n < 0
 · have hd1 : IntKind.u64.wrap (n / 9223372036854775808) = 18446744073709551615 := by rw [IntKind.wrap_u64]; omega
   have hd2 : IntKind.u64.wrap n = n + 18446744073709551616 := by rw [IntKind.wrap_u64]; omega
   go_enter Tryd.func72, Tryd.ntmps72
   go_wp2
   refine bodyPost_ret (v := .agg #[.int .u64 18446744073709551615, .int .u64 18446744073709551615, .int .u64 18446744073709551615, .int .u64 (n + 18446744073709551616)]) (by simp [results, Tryd.results72, go_sem]) rfl ?_
   refine ⟨_, _, _, _, rfl, ⟨by decide, by decide⟩, ⟨by decide, by decide⟩, ⟨by decide, by decide⟩, ⟨by omega, by omega⟩, ?_, (Below.refl _ _).alloc (Nat.le_refl _) _⟩
   unfold sw uw; rw [if_neg (by decide)]; omega
 · have hd1 : n / 9223372036854775808 = 0 := by omega
   go_enter Tryd.func72, Tryd.ntmps72
   go_wp2
   refine bodyPost_ret (v := .agg #[.int .u64 0, .int .u64 0, .int .u64 0, .int .u64 n]) (by simp [results, Tryd.results72, go_sem]) rfl ?_
   refine ⟨_, _, _, _, rfl, ⟨by decide, by decide⟩, ⟨by decide, by decide⟩, ⟨by decide, by decide⟩, ⟨by omega, by omega⟩, ?_, (Below.refl _ _).alloc (Nat.le_refl _) _⟩
   unfold sw uw; rw [if_pos (by decide)]; omega
structure Wd (W : World) (g : Nat) (a3 a2 a1 a0 : Int) : Prop where
 c0 : W.cell? ⟨g, 0, none⟩ = some (.int .u64 a3)
 c1 : W.cell? ⟨g, 1, none⟩ = some (.int .u64 a2)
 c2 : W.cell? ⟨g, 2, none⟩ = some (.int .u64 a1)
 c3 : W.cell? ⟨g, 3, none⟩ = some (.int .u64 a0)
 f0 : W.frozen? ⟨g, 0, none⟩ = false
 f1 : W.frozen? ⟨g, 1, none⟩ = false
 f2 : W.frozen? ⟨g, 2, none⟩ = false
 f3 : W.frozen? ⟨g, 3, none⟩ = false
 lt : g < W.heap.size
theorem words4 {a0 a1 a2 a3 : Int} (h0 : Word a0) (h1 : Word a1) (h2 : Word a2) (h3 : Word a3) : Words [a0, a1, a2, a3] := by
 intro d hd
 simp only [List.mem_cons, List.not_mem_nil, or_false] at hd
 rcases hd with rfl | rfl | rfl | rfl
 · exact h0
 · exact h1
 · exact h2
 · exact h3
theorem words4_of {a0 a1 a2 a3 : Int} (h : Words [a0, a1, a2, a3]) : Word a0 ∧ Word a1 ∧ Word a2 ∧ Word a3 := ⟨h _ (by simp), h _ (by simp), h _ (by simp), h _ (by simp)⟩
theorem wd0 : Word 0 := ⟨by decide, by decide⟩
theorem tw_cells {x0 x1 x2 x3 x4 x5 x6 x7 : Int} {w W : World} (h : ArgsB w W [[.int .u64 x0, .int .u64 x1, .int .u64 x2, .int .u64 x3, .int .u64 x4, .int .u64 x5, .int .u64 x6, .int .u64 x7], [.int .u64 0, .int .u64 0, .int .u64 0, .int .u64 0], [.int .u64 x3, .int .u64 x2, .int .u64 x1, .int .u64 x0]]) : (fun w' => w'.cell? ⟨w.heap.size, 0, none⟩ = some (.int .u64 x0) ∧ w'.cell? ⟨w.heap.size, 1, none⟩ = some (.int .u64 x1) ∧ w'.cell? ⟨w.heap.size, 2, none⟩ = some (.int .u64 x2) ∧ w'.cell? ⟨w.heap.size, 3, none⟩ = some (.int .u64 x3) ∧ w'.cell? ⟨w.heap.size, 4, none⟩ = some (.int .u64 x4) ∧ w'.cell? ⟨w.heap.size, 5, none⟩ = some (.int .u64 x5) ∧ w'.cell? ⟨w.heap.size, 6, none⟩ = some (.int .u64 x6) ∧ w'.cell? ⟨w.heap.size, 7, none⟩ = some (.int .u64 x7) ∧ w'.cell? ⟨w.heap.size + 1 + 1, 0, none⟩ = some (.int .u64 x3) ∧ w'.cell? ⟨w.heap.size + 1 + 1, 1, none⟩ = some (.int .u64 x2) ∧ w'.cell? ⟨w.heap.size + 1 + 1, 2, none⟩ = some (.int .u64 x1) ∧ w'.cell? ⟨w.heap.size + 1 + 1, 3, none⟩ = some (.int .u64 x0)) W :=
 ⟨(h.b 0 rfl).c 0 rfl, (h.b 0 rfl).c 1 rfl, (h.b 0 rfl).c 2 rfl, (h.b 0 rfl).c 3 rfl, (h.b 0 rfl).c 4 rfl, (h.b 0 rfl).c 5 rfl, (h.b 0 rfl).c 6 rfl, (h.b 0 rfl).c 7 rfl, (h.b 2 rfl).c 0 rfl, (h.b 2 rfl).c 1 rfl, (h.b 2 rfl).c 2 rfl, (h.b 2 rfl).c 3 rfl⟩
theorem tw_start (x0 x1 x2 x3 x4 x5 x6 x7 : Int) (w : World) : ArgsB w (((w.alloc (.cells #[.int .u64 x0, .int .u64 x1, .int .u64 x2, .int .u64 x3, .int .u64 x4, .int .u64 x5, .int .u64 x6, .int .u64 x7] 127)).alloc (.cells #[.int .u64 0, .int .u64 0, .int .u64 0, .int .u64 0] 111)).alloc (.cells #[.int .u64 x3, .int .u64 x2, .int .u64 x1, .int .u64 x0] 111)) [[.int .u64 x0, .int .u64 x1, .int .u64 x2, .int .u64 x3, .int .u64 x4, .int .u64 x5, .int .u64 x6, .int .u64 x7], [.int .u64 0, .int .u64 0, .int .u64 0, .int .u64 0], [.int .u64 x3, .int .u64 x2, .int .u64 x1, .int .u64 x0]] := by
 refine ⟨(((Below.refl _ _).alloc (Nat.le_refl _) _).alloc (by simp) _).alloc (by simp; omega) _, fun j vs hj => ?_⟩
 match j, hj with
 | 0, hj => cases hj; exact ((Blk.new w [.int .u64 x0, .int .u64 x1, .int .u64 x2, .int .u64 x3, .int .u64 x4, .int .u64 x5, .int .u64 x6, .int .u64 x7] 127 rfl).alloc _).alloc _
 | 1, hj => cases hj; exact (Blk.new (w.alloc (.cells #[.int .u64 x0, .int .u64 x1, .int .u64 x2, .int .u64 x3, .int .u64 x4, .int .u64 x5, .int .u64 x6, .int .u64 x7] 127)) [.int .u64 0, .int .u64 0, .int .u64 0, .int .u64 0] 111 (by simp)).alloc _
 | 2, hj => cases hj; exact Blk.new ((w.alloc (.cells #[.int .u64 x0, .int .u64 x1, .int .u64 x2, .int .u64 x3, .int .u64 x4, .int .u64 x5, .int .u64 x6, .int .u64 x7] 127)).alloc (.cells #[.int .u64 0, .int .u64 0, .int .u64 0, .int .u64 0] 111)) [.int .u64 x3, .int .u64 x2, .int .u64 x1, .int .u64 x0] 111 (by simp)
 | j + 3, hj => simp at hj
theorem words8_of {x0 x1 x2 x3 x4 x5 x6 x7 : Int} (h : Words [x0, x1, x2, x3, x4, x5, x6, x7]) : Word x0 ∧ Word x1 ∧ Word x2 ∧ Word x3 ∧ Word x4 ∧ Word x5 ∧ Word x6 ∧ Word x7 := ⟨h _ (by simp), h _ (by simp), h _ (by simp), h _ (by simp), h _ (by simp), h _ (by simp), h _ (by simp), h _ (by simp)⟩
theorem sl_told {x0 x1 x2 x3 x4 x5 x6 x7 : Int} (h : Words [x0, x1, x2, x3, x4, x5, x6, x7]) (he : x4 = fillW x3 ∧ x5 = fillW x3 ∧ x6 = fillW x3 ∧ x7 = fillW x3) : told (sl x0 x1 x2 x3 x4 x5 x6 x7) = true ∧ sw x3 x2 x1 x0 = sl x0 x1 x2 x3 x4 x5 x6 x7 := by
 obtain ⟨h0, h1, h2, h3, h4, h5, h6, h7⟩ := words8_of h
 obtain ⟨e4, e5, e6, e7⟩ := he
 have hs : sw x3 x2 x1 x0 = sl x0 x1 x2 x3 x4 x5 x6 x7 := by
   unfold sl sw uw fillW Word at *
   simp only [val64]
   by_cases p : x3 < 9223372036854775808
   · rw [if_pos p] at e4 e5 e6 e7 ⊢
     subst e4 e5 e6 e7
     rw [if_pos (by decide)]
     omega
   · rw [if_neg p] at e4 e5 e6 e7 ⊢
     subst e4 e5 e6 e7
     rw [if_neg (by decide)]
     omega
 refine ⟨?_, hs⟩
 rw [← hs]
 unfold told
 apply decide_eq_true
 unfold sw uw Word at *
 by_cases p : x3 < 9223372036854775808
 · rw [if_pos p]; omega
 · rw [if_neg p]; omega
theorem sl_not {x0 x1 x2 x3 x4 x5 x6 x7 : Int} (h : Words [x0, x1, x2, x3, x4, x5, x6, x7]) (he : ¬ (x4 = fillW x3 ∧ x5 = fillW x3 ∧ x6 = fillW x3 ∧ x7 = fillW x3)) : told (sl x0 x1 x2 x3 x4 x5 x6 x7) = false := by
 obtain ⟨h0, h1, h2, h3, h4, h5, h6, h7⟩ := words8_of h
 unfold told
 apply decide_eq_false
 intro hh
 unfold sl fillW Word at *
 simp only [val64] at hh
 by_cases p : x3 < 9223372036854775808 <;> by_cases q : x7 < 9223372036854775808
 · rw [if_pos p] at he; rw [if_pos q] at hh; omega
 · rw [if_pos p] at he; rw [if_neg q] at hh; omega
 · rw [if_neg p] at he; rw [if_pos q] at hh; omega
 · rw [if_neg p] at he; rw [if_neg q] at hh; omega
set_option maxRecDepth 100000 in
set_option maxHeartbeats 2000000 in
theorem eqLong (x0 x1 x2 x3 y4 y5 y6 y7 x4 x5 x6 x7 : Int) (w : World) : (Op.equalIn 10000 127 (L8 x0 x1 x2 x3 y4 y5 y6 y7) (L8 x0 x1 x2 x3 x4 x5 x6 x7)).run Tryd.prog w = .ok (y4 == x4 && y5 == x5 && y6 == x6 && y7 == x7) w := by
 have u3 := Tryd.underlying84
 have a3 := Tryd.isAgg84
 have z3 := Tryd.sizeOf84
 rw [show (10000 : Nat) = 9999 + 1 from rfl, Op.equalIn]
 simp only [Sem.run_bind, run_underlying Tryd.underlying127, Result.andThen_ok]
 simp only [Std.Legacy.Range.forIn_eq_forIn_range', Std.Legacy.Range.size, Nat.sub_zero, Nat.add_sub_cancel, Nat.div_one, List.range'_succ, List.range'_zero, List.forIn_cons, List.forIn_nil]
 go_simp
 by_cases h4 : y4 = x4 <;> by_cases h5 : y5 = x5 <;> by_cases h6 : y6 = x6 <;> by_cases h7 : y7 = x7 <;> simp [h4, h5, h6, h7]
set_option maxRecDepth 100000 in
set_option maxHeartbeats 2000000 in
theorem tellWide_any (x0 x1 x2 x3 x4 x5 x6 x7 : Int) (wx : Words [x0, x1, x2, x3, x4, x5, x6, x7]) (w : World) :
   Calls Tryd.prog 86 #[L8 x0 x1 x2 x3 x4 x5 x6 x7] w (TellP (sl x0 x1 x2 x3 x4 x5 x6 x7) w) := by
 have T0 := tw_start x0 x1 x2 x3 x4 x5 x6 x7 w
 have h3 := (words8_of wx).2.2.2.1
 have EQ : ∀ W : World, (Op.equalIn 10000 127 (L8 x0 x1 x2 x3 (fillW x3) (fillW x3) (fillW x3) (fillW x3)) (L8 x0 x1 x2 x3 x4 x5 x6 x7)).run Tryd.prog W = .ok (fillW x3 == x4 && fillW x3 == x5 && fillW x3 == x6 && fillW x3 == x7) W := eqLong _ _ _ _ _ _ _ _ _ _ _ _
 obtain ⟨B, hB0⟩ : ∃ B, (fillW x3 == x4 && fillW x3 == x5 && fillW x3 == x6 && fillW x3 == x7) = B := ⟨_, rfl⟩
 simp only [hB0] at EQ
 go_enter Tryd.func86, Tryd.ntmps86
 go_upto_region 2 with fail
 generalize (((w.alloc (.cells #[.int .u64 x0, .int .u64 x1, .int .u64 x2, .int .u64 x3, .int .u64 x4, .int .u64 x5, .int .u64 x6, .int .u64 x7] 127)).alloc (.cells #[.int .u64 0, .int .u64 0, .int .u64 0, .int .u64 0] 111)).alloc (.cells #[.int .u64 x3, .int .u64 x2, .int .u64 x1, .int .u64 x0] 111)) = W at *
 go_cut [17] (fun q wc => q = .bool (!B) ∧ ArgsB w wc [[.int .u64 x0, .int .u64 x1, .int .u64 x2, .int .u64 x3, .int .u64 x4, .int .u64 x5, .int .u64 x6, .int .u64 x7], [.int .u64 0, .int .u64 0, .int .u64 0, .int .u64 0], [.int .u64 x3, .int .u64 x2, .int .u64 x1, .int .u64 x0]])
 case first =>
   go_region_held3 (fun w' => w'.cell? ⟨w.heap.size, 0, none⟩ = some (.int .u64 x0) ∧ w'.cell? ⟨w.heap.size, 1, none⟩ = some (.int .u64 x1) ∧ w'.cell? ⟨w.heap.size, 2, none⟩ = some (.int .u64 x2) ∧ w'.cell? ⟨w.heap.size, 3, none⟩ = some (.int .u64 x3) ∧ w'.cell? ⟨w.heap.size, 4, none⟩ = some (.int .u64 x4) ∧ w'.cell? ⟨w.heap.size, 5, none⟩ = some (.int .u64 x5) ∧ w'.cell? ⟨w.heap.size, 6, none⟩ = some (.int .u64 x6) ∧ w'.cell? ⟨w.heap.size, 7, none⟩ = some (.int .u64 x7) ∧ w'.cell? ⟨w.heap.size + 1 + 1, 0, none⟩ = some (.int .u64 x3) ∧ w'.cell? ⟨w.heap.size + 1 + 1, 1, none⟩ = some (.int .u64 x2) ∧ w'.cell? ⟨w.heap.size + 1 + 1, 2, none⟩ = some (.int .u64 x1) ∧ w'.cell? ⟨w.heap.size + 1 + 1, 3, none⟩ = some (.int .u64 x0)) (first | (with_reducible exact tw_cells T0) | (with_reducible exact tw_cells T0.drew))
     ((go_at_call 95; refine (longOf_any x3 x2 x1 x0 h3 _).mono ?_; rintro e w1 ⟨rfl, hB⟩; (first | (have T1 := T0.step hB) | (have T1 := T0.drew.step hB)); clear T0; have T0 := T1; clear T1; clear hB))
   all_goals go_wp2_with fail
   all_goals go_meet
   all_goals first | exact ⟨rfl, T0⟩ | exact ⟨rfl, T0.drew⟩
 case rest =>
   clear T0 EQ
   obtain ⟨hq, T0⟩ := hcut
   subst hq
   have HB := T0.below
   have p0 := (T0.b 1 rfl).c 0 rfl; have f0 := (T0.b 1 rfl).f 0 rfl; have q0 := (T0.b 2 rfl).c 0 rfl; have p1 := (T0.b 1 rfl).c 1 rfl; have f1 := (T0.b 1 rfl).f 1 rfl; have q1 := (T0.b 2 rfl).c 1 rfl; have p2 := (T0.b 1 rfl).c 2 rfl; have f2 := (T0.b 1 rfl).f 2 rfl; have q2 := (T0.b 2 rfl).c 2 rfl; have p3 := (T0.b 1 rfl).c 3 rfl; have f3 := (T0.b 1 rfl).f 3 rfl; have q3 := (T0.b 2 rfl).c 3 rfl
   have l1 := (T0.b 1 rfl).lt
   have l2 := (T0.b 2 rfl).lt
   clear T0
   cases B
   · have hn : ¬ (x4 = fillW x3 ∧ x5 = fillW x3 ∧ x6 = fillW x3 ∧ x7 = fillW x3) := by
       rintro ⟨e4, e5, e6, e7⟩
       rw [← e4] at hB0
       simp [← e4, e5, e6, e7] at hB0
     have HT := sl_not wx hn
     clear hB0 hn
     go_wp2
     refine bodyPost_ret (v := .tuple #[.agg #[.int .u64 0, .int .u64 0, .int .u64 0, .int .u64 0], .bool false]) (by simp [results, Tryd.results86, go_sem, p0, p1, p2, p3]) rfl ?_
     refine ⟨?_, Or.inr ⟨HT, rfl⟩⟩
     repeat' (refine Below.setCell ?_ (by simp) _)
     exact HB
   · have he : x4 = fillW x3 ∧ x5 = fillW x3 ∧ x6 = fillW x3 ∧ x7 = fillW x3 := by
       simp at hB0
       obtain ⟨⟨⟨e4, e5⟩, e6⟩, e7⟩ := hB0
       exact ⟨e4.symm, e5.symm, e6.symm, e7.symm⟩
     have HT := sl_told wx he
     obtain ⟨w0, w1, w2, w3, -, -, -, -⟩ := words8_of wx
     clear hB0 he
     go_wp2
     refine bodyPost_ret (v := .tuple #[.agg #[.int .u64 x3, .int .u64 x2, .int .u64 x1, .int .u64 x0], .bool true]) (by simp [results, Tryd.results86, go_sem, p0, p1, p2, p3]) rfl ?_
     refine ⟨?_, Or.inl ⟨HT.1, x3, x2, x1, x0, rfl, w3, w2, w1, w0, HT.2⟩⟩
     repeat' (refine Below.setCell ?_ (by simp) _)
     exact HB
def TimesP (z : Int) (w : World) (e : Ending) (w' : World) : Prop :=
 ∃ z0 z1 z2 z3 z4 z5 z6 z7, e = .returned (L8 z0 z1 z2 z3 z4 z5 z6 z7) ∧ Words [z0, z1, z2, z3, z4, z5, z6, z7] ∧ sl z0 z1 z2 z3 z4 z5 z6 z7 = z ∧ Below w.heap.size w w'
theorem sl_top {z0 z1 z2 z3 z4 z5 z6 z7 : Int} (h : Words [z0, z1, z2, z3, z4, z5, z6, z7]) : (z7 < 9223372036854775808 ↔ val64 [z0, z1, z2, z3, z4, z5, z6, z7] < 6703903964971298549787012499102923063739682910296196688861780721860882015036773488400937149083451713845015929093243025426876941405973284973216824503042048) ∧ 0 ≤ val64 [z0, z1, z2, z3, z4, z5, z6, z7] ∧ val64 [z0, z1, z2, z3, z4, z5, z6, z7] < 13407807929942597099574024998205846127479365820592393377723561443721764030073546976801874298166903427690031858186486050853753882811946569946433649006084096 := by
 obtain ⟨h0, h1, h2, h3, h4, h5, h6, h7⟩ := words8_of h
 unfold Word at *
 simp only [val64]
 omega
theorem val_set (zs : List Int) (j : Nat) (h : j < zs.length) (u : Int) : val (zs.set j u) = val zs + pw j * (u - zs[j]) := by
 have e1 := val_split zs j h
 have e2 := val_split (zs.set j u) j (by simpa using h)
 rw [e2, e1]
 have t1 : (zs.set j u).take j = zs.take j := by rw [List.take_set_of_le (by omega)]
 have t2 : (zs.set j u).drop (j + 1) = zs.drop (j + 1) := by rw [List.drop_set_of_lt (by omega)]
 rw [t1, t2]
 simp only [List.getElem_set_self]
 grind
theorem dig_set {zs : List Int} (h : Dig zs) (j : Nat) {u : Int} (h0 : 0 ≤ u) (h1 : u < 4294967296) : Dig (zs.set j u) := by
 intro d hd
 rcases List.mem_or_eq_of_mem_set hd with h' | h'
 · exact h d h'
 · subst h'; exact ⟨h0, h1⟩
structure MuI (W wr : World) (g nm : Nat) (xs ys zs : List Int) (i m : Nat) : Prop where
 len : zs.length = nm
 dig : Dig zs
 eq : val zs = val (xs.take i) * val ys
 zero : ∀ j, i + m ≤ j → (h : j < zs.length) → zs[j] = 0
 own : wr.ownsRow g 79 1 (.slice (some ⟨g, 0, none⟩) nm nm) nm (zs.map (Value.int .u32))
 below : Below g W wr
structure MuJ (W wr : World) (g nm : Nat) (xs ys zs : List Int) (i m k : Nat) (x c : Int) : Prop where
 len : zs.length = nm
 dig : Dig zs
 eq : val zs + c * pw (i + k) = val (xs.take i) * val ys + x * (pw i * val (ys.take k))
 zero : ∀ j, i + m ≤ j → (h : j < zs.length) → zs[j] = 0
 own : wr.ownsRow g 79 1 (.slice (some ⟨g, 0, none⟩) nm nm) nm (zs.map (Value.int .u32))
 below : Below g W wr
theorem mu_in {W wr : World} {g nm : Nat} {xs ys zs : List Int} {i m : Nat} (h : MuI W wr g nm xs ys zs i m) (x : Int) : MuJ W wr g nm xs ys zs i m 0 x 0 :=
 ⟨h.len, h.dig, by simp [val, h.eq], h.zero, h.own, h.below⟩
theorem mu_cell {W wr : World} {g nm : Nat} {xs ys zs : List Int} {i m k : Nat} {x c : Int} (h : MuJ W wr g nm xs ys zs i m k x c) (j : Nat) (hj : j < zs.length) : wr.cell? ⟨g, j, none⟩ = some (.int .u32 zs[j]) ∧ wr.frozen? ⟨g, j, none⟩ = false := by
 refine ⟨?_, h.own.frozenAt j⟩
 rw [h.own.cellAt j (by rw [← h.len]; omega)]
 simp [hj]
theorem mu_step {W wr : World} {g nm : Nat} {xs ys zs : List Int} {i m k : Nat} {x c : Int} (h : MuJ W wr g nm xs ys zs i m k x c) (hk : k < ys.length) (hkm : k < m) (hj : i + k < zs.length) (t : Int) (ht : t = c + x * ys[k] + zs[i + k]) (nq : Nat) :
   MuJ W ((wr.setCell ⟨g, i + k, none⟩ (.int .u32 (t % 4294967296))).drewN nq) g nm xs ys (zs.set (i + k) (t % 4294967296)) i m (k + 1) x (t / 4294967296) := by
 obtain ⟨o1, o2⟩ := h.own.stored (i + k) (.int .u32 (t % 4294967296))
 refine ⟨by simpa using h.len, dig_set h.dig _ (by omega) (by omega), ?_, ?_, ?_, bdrew (h.below.setCell (Nat.le_refl _) _) _⟩
 · rw [val_set zs _ hj, show i + (k + 1) = (i + k) + 1 by omega, pw, val_take_succ ys k hk]
   have e := h.eq
   have e2 : t = t % 4294967296 + 4294967296 * (t / 4294967296) := by omega
   have e3 := pw_add i k
   generalize t / 4294967296 = q at *
   generalize t % 4294967296 = r at *
   generalize zs[i + k] = zk at *
   generalize ys[k] = yk at *
   generalize pw (i + k) = p at *
   subst e2
   grind
 · intro j hj1 hj2
   have hj3 : j < zs.length := by simpa using hj2
   rw [List.getElem_set_ne (by omega)]
   exact h.zero j hj1 hj3
 · have : (zs.map (Value.int .u32)).set (i + k) (.int .u32 (t % 4294967296)) = (zs.set (i + k) (t % 4294967296)).map (Value.int .u32) := by rw [List.map_set]
   rw [← this]; exact o1
theorem mu_out {W wr : World} {g nm : Nat} {xs ys zs : List Int} {i m : Nat} {c : Int} (hi : i < xs.length) (h : MuJ W wr g nm xs ys zs i m m xs[i] c) (hm : ys.length = m) (hj : i + m < zs.length) (h0 : 0 ≤ c) (h1 : c < 4294967296) :
   MuI W (wr.setCell ⟨g, i + m, none⟩ (.int .u32 c)) g nm xs ys (zs.set (i + m) c) (i + 1) m := by
 obtain ⟨o1, o2⟩ := h.own.stored (i + m) (.int .u32 c)
 refine ⟨by simpa using h.len, dig_set h.dig _ h0 h1, ?_, ?_, ?_, h.below.setCell (Nat.le_refl _) _⟩
 · rw [val_set zs _ hj, h.zero (i + m) (Nat.le_refl _) hj, val_take_succ xs i hi]
   have e := h.eq
   rw [val_take_all ys m (by omega)] at e
   generalize pw (i + m) = p at *
   grind
 · intro j hj1 hj2
   have hj3 : j < zs.length := by simpa using hj2
   rw [List.getElem_set_ne (by omega)]
   exact h.zero j (by omega) hj3
 · have : (zs.map (Value.int .u32)).set (i + m) (.int .u32 c) = (zs.set (i + m) c).map (Value.int .u32) := by rw [List.map_set]
   rw [← this]; exact o1
theorem mul_bound {x y : Int} (hx0 : 0 ≤ x) (hx1 : x < 4294967296) (hy0 : 0 ≤ y) (hy1 : y < 4294967296) : 0 ≤ x * y ∧ x * y ≤ 18446744065119617025 := by
 refine ⟨Int.mul_nonneg hx0 hy0, ?_⟩
 have h1 : x * y ≤ 4294967295 * y := Int.mul_le_mul_of_nonneg_right (by omega) hy0
 omega
theorem mul_sign {x y : Int} {s t : Bool} {xs ys : List Int} (hs : s = decide (x < 0)) (ht : t = decide (y < 0)) (hx : val xs = (x.natAbs : Int)) (hy : val ys = (y.natAbs : Int)) : (x * y ≠ 0 → (s != t) = decide (x * y < 0)) ∧ val xs * val ys = ((x * y).natAbs : Int) := by
 constructor
 · intro hz
   have hx0 : x ≠ 0 := by rintro rfl; simp at hz
   have hy0 : y ≠ 0 := by rintro rfl; simp at hz
   rw [hs, ht]
   by_cases p : x < 0 <;> by_cases q : y < 0
   · have := Int.mul_pos_of_neg_of_neg p q; simp [p, q]; omega
   · have := Int.mul_neg_of_neg_of_pos p (show 0 < y by omega); simp [p, q, this]
   · have := Int.mul_neg_of_pos_of_neg (show 0 < x by omega) q; simp [p, q, this]
   · have := Int.mul_pos (show 0 < x by omega) (show 0 < y by omega); simp [p, q]; omega
 · rw [hx, hy, Int.natAbs_mul]; simp
theorem mu_start {W w1 : World} {g nm : Nat} {xs ys : List Int} {m : Nat} (hg : g = W.heap.size) (hown : w1.ownsRow g 79 1 (.slice (some ⟨g, 0, none⟩) nm nm) nm (madeCells #[Value.int .u32 0] nm).toList) (hgrow : W.grownBy w1 none) : MuI W w1 g nm xs ys (List.replicate nm 0) 0 m := by
 subst hg
 refine ⟨by simp, fun d hd => by rw [List.eq_of_mem_replicate hd]; decide, by simp [val_zeros, val], fun j _ h => by simp, ?_, (Below.refl _ _).grown hgrow (Nat.le_refl _) (by simp)⟩
 rw [made_one] at hown
 simpa using hown
set_option maxRecDepth 100000 in
set_option maxHeartbeats 2000000 in
theorem mul_some (s t : Bool) (ao bo : Option Addr) (n m ca cb k : Nat) (xs ys : List Int) (x y : Int) (w : World) (hx : IsNum w s ao n ca xs x k) (hy : IsNum w t bo m cb ys y k) (hk : k ≤ 100000) (hx0 : x ≠ 0) (hy0 : y ≠ 0) :
   Calls Tryd.prog 52 #[.agg #[.bool s, .slice ao n ca], .agg #[.bool t, .slice bo m cb]] w (NumP (k + k) (x * y) w) := by
 obtain ⟨i0, hi, hz0, hz1, hz2⟩ := info_parts Tryd.info88
 have hn0 : ((n : Int) == 0) = false := beq_eq_false_iff_ne.2 (by intro h; exact hx0 (hx.zero.1 (by omega)))
 have hm0 : ((m : Int) == 0) = false := beq_eq_false_iff_ne.2 (by intro h; exact hy0 (hy.zero.1 (by omega)))
 have T0 := two_start w (.bool s) (.slice ao n ca) (.bool t) (.slice bo m cb)
 have HX : Hid (xs.length = n) := hx.len
 have HY : Hid (ys.length = m) := hy.len
 have HDX : Hid (Dig xs) := hx.nrm.1
 have HDY : Hid (Dig ys) := hy.nrm.1
 have hnk := hx.le
 have hmk := hy.le
 have HRX0 := hx.rd.below T0.below (Nat.le_refl _)
 have HRY0 := hy.rd.below T0.below (Nat.le_refl _)
 have HSG : Hid ((x * y ≠ 0 → (s != t) = decide (x * y < 0)) ∧ val xs * val ys = ((x * y).natAbs : Int)) := mul_sign hx.neg hy.neg hx.val hy.val
 clear hx hy
 go_enter Tryd.func52, Tryd.ntmps52
 go_upto_region 3 with fail
 generalize ((w.alloc (Obj.cells #[Value.bool s, Value.slice ao n ca] 62)).alloc (Obj.cells #[Value.bool t, Value.slice bo m cb] 62)).alloc (Obj.cells #[Value.bool false, Value.slice none 0 0] 62) = W at *
 have q0 := T0.a0; have q1 := T0.a1; have q2 := T0.b0; have q3 := T0.b1
 have HRX : Hid (Rd W ao xs) := HRX0
 have HRY : Hid (Rd W bo ys) := HRY0
 clear HRX0 HRY0
 go_wp2_with (at_make; refine wpList_make_full _ rfl _ _ 60 rfl W.heap.size 79 i0 (.int .u32 0) 1 Tryd.underlying60 hi hz0 hz1 _ _ _ _ (n + m) rfl rfl (by omega) (by omega) (by rw [hz2]; omega) (by unfold maxLen; omega) (Nat.le_refl _) ?_)
 intro w1 hown hgrow
 have HS : MuI W w1 W.heap.size (n + m) xs ys (List.replicate (n + m) 0) 0 m := mu_start rfl (by simpa using hown) hgrow
 clear hown hgrow q0 q1 q2 q3
 have hsz := T0.sz
 go_wp2
 go_loopw [6] (fun i wr => ∃ (c : Nat) (zs : List Int), c ≤ n ∧ i = .int .i64 c ∧ MuI W wr W.heap.size (n + m) xs ys zs c m) (fun i _ => n - (intOf i).toNat)
 case atStart => exact ⟨0, _, Nat.zero_le _, rfl, HS⟩
 case round =>
   obtain ⟨i, zs, hin, rfl, hI⟩ := hrel
   clear HS
   have T1 := T0.step hI.below
   have q1 := T1.a1; have q3 := T1.b1
   by_cases hi' : i < n
   · have hix : i < xs.length := by have := HX.out; omega
     obtain ⟨bx, ox, rfl, hbx, hcx0⟩ := HRX.out i hix
     obtain ⟨hx0', hx1'⟩ := dig_at HDX.out i hix
     have HJ := mu_in hI xs[i]
     clear hI
     go_wp2
     obtain ⟨wo, hwo⟩ : ∃ wo : World, wo = wr := ⟨_, rfl⟩
     subst hwo
     go_loopw [7, 8] (fun c k wr => ∃ (j : Nat) (cv : Int) (zs : List Int), j ≤ m ∧ k = .int .i64 j ∧ 0 ≤ cv ∧ cv < 4294967296 ∧ c = .int .u64 cv ∧ MuJ W wr W.heap.size (n + m) xs ys zs i m j xs[i] cv) (fun _ k _ => m - (intOf k).toNat)
     case atStart => exact ⟨0, 0, _, Nat.zero_le _, rfl, by decide, by decide, rfl, HJ⟩
     case round =>
       obtain ⟨j, cv, zs', hj, rfl, hc0, hc1, rfl, hJ⟩ := hrel
       clear HJ T1 q1 q3
       have T1 := T0.step hJ.below
       have q1 := T1.a1; have q3 := T1.b1
       have hlen := hJ.len
       by_cases hj' : j < m
       · have hjy : j < ys.length := by have := HY.out; omega
         obtain ⟨by', oy, rfl, hby, hcy0⟩ := HRY.out j hjy
         obtain ⟨hy0', hy1'⟩ := dig_at HDY.out j hjy
         have hcx := (hJ.below.cell (p := ⟨bx, ox + i, none⟩) hbx).trans hcx0
         have hcy := (hJ.below.cell (p := ⟨by', oy + j, none⟩) hby).trans hcy0
         have hij : i + j < zs'.length := by omega
         obtain ⟨hcz, hfz⟩ := mu_cell hJ (i + j) hij
         obtain ⟨hz0', hz1'⟩ := dig_at hJ.dig (i + j) hij
         obtain ⟨P, hP⟩ : ∃ P, xs[i] * ys[j] = P := ⟨_, rfl⟩
         obtain ⟨hP0, hP1⟩ := mul_bound hx0' hx1' hy0' hy1'
         rw [hP] at hP0 hP1
         have R := fun nq => mu_step hJ hjy hj' hij (cv + P + zs'[i + j]) (by rw [hP]) nq
         clear hJ hlen
         have hin' : (i : Int) < n := by omega
         have hjm' : (j : Int) < m := by omega
         have hijn : (i : Int) + j < n + m := by omega
         go_wp2
         go_quiet (fail)
         go_wp2
         go_roundw
         case rel => exact ⟨j + 1, (cv + P + zs'[i + j]) / 4294967296, _, by omega, by go_num, by omega, by omega, rfl, by first | exact R _ | exact mu_drew R⟩
         case measure => simp [intOf]; omega
       · obtain rfl : j = m := by omega
         have him : i + j < zs'.length := by omega
         obtain ⟨hcz, hfz⟩ := mu_cell hJ (i + j) him
         have R := mu_out hix hJ HY.out him hc0 hc1
         clear hJ hlen
         have hijn : (i : Int) + j < n + j := by omega
         go_wp2
         go_roundw
         case rel => exact ⟨i + 1, _, by omega, by go_num, R⟩
         case measure => simp [intOf]; omega
   · obtain rfl : i = n := by omega
     have q0 := T1.a0; have q2 := T1.b0
     have R1 := hI.dig
     have R2 := Rd.own hI.own hI.len
     have R3 := hI.len
     have HE : Hid (val zs = ((x * y).natAbs : Int)) := by show _ = _; rw [hI.eq, val_take_all xs i (by have := HX.out; omega)]; exact HSG.out.2
     clear hI
     obtain ⟨sg, hsg⟩ : ∃ b, (!(s == t)) = b := ⟨_, rfl⟩
     have HG : Hid (x * y ≠ 0 → sg = decide (x * y < 0)) := by rw [← hsg]; exact HSG.out.1
     go_wp2_with fail
     refine (trim_any sg _ _ _ zs _ R3 (Nat.le_refl _) R1 R2 (by omega)).mono ?_
     rintro e w3 ⟨neg', ao', n', cap', ds', rfl, k1, k2, k3, k4, k5, k6, k7, k8⟩
     have T2 := T1.step k8
     have HN := num_of (z := x * y) (k := k + k) k1 k2 (by omega) k4 (k5.trans HE.out) (k6.trans (by rw [HE.out])) k7 rfl HG.out
     have c0 := T2.r0; have c1 := T2.r1; have f0 := T2.f0; have f1 := T2.f1
     have HB := T2.below
     clear k1 k2 k3 k4 k5 k6 k7 k8 R1 R2 R3 T1 q0 q1 q2 q3 T2
     go_wp2
     refine bodyPost_ret (v := .agg #[.bool neg', .slice ao' n' cap']) (by simp [results, Tryd.results52, go_sem, c0, c1]) rfl ?_
     exact num_ret (by omega) c0 c1 HN HB
set_option maxRecDepth 100000 in
set_option maxHeartbeats 1000000 in
theorem mul_none (s t : Bool) (ao bo : Option Addr) (n m ca cb k : Nat) (xs ys : List Int) (x y : Int) (w : World) (hx : IsNum w s ao n ca xs x k) (hy : IsNum w t bo m cb ys y k) (h0 : x = 0 ∨ y = 0) :
   Calls Tryd.prog 52 #[.agg #[.bool s, .slice ao n ca], .agg #[.bool t, .slice bo m cb]] w (NumP (k + k) (x * y) w) := by
 have HP : ∀ o1 o2 o3, NumP (k + k) (x * y) w (.returned (.agg #[.bool false, .slice none 0 0])) (((w.alloc o1).alloc o2).alloc o3) := by
   intro o1 o2 o3
   have hz : x * y = 0 := by rcases h0 with rfl | rfl <;> simp
   rw [hz]
   exact ⟨false, none, 0, 0, [], rfl, ⟨by decide, rfl, Nat.le_refl _, Rd.nil _ _, nrm_nil, rfl, Nat.zero_le _⟩, (((Below.refl _ _).alloc (Nat.le_refl _) _).alloc (by simp) _).alloc (by simp; omega) _⟩
 by_cases hx0 : x = 0
 · have hn := hx.zero.2 hx0
   subst hn
   clear hx hy
   go_enter Tryd.func52, Tryd.ntmps52
   go_wp2
   refine bodyPost_ret (v := .agg #[.bool false, .slice none 0 0]) (by simp [results, Tryd.results52, go_sem]) rfl ?_
   exact HP _ _ _
 · have hm := hy.zero.2 (by omega)
   subst hm
   have hn0 : ((n : Int) == 0) = false := beq_eq_false_iff_ne.2 (by intro h; exact hx0 (hx.zero.1 (by omega)))
   clear hx hy
   go_enter Tryd.func52, Tryd.ntmps52
   go_wp2
   refine bodyPost_ret (v := .agg #[.bool false, .slice none 0 0]) (by simp [results, Tryd.results52, go_sem]) rfl ?_
   exact HP _ _ _
theorem mul_any (s t : Bool) (ao bo : Option Addr) (n m ca cb k : Nat) (xs ys : List Int) (x y : Int) (w : World) (hx : IsNum w s ao n ca xs x k) (hy : IsNum w t bo m cb ys y k) (hk : k ≤ 100000) :
   Calls Tryd.prog 52 #[.agg #[.bool s, .slice ao n ca], .agg #[.bool t, .slice bo m cb]] w (NumP (k + k) (x * y) w) := by
 by_cases hx0 : x = 0
 · exact mul_none s t ao bo n m ca cb k xs ys x y w hx hy (Or.inl hx0)
 · by_cases hy0 : y = 0
   · exact mul_none s t ao bo n m ca cb k xs ys x y w hx hy (Or.inr hy0)
   · exact mul_some s t ao bo n m ca cb k xs ys x y w hx hy hk hx0 hy0
def ww0 (z : Int) : Int := z % 18446744073709551616
def ww1 (z : Int) : Int := z / 18446744073709551616 % 18446744073709551616
def ww2 (z : Int) : Int := z / 340282366920938463463374607431768211456 % 18446744073709551616
def ww3 (z : Int) : Int := z / 6277101735386680763835789423207666416102355444464034512896 % 18446744073709551616
theorem wd_of {a3 a2 a1 a0 z : Int} (h3 : Word a3) (h2 : Word a2) (h1 : Word a1) (h0 : Word a0) (h : sw a3 a2 a1 a0 = z) : a3 = ww3 z ∧ a2 = ww2 z ∧ a1 = ww1 z ∧ a0 = ww0 z := by
 unfold Word sw uw ww3 ww2 ww1 ww0 at *
 split at h <;> omega
abbrev W4 (z : Int) : Value := .agg #[.int .u64 (ww3 z), .int .u64 (ww2 z), .int .u64 (ww1 z), .int .u64 (ww0 z)]
def VP (v : Value) (w : World) (e : Ending) (w' : World) : Prop := e = .returned v ∧ Below w.heap.size w w'
theorem signedL_any (x0 x1 x2 x3 x4 x5 x6 x7 : Int) (b : Bool) (wx : Words [x0, x1, x2, x3, x4, x5, x6, x7]) (hv : val64 [x0, x1, x2, x3, x4, x5, x6, x7] < 6703903964971298549787012499102923063739682910296196688861780721860882015036773488400937149083451713845015929093243025426876941405973284973216824503042048) (w : World) : Calls Tryd.prog 87 #[L8 x0 x1 x2 x3 x4 x5 x6 x7, .bool b] w (TimesP (if b then -val64 [x0, x1, x2, x3, x4, x5, x6, x7] else val64 [x0, x1, x2, x3, x4, x5, x6, x7]) w) := by
 refine (signed_any x0 x1 x2 x3 x4 x5 x6 x7 b wx w).mono ?_
 rintro e w1 ⟨z0, z1, z2, z3, z4, z5, z6, z7, rfl, wz, ⟨c, c0, c1, hz⟩, hB⟩
 refine ⟨z0, z1, z2, z3, z4, z5, z6, z7, rfl, wz, ?_, hB⟩
 obtain ⟨t1, t2, t3⟩ := sl_top wz
 have v0 := val64_nonneg wx
 unfold sl
 generalize val64 [z0, z1, z2, z3, z4, z5, z6, z7] = Z at *
 generalize val64 [x0, x1, x2, x3, x4, x5, x6, x7] = X at *
 simp only [t1]
 clear t1
 cases b
 · simp only [Bool.false_eq_true, if_false] at hz ⊢
   rw [if_pos (by omega)]
   omega
 · simp only [if_true] at hz ⊢
   obtain rfl | rfl : c = 0 ∨ c = 1 := by omega
   · rw [if_pos (by omega)]; omega
   · rw [if_neg (by omega)]; omega
def tellV (z : Int) : Value := if told z then .tuple #[W4 z, .bool true] else .tuple #[W4 0, .bool false]
theorem tellWide_det (x0 x1 x2 x3 x4 x5 x6 x7 : Int) (wx : Words [x0, x1, x2, x3, x4, x5, x6, x7]) (z : Int) (hz : sl x0 x1 x2 x3 x4 x5 x6 x7 = z) (w : World) : Calls Tryd.prog 86 #[L8 x0 x1 x2 x3 x4 x5 x6 x7] w (VP (tellV z) w) := by
 refine (tellWide_any x0 x1 x2 x3 x4 x5 x6 x7 wx w).mono ?_
 rw [hz]
 rintro e w' ⟨hB, ⟨ht, a3, a2, a1, a0, rfl, g3, g2, g1, g0, hs⟩ | ⟨ht, rfl⟩⟩
 · obtain ⟨rfl, rfl, rfl, rfl⟩ := wd_of g3 g2 g1 g0 hs
   exact ⟨by unfold tellV; rw [ht]; rfl, hB⟩
 · exact ⟨by unfold tellV; rw [ht]; rfl, hB⟩
theorem Blk.stored4g {W : World} {g : Nat} {z0 z1 z2 z3 : Value} (G : Blk W g [z0, z1, z2, z3]) (v0 v1 v2 v3 : Value) : Blk ((((W.setCell ⟨g, 0, none⟩ v0).setCell ⟨g, 1, none⟩ v1).setCell ⟨g, 2, none⟩ v2).setCell ⟨g, 3, none⟩ v3) g [v0, v1, v2, v3] :=
 (((G.setI 0 (by simp) v0).setI 1 (by simp) v1).setI 2 (by simp) v2).setI 3 (by simp) v3
theorem implOf_det (n : Int) (w : World) (h0 : -9223372036854775808 ≤ n) (h1 : n ≤ 9223372036854775807) : Calls Tryd.prog 72 #[.int .i64 n] w (VP (W4 n) w) := by
 refine (implOf_any n w h0 h1).mono ?_
 rintro e w' ⟨a3, a2, a1, a0, rfl, g3, g2, g1, g0, hs, hB⟩
 obtain ⟨rfl, rfl, rfl, rfl⟩ := wd_of g3 g2 g1 g0 hs
 exact ⟨rfl, hB⟩
theorem ret_bool {a b : Bool} (h : b = a) : Ending.returned (.bool a) = .returned (.bool b) := by rw [h]
theorem ww_sw {z : Int} (h : told z = true) : sw (ww3 z) (ww2 z) (ww1 z) (ww0 z) = z := by
 unfold told at h
 rw [decide_eq_true_iff] at h
 unfold sw uw ww3 ww2 ww1 ww0
 split <;> omega
open Go.ChangeShapes Go.WideShapes Go.ChangeAt Go.RowKit Go.Joins
theorem Tryd.own : ownKnob Tryd.prog.godebug = none := by kernel_rfl
open Go.ChangeShapes Go.WideShapes Go.ChangeAt Go.RowKit Go.Joins
abbrev Sp (x y : Int) : Value := .agg #[.int .i64 x, .int .i64 y]
theorem l1In_any (x a b : Int) (c : Bool) (hc : decide (a ≤ x ∧ x ≤ b) = c) (w : World) : Calls Tryd.prog 30 #[.int .i64 x, .int .i64 a, .int .i64 b] w (BoolP c w) := by
 go_enter Tryd.func30, Tryd.ntmps30
 go_wp2
 all_goals go_ret
 all_goals exact ⟨ret_bool (by subst hc; simp; try omega), Below.refl _ _⟩
abbrev Ps := Nat → Int × Int
def SpIn (w : World) (ao : Option Addr) (n : Nat) (p : Ps) : Prop :=
 ∀ i, i < n → ∃ A off, ao = some ⟨A, off, none⟩ ∧ A < w.heap.size ∧ w.cell? ⟨A, off + i * 2, none⟩ = some (.int .i64 (p i).1) ∧ w.cell? ⟨A, off + i * 2 + 1, none⟩ = some (.int .i64 (p i).2)
theorem SpIn.step {w w' : World} {ao : Option Addr} {n : Nat} {p : Ps} (h : SpIn w ao n p) (hB : Below w.heap.size w w') : SpIn w' ao n p := fun i hi => by
 obtain ⟨A, off, e, hA, h0, h1⟩ := h i hi
 exact ⟨A, off, e, Nat.lt_of_lt_of_le hA hB.size, (hB.cell (p := ⟨A, off + i * 2, none⟩) hA).trans h0, (hB.cell (p := ⟨A, off + i * 2 + 1, none⟩) hA).trans h1⟩
theorem eqSpot_det (x y : Int) (w : World) : Calls Tryd.prog 50 #[Sp x y, Sp x y] w (BoolP true w) := by
 go_enter Tryd.func50, Tryd.ntmps50
 go_wp2
 go_ret
 exact ⟨rfl, ((Below.refl _ _).alloc (Nat.le_refl _) _).alloc (by simp) _⟩
set_option maxRecDepth 100000 in
set_option maxHeartbeats 2000000 in
theorem eqSpotS_any (ao bo : Option Addr) (n ca cb : Nat) (p : Ps) (hn : n ≤ 1048576) (w : World) (hA : SpIn w ao n p) (hC : SpIn w bo n p) : Calls Tryd.prog 39 #[.slice ao n ca, .slice bo n cb] w (BoolP true w) := by
 have HA : Hid (SpIn w ao n p) := hA
 have HC : Hid (SpIn w bo n p) := hC
 have hnI : (n : Int) ≤ 1048576 := by omega
 clear hA hC
 go_enter Tryd.func39, Tryd.ntmps39
 go_wp2_with fail
 go_loopw [5] (fun i wr => ∃ c : Nat, c ≤ n ∧ i = .int .i64 c ∧ Below w.heap.size w wr) (fun i _ => n - (intOf i).toNat)
 case atStart => exact ⟨0, by omega, rfl, Below.refl _ _⟩
 case round =>
   obtain ⟨c, hc, rfl, HB⟩ := hrel
   by_cases hcn : c < n
   · obtain ⟨A, off, rfl, hA, q0, q1⟩ := HA.out.step HB c hcn
     obtain ⟨B, of2, rfl, hB', r0, r1⟩ := HC.out.step HB c hcn
     have hcI : (c : Int) < n := by omega
     have ES := eqSpot_det (p c).1 (p c).2
     have KS : (fun w' => w'.cell? ⟨A, off + c * 2, none⟩ = some (.int .i64 (p c).1) ∧ w'.cell? ⟨A, off + c * 2 + 1, none⟩ = some (.int .i64 (p c).2) ∧ w'.cell? ⟨B, of2 + c * 2, none⟩ = some (.int .i64 (p c).1) ∧ w'.cell? ⟨B, of2 + c * 2 + 1, none⟩ = some (.int .i64 (p c).2)) wr := ⟨q0, q1, r0, r1⟩
     go_wp2_with fail
     go_region_held3 (fun w' => w'.cell? ⟨A, off + c * 2, none⟩ = some (.int .i64 (p c).1) ∧ w'.cell? ⟨A, off + c * 2 + 1, none⟩ = some (.int .i64 (p c).2) ∧ w'.cell? ⟨B, of2 + c * 2, none⟩ = some (.int .i64 (p c).1) ∧ w'.cell? ⟨B, of2 + c * 2 + 1, none⟩ = some (.int .i64 (p c).2)) (first | (exact KS) | (exact KS'))
       (first
         | (go_at_call 50; refine (ES _).mono ?_; rintro e w1 ⟨rfl, hB⟩; have KS' : (fun w' => w'.cell? ⟨A, off + c * 2, none⟩ = some (.int .i64 (p c).1) ∧ w'.cell? ⟨A, off + c * 2 + 1, none⟩ = some (.int .i64 (p c).2) ∧ w'.cell? ⟨B, of2 + c * 2, none⟩ = some (.int .i64 (p c).1) ∧ w'.cell? ⟨B, of2 + c * 2 + 1, none⟩ = some (.int .i64 (p c).2)) w1 := ⟨(hB.cell (p := ⟨A, _, none⟩) hA).trans q0, (hB.cell (p := ⟨A, _, none⟩) hA).trans q1, (hB.cell (p := ⟨B, _, none⟩) hB').trans r0, (hB.cell (p := ⟨B, _, none⟩) hB').trans r1⟩; (first | (have HB2 := HB.trans (hB.mono HB.size)) | (have HB2 := HB.drew.trans (hB.mono HB.drew.size))); clear hB))
     all_goals clear HB KS q0 q1 r0 r1 ES
     all_goals go_wp2
     all_goals go_roundw
     case rel => exact ⟨c + 1, by omega, by go_num, HB2⟩
     case measure => simp [intOf]; omega
   · obtain rfl : c = n := by omega
     clear HA HC
     go_wp2
     go_ret
     exact ⟨rfl, HB⟩
set_option maxRecDepth 100000 in
set_option maxHeartbeats 2000000 in
theorem eqRing_any (ao bo : Option Addr) (m ca cb : Nat) (q : Ps) (hm : m ≤ 1048576) (w : World) (hA : SpIn w ao m q) (hC : SpIn w bo m q) : Calls Tryd.prog 21 #[.agg #[.slice ao m ca], .agg #[.slice bo m cb]] w (BoolP true w) := by
 have HB : Below w.heap.size w ((w.alloc (.cells #[.slice ao m ca] 39)).alloc (.cells #[.slice bo m cb] 39)) := ((Below.refl _ w).alloc (Nat.le_refl _) _).alloc (by simp) _
 have B0 := (Blk.new w [.slice ao m ca] 39 rfl).alloc (.cells #[.slice bo m cb] 39)
 have B1 := Blk.new (w.alloc (.cells #[.slice ao m ca] 39)) [.slice bo m cb] 39 (g := w.heap.size + 1) (by simp)
 have HA := hA.step HB
 have HC := hC.step HB
 have EP := fun w h h' => eqSpotS_any ao bo m ca cb q hm w h h'
 clear hA hC
 go_enter Tryd.func21, Tryd.ntmps21
 have b0 := B0.c 0 rfl
 have b1 := B1.c 0 rfl
 go_wp2_with fail
 refine (EP _ HA HC).mono ?_
 rintro e w1 ⟨rfl, hB⟩
 replace HB := HB.trans (hB.mono HB.size)
 clear hB EP HA HC B0 B1 b0 b1
 go_wp2
 go_ret
 exact ⟨rfl, HB⟩
def RgIn (w : World) (ao : Option Addr) (n : Nat) (S : Nat → Option Addr × Nat) (L : Nat → Nat) (q : Nat → Ps) : Prop :=
 ∀ i, i < n → ∃ A off, ao = some ⟨A, off, none⟩ ∧ A < w.heap.size ∧ w.cell? ⟨A, off + i, none⟩ = some (.slice (S i).1 (L i) (S i).2) ∧ SpIn w (S i).1 (L i) (q i)
theorem RgIn.step {w w' : World} {ao : Option Addr} {n : Nat} {S : Nat → Option Addr × Nat} {L : Nat → Nat} {q : Nat → Ps} (h : RgIn w ao n S L q) (hB : Below w.heap.size w w') : RgIn w' ao n S L q := fun i hi => by
 obtain ⟨A, off, e, hA, h0, h1⟩ := h i hi
 exact ⟨A, off, e, Nat.lt_of_lt_of_le hA hB.size, (hB.cell (p := ⟨A, off + i, none⟩) hA).trans h0, h1.step hB⟩
set_option maxRecDepth 100000 in
set_option maxHeartbeats 2000000 in
theorem eqRingS_any (ao bo : Option Addr) (n ca cb : Nat) (S S' : Nat → Option Addr × Nat) (L : Nat → Nat) (q : Nat → Ps) (hn : n ≤ 1048576) (hL : ∀ i, i < n → L i ≤ 1048576) (w : World) (hA : RgIn w ao n S L q) (hC : RgIn w bo n S' L q) : Calls Tryd.prog 9 #[.slice ao n ca, .slice bo n cb] w (BoolP true w) := by
 have HA : Hid (RgIn w ao n S L q) := hA
 have HC : Hid (RgIn w bo n S' L q) := hC
 have HL : Hid (∀ i, i < n → L i ≤ 1048576) := hL
 have hnI : (n : Int) ≤ 1048576 := by omega
 clear hA hC hL
 go_enter Tryd.func9, Tryd.ntmps9
 go_wp2_with fail
 go_loopw [5] (fun i wr => ∃ c : Nat, c ≤ n ∧ i = .int .i64 c ∧ Below w.heap.size w wr) (fun i _ => n - (intOf i).toNat)
 case atStart => exact ⟨0, by omega, rfl, Below.refl _ _⟩
 case round =>
   obtain ⟨c, hc, rfl, HB⟩ := hrel
   by_cases hcn : c < n
   · obtain ⟨A, off, rfl, hA, q0, hra⟩ := HA.out.step HB c hcn
     obtain ⟨B, of2, rfl, hB', r0, hrb⟩ := HC.out.step HB c hcn
     have hcI : (c : Int) < n := by omega
     have EL := fun w h h' => eqRing_any (S c).1 (S' c).1 (L c) (S c).2 (S' c).2 (q c) (HL.out c hcn) w h h'
     have KS : (fun w' => w'.cell? ⟨A, off + c, none⟩ = some (.slice (S c).1 (L c) (S c).2) ∧ w'.cell? ⟨B, of2 + c, none⟩ = some (.slice (S' c).1 (L c) (S' c).2)) wr := ⟨q0, r0⟩
     go_wp2_with fail
     go_region_held3 (fun w' => w'.cell? ⟨A, off + c, none⟩ = some (.slice (S c).1 (L c) (S c).2) ∧ w'.cell? ⟨B, of2 + c, none⟩ = some (.slice (S' c).1 (L c) (S' c).2)) (first | (exact KS) | (exact KS'))
       (first
         | (go_at_call 21; refine (EL _ (by first | exact hra | exact hra.drew) (by first | exact hrb | exact hrb.drew)).mono ?_; rintro e w1 ⟨rfl, hB⟩; have KS' : (fun w' => w'.cell? ⟨A, off + c, none⟩ = some (.slice (S c).1 (L c) (S c).2) ∧ w'.cell? ⟨B, of2 + c, none⟩ = some (.slice (S' c).1 (L c) (S' c).2)) w1 := ⟨(hB.cell (p := ⟨A, _, none⟩) hA).trans q0, (hB.cell (p := ⟨B, _, none⟩) hB').trans r0⟩; (first | (have HB2 := HB.trans (hB.mono HB.size)) | (have HB2 := HB.drew.trans (hB.mono HB.drew.size))); clear hB))
     all_goals clear HB KS q0 r0 hra hrb EL
     all_goals go_wp2
     all_goals go_roundw
     case rel => exact ⟨c + 1, by omega, by go_num, HB2⟩
     case measure => simp [intOf]; omega
   · obtain rfl : c = n := by omega
     clear HA HC HL
     go_wp2
     go_ret
     exact ⟨rfl, HB⟩
def bA (l : List UInt8) : ByteArray := ⟨l.toArray⟩
theorem bA_append (a b : List UInt8) : bA a ++ bA b = bA (a ++ b) := by
 apply ByteArray.ext
 simp [bA]
theorem bA_inj {a b : List UInt8} (h : bA a = bA b) : a = b := by
 have := congrArg (fun s : ByteArray => s.data.toList) h
 simpa [bA] using this
theorem bA_list (l : List UInt8) : (bA l).data.toList = l := by simp [bA]
theorem dg_dec (n : Nat) : (dgs n).map UInt8.ofNat = Lib.decDigits n := by
 have hm : ∀ l : List UInt8, (l.map UInt8.toNat).map UInt8.ofNat = l := fun l => by
   rw [List.map_map]
   conv => rhs; rw [← List.map_id l]
   exact List.map_congr_left fun x _ => by simp
 rcases Nat.eq_zero_or_pos n with rfl | hp
 · rw [dgs_zero, Lib.decDigits, dif_pos (by omega)]
   rfl
 · rw [dgs_pos hp]
   unfold dg
   rw [if_neg (by omega), hm]
theorem strL_u8 (l : List Nat) : strL l = bA (l.map UInt8.ofNat) := by
 apply ByteArray.ext
 simp [strL, strOfNums, bA]
theorem txS_itoa (z : Int) : txS z = bA (Lib.itoa z) := by
 unfold txS
 rw [strL_u8]
 congr 1
 unfold txL Lib.itoa
 rw [List.map_append, dg_dec]
 by_cases h : z < 0
 · rw [if_pos h, if_pos h]
   rfl
 · rw [if_neg h, if_neg h, show z.natAbs = z.toNat by omega]
   rfl
theorem dec_len (k : Nat) (hk : 0 < k) {n : Nat} (h : n < 10 ^ k) : (Lib.decDigits n).length ≤ k := by
 rw [← dg_dec, List.length_map]
 exact dgs_len hk h
theorem itoa_len {z : Int} (h : -999999999999999 ≤ z ∧ z ≤ 999999999999999) : (Lib.itoa z).length ≤ 16 := by
 unfold Lib.itoa
 split
 · have := dec_len 15 (by omega) (n := z.natAbs) (by omega)
   simp only [List.length_cons]
   omega
 · have := dec_len 15 (by omega) (n := z.toNat) (by omega)
   omega
theorem itoa_ne (z : Int) : Lib.itoa z ≠ [] := by
 unfold Lib.itoa
 split
 · simp
 · rw [← dg_dec]
   intro h
   have := congrArg List.length h
   simp [dgs] at this
def shB (z : Int) : Bool := decide (-999999999999999 ≤ z ∧ z ≤ 999999999999999)
def htB (n : Nat) (p : Ps) : Bool := decide (0 < n ∧ ∀ i, i < n → shB (p i).1 = true ∧ shB (p i).2 = true)
theorem htB_iff {n : Nat} {p : Ps} : htB n p = true ↔ 0 < n ∧ ∀ i, i < n → shB (p i).1 = true ∧ shB (p i).2 = true := by
 unfold htB
 exact decide_eq_true_iff
def smR (L : Nat → Nat) : Nat → Nat
 | 0 => 0
 | i + 1 => smR L i + L i
theorem smR_mono {L : Nat → Nat} {c n : Nat} (h : c ≤ n) : smR L c ≤ smR L n := by
 induction h with
 | refl => exact Nat.le_refl _
 | step _ ih => exact Nat.le_trans ih (by rw [smR]; omega)
theorem smR_le {L : Nat → Nat} {n : Nat} (hL : ∀ i, i < n → L i ≤ 1048576) : ∀ c, c ≤ n → smR L c ≤ c * 1048576
 | 0, _ => by simp [smR]
 | c + 1, h => by
   have := smR_le hL c (by omega)
   have := hL c (by omega)
   rw [smR]
   omega
def hvB (n : Nat) (L : Nat → Nat) (q : Nat → Ps) : Bool := decide ((n ≤ 6 ∧ smR L n ≤ 20) ∧ ∀ i, i < n → htB (L i) (q i) = true)
theorem hvB_iff {n : Nat} {L : Nat → Nat} {q : Nat → Ps} : hvB n L q = true ↔ (n ≤ 6 ∧ smR L n ≤ 20) ∧ ∀ i, i < n → htB (L i) (q i) = true := by
 unfold hvB
 exact decide_eq_true_iff
def spU (p : Ps) (k : Nat) : List UInt8 := Lib.itoa (p k).1 ++ 32 :: Lib.itoa (p k).2
def rgU (p : Ps) : Nat → List UInt8
 | 0 => []
 | k + 1 => (if k = 0 then [] else rgU p k ++ [32]) ++ spU p k
def lyU (L : Nat → Nat) (q : Nat → Ps) : Nat → List UInt8
 | 0 => []
 | c + 1 => (if c = 0 then [] else lyU L q c ++ [32, 47, 32]) ++ rgU (q c) (L c)
def ltU (n : Nat) (L : Nat → Nat) (q : Nat → Ps) : List UInt8 := if n = 0 then [110, 111, 110, 101] else if hvB n L q = true then lyU L q n else []
theorem spU_ne (p : Ps) (k : Nat) : spU p k ≠ [] := by simp [spU]
theorem rgU_ne (p : Ps) {k : Nat} (h : 0 < k) : rgU p k ≠ [] := by
 obtain ⟨j, rfl⟩ : ∃ j, k = j + 1 := ⟨k - 1, by omega⟩
 rw [rgU]
 simp [spU_ne]
def stU (L : Nat → Nat) (q : Nat → Ps) (c k : Nat) : List UInt8 := if k = 0 then (if c = 0 then [] else lyU L q c ++ [32, 47]) else (if c = 0 then [] else lyU L q c ++ [32, 47, 32]) ++ rgU (q c) k
theorem stU_end {L : Nat → Nat} {q : Nat → Ps} {c : Nat} (h : 0 < L c) : stU L q c (L c) = lyU L q (c + 1) := by
 unfold stU
 rw [if_neg (by omega), lyU]
theorem stU_nil {L : Nat → Nat} {q : Nat → Ps} {c k : Nat} : stU L q c k = [] ↔ c = 0 ∧ k = 0 := by
 unfold stU
 by_cases hk : k = 0
 · rw [if_pos hk]
   by_cases hc : c = 0
   · simp [hc, hk]
   · simp [hc]
 · rw [if_neg hk]
   have := rgU_ne (q c) (show 0 < k by omega)
   simp [hk, this]
theorem stU_step {L : Nat → Nat} {q : Nat → Ps} {c k : Nat} : stU L q c (k + 1) = (if c = 0 ∧ k = 0 then [] else stU L q c k ++ [32]) ++ spU (q c) k := by
 unfold stU
 rw [if_neg (by omega), rgU]
 by_cases hk : k = 0
 · subst hk
   by_cases hc : c = 0
   · simp [hc]
   · simp [hc]
 · by_cases hc : c = 0
   · simp [hc, hk]
   · simp [hc, hk]
theorem joinTail_snoc (sep : List UInt8) (r : List (List UInt8)) (x : List UInt8) : Lib.joinTail sep (r ++ [x]) = Lib.joinTail sep r ++ sep ++ x := by
 unfold Lib.joinTail
 simp
theorem join_snoc {xs : List (List UInt8)} (h : xs ≠ []) (x sep : List UInt8) : Lib.join (xs ++ [x]) sep = Lib.join xs sep ++ sep ++ x := by
 cases xs with
 | nil => exact absurd rfl h
 | cons y r =>
   rw [List.cons_append, Lib.join_cons, Lib.join_cons, joinTail_snoc]
   simp
theorem join_le {B : Nat} {sep : List UInt8} : ∀ {xs : List (List UInt8)}, (∀ x ∈ xs, x.length ≤ B) → (Lib.join xs sep).length ≤ xs.length * (B + sep.length) := by
 have key : ∀ r : List (List UInt8), (∀ x ∈ r, x.length ≤ B) → (Lib.joinTail sep r).length ≤ r.length * (B + sep.length) := fun r => by
   induction r with
   | nil => intro _; simp [Lib.joinTail]
   | cons x r ih =>
     intro h
     have h1 := ih fun y hy => h y (List.mem_cons_of_mem _ hy)
     have h2 := h x List.mem_cons_self
     unfold Lib.joinTail at *
     simp only [List.map_cons, List.flatten_cons, List.length_append, List.length_cons] at *
     rw [Nat.add_mul]
     omega
 intro xs h
 cases xs with
 | nil => simp [Lib.join_nil]
 | cons y r =>
   have h1 := key r fun x hx => h x (List.mem_cons_of_mem _ hx)
   have h2 := h y List.mem_cons_self
   rw [Lib.join_cons, List.length_append, List.length_cons, Nat.add_mul]
   omega
def ptU (p : Ps) : Nat → List (List UInt8)
 | 0 => []
 | k + 1 => ptU p k ++ [Lib.itoa (p k).1, Lib.itoa (p k).2]
theorem ptU_len (p : Ps) : ∀ k, (ptU p k).length = k * 2
 | 0 => rfl
 | k + 1 => by rw [ptU, List.length_append, ptU_len p k]; simp; omega
theorem ptU_join (p : Ps) : ∀ k, Lib.join (ptU p k) [32] = rgU p k
 | 0 => rfl
 | k + 1 => by
   rw [ptU, rgU]
   by_cases h : k = 0
   · subst h
     simp only [ptU, List.nil_append, if_true]
     rw [show ([Lib.itoa (p 0).1, Lib.itoa (p 0).2] : List (List UInt8)) = [Lib.itoa (p 0).1] ++ [Lib.itoa (p 0).2] from rfl, join_snoc (by simp), Lib.join_one]
     simp [spU]
   · rw [if_neg h, show ptU p k ++ [Lib.itoa (p k).1, Lib.itoa (p k).2] = (ptU p k ++ [Lib.itoa (p k).1]) ++ [Lib.itoa (p k).2] by simp, join_snoc (by simp), join_snoc (by intro e; have := ptU_len p k; rw [e] at this; simp at this; omega), ptU_join p k]
     simp [spU]
theorem ptU_le {p : Ps} {n : Nat} (h : ∀ i, i < n → shB (p i).1 = true ∧ shB (p i).2 = true) : ∀ k, k ≤ n → ∀ x ∈ ptU p k, x.length ≤ 16
 | 0, _, x, hx => by cases hx
 | k + 1, hk, x, hx => by
   rw [ptU] at hx
   obtain ⟨h1, h2⟩ := h k (by omega)
   rcases List.mem_append.1 hx with hx | hx
   · exact ptU_le h k (by omega) x hx
   · simp only [List.mem_cons, List.not_mem_nil, or_false] at hx
     rcases hx with rfl | rfl
     · exact itoa_len (of_decide_eq_true h1)
     · exact itoa_len (of_decide_eq_true h2)
def rtU (L : Nat → Nat) (q : Nat → Ps) (c : Nat) : List (List UInt8) := (List.range c).map fun i => rgU (q i) (L i)
theorem rtU_succ (L : Nat → Nat) (q : Nat → Ps) (c : Nat) : rtU L q (c + 1) = rtU L q c ++ [rgU (q c) (L c)] := by
 unfold rtU
 rw [List.range_succ, List.map_append]
 rfl
theorem rtU_join (L : Nat → Nat) (q : Nat → Ps) : ∀ c, Lib.join (rtU L q c) [32, 47, 32] = lyU L q c
 | 0 => rfl
 | c + 1 => by
   rw [rtU_succ, lyU]
   by_cases h : c = 0
   · subst h
     simp [rtU, Lib.join_one]
   · rw [if_neg h, join_snoc (by intro e; have := congrArg List.length e; simp [rtU] at this; omega), rtU_join L q c]
theorem rgU_le {p : Ps} {n : Nat} (h : ∀ i, i < n → shB (p i).1 = true ∧ shB (p i).2 = true) : (rgU p n).length ≤ n * 34 := by
 rw [← ptU_join]
 refine Nat.le_trans (join_le (B := 16) (ptU_le h n (Nat.le_refl _))) ?_
 rw [ptU_len]
 simp
 omega
def FreeOf (sep x : List UInt8) : Prop := (∀ r j, j < x.length → Lib.occAt (x ++ sep ++ r) sep j = false) ∧ ∀ j, j ≤ x.length → Lib.occAt x sep j = false
theorem occ_get {s sub : List UInt8} {j : Nat} (h : Lib.occAt s sub j = true) (i : Nat) (hi : i < sub.length) : s[j + i]? = sub[i]? := by
 unfold Lib.occAt at h
 obtain ⟨r, hr⟩ := List.isPrefixOf_iff_prefix.1 h
 have h1 : (s.drop j)[i]? = sub[i]? := by
   rw [← hr, List.getElem?_append_left hi]
 rwa [List.getElem?_drop] at h1
theorem free_byte {c : UInt8} {x : List UInt8} (h : c ∉ x) : FreeOf [c] x := by
 refine ⟨fun r j hj => ?_, fun j hj => ?_⟩
 · cases hh : Lib.occAt (x ++ [c] ++ r) [c] j with
   | false => rfl
   | true =>
     have h1 := occ_get hh 0 (by simp)
     rw [List.append_assoc, Nat.add_zero, List.getElem?_append_left hj] at h1
     exact absurd (List.mem_of_getElem? h1) h
 · cases hh : Lib.occAt x [c] j with
   | false => rfl
   | true => exact absurd (List.mem_of_getElem? (occ_get hh 0 (by simp))) h
theorem free_slash {x : List UInt8} (h : (47 : UInt8) ∉ x) : FreeOf [32, 47, 32] x := by
 refine ⟨fun r j hj => ?_, fun j hj => ?_⟩
 · cases hh : Lib.occAt (x ++ [32, 47, 32] ++ r) [32, 47, 32] j with
   | false => rfl
   | true =>
     have h1 := occ_get hh 1 (by simp)
     rw [List.append_assoc] at h1
     rcases Nat.lt_or_ge (j + 1) x.length with h2 | h2
     · rw [List.getElem?_append_left h2] at h1
       exact absurd (List.mem_of_getElem? h1) h
     · rw [List.getElem?_append_right h2, show j + 1 - x.length = 0 by omega] at h1
       simp at h1
 · cases hh : Lib.occAt x [32, 47, 32] j with
   | false => rfl
   | true => exact absurd (List.mem_of_getElem? (occ_get hh 1 (by simp))) h
theorem index_join {sep x : List UInt8} (h : FreeOf sep x) (r : List UInt8) : Lib.index (x ++ sep ++ r) sep = (x.length : Nat) := by
 refine Lib.index_first (by simp) ?_ (h.1 r)
 unfold Lib.occAt
 rw [List.append_assoc, List.drop_left]
 exact List.isPrefixOf_iff_prefix.2 (List.prefix_append _ _)
theorem join_two (x y : List UInt8) (r : List (List UInt8)) (sep : List UInt8) : Lib.join (x :: y :: r) sep = x ++ sep ++ Lib.join (y :: r) sep := by
 rw [Lib.join_cons, Lib.join_cons]
 simp [Lib.joinTail]
theorem split_joined {sep : List UInt8} (hs : sep ≠ []) : ∀ {xs : List (List UInt8)}, xs ≠ [] → (∀ x ∈ xs, FreeOf sep x) → Lib.split (Lib.join xs sep) sep = xs
 | [], h, _ => absurd rfl h
 | [x], _, h => by
   rw [Lib.join_one]
   unfold Lib.split
   rw [Lib.count_miss (Lib.index_none (h x List.mem_cons_self).2)]
   rfl
 | x :: y :: r, _, h => by
   have hx := index_join (h x List.mem_cons_self) (Lib.join (y :: r) sep)
   have hd : (x ++ sep ++ Lib.join (y :: r) sep).drop (x.length + sep.length) = Lib.join (y :: r) sep := by
     rw [← List.length_append, List.drop_left]
   have ih := split_joined hs (xs := y :: r) (by simp) fun z hz => h z (List.mem_cons_of_mem _ hz)
   rw [join_two]
   unfold Lib.split at ih ⊢
   rw [Lib.count_hit hs hx, hd, Nat.add_comm 1, Lib.splitK, hx, if_neg (by simp)]
   simp only [Int.toNat_natCast, Nat.add_zero]
   rw [hd, ih, List.append_assoc, List.take_left]
theorem splitK_ne (sep : List UInt8) : ∀ k s, Lib.splitK sep 0 k s ≠ []
 | 0, s => by simp [Lib.splitK]
 | k + 1, s => by unfold Lib.splitK; split <;> simp
theorem join_splitK {sep : List UInt8} : ∀ k s, Lib.join (Lib.splitK sep 0 k s) sep = s
 | 0, s => by rw [Lib.splitK, Lib.join_one]
 | k + 1, s => by
   rcases Lib.index_spec s sep with ⟨h, _⟩ | ⟨i, h, h1, h2, _⟩
   · unfold Lib.splitK
     rw [h, if_pos (by simp), Lib.join_one]
   · unfold Lib.splitK
     rw [h, if_neg (by simp)]
     simp only [Int.toNat_natCast, Nat.add_zero]
     have ih := join_splitK (sep := sep) k (s.drop (i + sep.length))
     have hn := splitK_ne sep k (s.drop (i + sep.length))
     obtain ⟨r, hr⟩ := List.isPrefixOf_iff_prefix.1 (show sep.isPrefixOf (s.drop i) = true from h2)
     cases hh : Lib.splitK sep 0 k (s.drop (i + sep.length)) with
     | nil => exact absurd hh hn
     | cons y t =>
       rw [hh] at ih
       rw [join_two, ih, ← List.drop_drop, ← hr, List.drop_left, List.append_assoc, hr, List.take_append_drop]
theorem join_split (s sep : List UInt8) : Lib.join (Lib.split s sep) sep = s := join_splitK _ _
theorem split_ne (s sep : List UInt8) : Lib.split s sep ≠ [] := splitK_ne _ _ _
theorem itoa_mem {z : Int} {b : UInt8} (h : b ∈ Lib.itoa z) : b = 45 ∨ (48 ≤ b.toNat ∧ b.toNat ≤ 57) := by
 have key : ∀ n : Nat, b ∈ Lib.decDigits n → 48 ≤ b.toNat ∧ b.toNat ≤ 57 := fun n h => by
   rw [← dg_dec] at h
   obtain ⟨d, hd, rfl⟩ := List.mem_map.1 h
   obtain ⟨h1, h2⟩ := dgs_isD n d hd
   have : (UInt8.ofNat d).toNat = d := by simp; omega
   omega
 unfold Lib.itoa at h
 split at h
 · rcases List.mem_cons.1 h with h | h
   · exact Or.inl h
   · exact Or.inr (key _ h)
 · exact Or.inr (key _ h)
theorem itoa_blank (z : Int) : (32 : UInt8) ∉ Lib.itoa z := fun h => by
 rcases itoa_mem h with h | h
 · cases h
 · simp at h
theorem itoa_slash (z : Int) : (47 : UInt8) ∉ Lib.itoa z := fun h => by
 rcases itoa_mem h with h | h
 · cases h
 · simp at h
theorem itoa_inj {a b : Int} (h : Lib.itoa a = Lib.itoa b) : a = b := by
 have h2 : txS a = txS b := by rw [txS_itoa, txS_itoa, h]
 have h3 : txL a = txL b := by rw [← btL_txS, ← btL_txS, h2]
 have key : ∀ z : Int, (txL z).head? = some 45 ↔ z < 0 := fun z => by
   unfold txL
   by_cases hz : z < 0
   · rw [if_pos hz]
     simp [hz]
   · rw [if_neg hz]
     simp only [hz, iff_false, List.nil_append]
     intro e
     have := dgs_isD _ _ (List.mem_of_mem_head? e)
     unfold isD at this
     omega
 have hk := (key a).symm.trans ((by rw [h3] : (txL a).head? = some 45 ↔ (txL b).head? = some 45).trans (key b))
 have hn : a.natAbs = b.natAbs := by
   rw [← rdN_dgs a.natAbs, ← rdN_dgs b.natAbs]
   unfold txL at h3
   by_cases ha : a < 0
   · rw [if_pos ha, if_pos (hk.1 ha)] at h3
     rw [List.append_cancel_left h3]
   · rw [if_neg ha, if_neg (fun h => ha (hk.2 h))] at h3
     rw [List.append_cancel_left h3]
 omega
end Go.Proofs.YtjcpdihdlklapaaDoor
