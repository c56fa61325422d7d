/- Part 4 of the walks that the proof leans on. -/
import Derived.Test.YtibbjjlapglndaaGreatRs1
import Derived.Deep.RegionHeld3
import Derived.Test.YtibbjjlapglndaaGreatRs3
import Derived.Test.YtibbjjlapglndaaGreatRs2
import Derived.Deep.DeepCutAuto
import Derived.Deep.QuietTactic
import Derived.BigQuiet
import Derived.Deep.MidRow
namespace Go.Proofs.YtibbjjlapglndaaGreat
open Go.RowKit
structure AddI (w wr : World) (xs ys : List Int) (k c : Nat) (cv : Int) (zs : List Int) : Prop where
 len : zs.length = k
 dig : Dig zs
 eq : val zs + cv * pw k = val (xs.take k) + val (ys.take k)
 own : wr.ownsRow w.heap.size 116 1 (.slice (some ⟨w.heap.size, 0, none⟩) k c) k (zs.map (Value.int .u32))
 below : Below w.heap.size w wr
theorem add_eq (xs ys zs : List Int) (k : Nat) (hl : zs.length = k) (cv x : Int) (eq : val zs + cv * pw k = val (xs.take k) + val (ys.take k)) (hx : x = cv + xs.getD k 0 + ys.getD k 0) :
   val (zs ++ [x % 4294967296]) + x / 4294967296 * pw (k + 1) = val (xs.take (k + 1)) + val (ys.take (k + 1)) := by
 rw [val_snoc, hl, val_take_getD, val_take_getD, pw]
 have e1 : pw k * (x % 4294967296) + x / 4294967296 * (4294967296 * pw k) = pw k * x := by
   have : x = x % 4294967296 + 4294967296 * (x / 4294967296) := by omega
   generalize x / 4294967296 = q at *
   generalize x % 4294967296 = r at *
   subst this
   grind
 have e2 : pw k * x = cv * pw k + pw k * xs.getD k 0 + pw k * ys.getD k 0 := by rw [hx]; grind
 omega
theorem add_step {w wr w2 : World} {xs ys : List Int} {k c : Nat} {cv : Int} {zs : List Int} (hI : AddI w wr xs ys k c cv zs) (x : Int) (hx : x = cv + xs.getD k 0 + ys.getD k 0) {o : Obj}
   (hown : w2.ownsRow w.heap.size 116 1 (.slice (some ⟨w.heap.size, 0, none⟩) (k + 1) c) (k + 1) (zs.map (Value.int .u32) ++ [.int .u32 (x % 4294967296)]))
   (hgrow : (wr.alloc o).grownBy w2 (some w.heap.size)) : AddI w w2 xs ys (k + 1) c (x / 4294967296) (zs ++ [x % 4294967296]) := by
 refine ⟨by simp [hI.len], dig_append.2 ⟨hI.dig, dig_cons.2 ⟨⟨by omega, by omega⟩, dig_nil⟩⟩, add_eq xs ys zs k hI.len cv x hI.eq hx, by simpa using hown, ?_⟩
 have hs := hI.below.size
 refine (hI.below.alloc hs o).grown hgrow (by simp; omega) ?_
 intro j hj
 cases hj
 exact Nat.le_refl _
def DigleP (k : Nat) (z : Int) (w : World) (e : Ending) (w' : World) : Prop :=
 ∃ (ao : Option Addr) (n cap : Nat) (zs : List Int), e = .returned (.slice ao n cap) ∧ zs.length = n ∧ n ≤ cap ∧ n ≤ k ∧ Dig zs ∧ val zs = z ∧ Rd w' ao zs ∧ Below w.heap.size w w'
theorem add_done {w wr : World} {n : Nat} {xs ys : List Int} {zs : List Int} (hI : AddI w wr xs ys n (n + 1) 0 zs) (hx : xs.length = n) (hy : ys.length ≤ n) :
   DigleP (n + 1) (val xs + val ys) w (.returned (.slice (some ⟨w.heap.size, 0, none⟩) n (n + 1))) wr := by
 refine ⟨_, n, n + 1, zs, rfl, hI.len, by omega, by omega, hI.dig, ?_, Rd.own hI.own hI.len, hI.below⟩
 have := hI.eq
 rw [val_take_all xs n (by omega), val_take_all ys n hy] at this
 simpa using this
theorem add_done1 {w wr w2 : World} {n : Nat} {xs ys : List Int} {cv : Int} {zs : List Int} (hI : AddI w wr xs ys n (n + 1) cv zs) (h0 : 0 ≤ cv) (h1 : cv < 4294967296) (hx : xs.length = n) (hy : ys.length ≤ n) {o : Obj}
   (hown : w2.ownsRow w.heap.size 116 1 (.slice (some ⟨w.heap.size, 0, none⟩) (n + 1) (n + 1)) (n + 1) (zs.map (Value.int .u32) ++ [.int .u32 cv])) (hgrow : (wr.alloc o).grownBy w2 (some w.heap.size)) :
   DigleP (n + 1) (val xs + val ys) w (.returned (.slice (some ⟨w.heap.size, 0, none⟩) (n + 1) (n + 1))) w2 := by
 have hl : (zs ++ [cv]).length = n + 1 := by simp [hI.len]
 refine ⟨_, n + 1, n + 1, zs ++ [cv], rfl, hl, Nat.le_refl _, Nat.le_refl _, dig_append.2 ⟨hI.dig, dig_cons.2 ⟨⟨h0, h1⟩, dig_nil⟩⟩, ?_, Rd.own (by simpa using hown) hl, ?_⟩
 · have := hI.eq
   rw [val_take_all xs n (by omega), val_take_all ys n hy] at this
   rw [val_snoc, hI.len, Int.mul_comm, this]
 · have hs := hI.below.size
   refine (hI.below.alloc hs o).grown hgrow (by simp; omega) ?_
   intro j hj
   cases hj
   exact Nat.le_refl _
set_option maxRecDepth 100000 in
set_option maxHeartbeats 1000000 in
theorem addAbs_ge (ao bo : Option Addr) (n m ca cb : Nat) (xs ys : List Int) (w : World) (hx : xs.length = n) (hy : ys.length = m) (dx : Dig xs) (dy : Dig ys) (rx : Rd w ao xs) (ry : Rd w bo ys) (hm : n ≤ 1000000) (hnm : m ≤ n) :
   Calls Tryz.prog 134 #[.slice ao n ca, .slice bo m cb] w (DigleP (n + 1) (val xs + val ys) w) := by
 obtain ⟨i0, hi, hz0, hz1, hz2⟩ := info_parts Tryz.info88
 have HX : Hid (xs.length = n) := hx
 have HY : Hid (ys.length = m) := hy
 have HDX : Hid (Dig xs) := dx
 have HDY : Hid (Dig ys) := dy
 have HRX : Hid (Rd w ao xs) := rx
 have HRY : Hid (Rd w bo ys) := ry
 have hnm' : ¬ n < m := by omega
 clear rx ry dx dy hx hy
 go_enter Tryz.func134, Tryz.ntmps134
 go_wp2_with (at_make; refine wpList_make_own _ rfl _ _ 58 rfl w.heap.size 116 i0 (.int .u32 0) 1 Tryz.underlying58 hi hz0 hz1 _ _ _ (n + 1) rfl rfl (by omega) (by rw [hz2]; omega) (by unfold maxLen; omega) (Nat.le_refl _) ?_)
 intro w1 hown hgrow
 have HS : AddI w w1 xs ys 0 (n + 1) 0 [] := ⟨rfl, dig_nil, by simp [val], hown, (Below.refl _ _).grown hgrow (Nat.le_refl _) (by simp)⟩
 clear hown hgrow
 go_wp2
 go_loopw [5, 6, 7] (fun o c i wr => ∃ (k : Nat) (cv : Int) (zs : List Int), k ≤ n ∧ i = .int .i64 k ∧ 0 ≤ cv ∧ cv ≤ 1 ∧ c = .int .u64 cv ∧ o = .slice (some ⟨w.heap.size, 0, none⟩) k (n + 1) ∧ AddI w wr xs ys k (n + 1) cv zs) (fun _ _ i _ => n - (intOf i).toNat)
 case atStart => exact ⟨0, 0, [], Nat.zero_le _, rfl, by decide, by decide, rfl, rfl, HS⟩
 case round =>
   obtain ⟨k, cv, zs, hk, rfl, hc0, hc1, rfl, rfl, hI⟩ := hrel
   clear HS
   by_cases hkn : k < n
   · have hkx : k < xs.length := by have := HX.out; omega
     obtain ⟨b, off, rfl, hbl, hcx0⟩ := HRX.out k hkx
     have hcx := (hI.below.cell (p := ⟨b, off + k, none⟩) hbl).trans hcx0
     clear hcx0
     obtain ⟨hx0, hx1⟩ := dig_at HDX.out k hkx
     by_cases hkm : k < m
     · have hky : k < ys.length := by have := HY.out; omega
       obtain ⟨b', off', rfl, hbl', hcy0⟩ := HRY.out k hky
       have hcy := (hI.below.cell (p := ⟨b', off' + k, none⟩) hbl').trans hcy0
       clear hcy0
       obtain ⟨hy0, hy1⟩ := dig_at HDY.out k hky
       go_wp2_with (at_builtin; refine wpList_append_fits _ rfl _ _ 58 rfl w.heap.size 116 i0 1 Tryz.underlying58 hi hz1 w.heap.size k (n + 1) _ rfl (hI.own.alloc _) ⟨wr.heap.size, 0, none⟩ 1 1 [.int .u32 ((cv + xs[k] + ys[k]) % 4294967296)] rfl rfl (cell_one_new _ _ _) (one_cell _ _) (by omega) ?_)
       intro w2 hown2 hgrow2
       go_wp2
       go_roundw
       case rel => exact ⟨k + 1, (cv + xs[k] + ys[k]) / 4294967296, _, by omega, by go_num, by omega, by omega, rfl, rfl, add_step hI _ (by simp [List.getD, hkx, hky]) hown2 hgrow2⟩
       case measure => simp [intOf]; omega
     · have hky : ¬ k < ys.length := by have := HY.out; omega
       go_wp2_with (at_builtin; refine wpList_append_fits _ rfl _ _ 58 rfl w.heap.size 116 i0 1 Tryz.underlying58 hi hz1 w.heap.size k (n + 1) _ rfl (hI.own.alloc _) ⟨wr.heap.size, 0, none⟩ 1 1 [.int .u32 ((cv + xs[k]) % 4294967296)] rfl rfl (cell_one_new _ _ _) (one_cell _ _) (by omega) ?_)
       intro w2 hown2 hgrow2
       go_wp2
       go_roundw
       case rel => exact ⟨k + 1, (cv + xs[k]) / 4294967296, _, by omega, by go_num, by omega, by omega, rfl, rfl, add_step hI _ (by simp [List.getD, hkx, hky]) hown2 hgrow2⟩
       case measure => simp [intOf]; omega
   · obtain rfl : k = n := by omega
     by_cases hcp : 0 < cv
     · obtain rfl : cv = 1 := by omega
       go_wp2_with (at_builtin; refine wpList_append_fits _ rfl _ _ 58 rfl w.heap.size 116 i0 1 Tryz.underlying58 hi hz1 w.heap.size k (k + 1) _ rfl (hI.own.alloc _) ⟨wr.heap.size, 0, none⟩ 1 1 [.int .u32 1] rfl rfl (cell_one_new _ _ _) (one_cell _ _) (by omega) ?_)
       intro w2 hown2 hgrow2
       go_wp2
       go_ret
       exact add_done1 hI (by omega) (by omega) HX.out (by have := HY.out; omega) hown2 hgrow2
     · obtain rfl : cv = 0 := by omega
       go_wp2
       go_ret
       exact add_done hI HX.out (by have := HY.out; omega)
set_option maxRecDepth 100000 in
set_option maxHeartbeats 1000000 in
theorem addAbs_lt (ao bo : Option Addr) (n m ca cb : Nat) (xs ys : List Int) (w : World) (hx : xs.length = n) (hy : ys.length = m) (dx : Dig xs) (dy : Dig ys) (rx : Rd w ao xs) (ry : Rd w bo ys) (hm : n ≤ 1000000) (hnm : m < n) :
   Calls Tryz.prog 134 #[.slice bo m cb, .slice ao n ca] w (DigleP (n + 1) (val xs + val ys) w) := by
 obtain ⟨i0, hi, hz0, hz1, hz2⟩ := info_parts Tryz.info88
 have HX : Hid (xs.length = n) := hx
 have HY : Hid (ys.length = m) := hy
 have HDX : Hid (Dig xs) := dx
 have HDY : Hid (Dig ys) := dy
 have HRX : Hid (Rd w ao xs) := rx
 have HRY : Hid (Rd w bo ys) := ry
 clear rx ry dx dy hx hy
 go_enter Tryz.func134, Tryz.ntmps134
 go_wp2_with (at_make; refine wpList_make_own _ rfl _ _ 58 rfl w.heap.size 116 i0 (.int .u32 0) 1 Tryz.underlying58 hi hz0 hz1 _ _ _ (n + 1) rfl rfl (by omega) (by rw [hz2]; omega) (by unfold maxLen; omega) (Nat.le_refl _) ?_)
 intro w1 hown hgrow
 have HS : AddI w w1 xs ys 0 (n + 1) 0 [] := ⟨rfl, dig_nil, by simp [val], hown, (Below.refl _ _).grown hgrow (Nat.le_refl _) (by simp)⟩
 clear hown hgrow
 go_wp2
 go_loopw [5, 6, 7] (fun o c i wr => ∃ (k : Nat) (cv : Int) (zs : List Int), k ≤ n ∧ i = .int .i64 k ∧ 0 ≤ cv ∧ cv ≤ 1 ∧ c = .int .u64 cv ∧ o = .slice (some ⟨w.heap.size, 0, none⟩) k (n + 1) ∧ AddI w wr xs ys k (n + 1) cv zs) (fun _ _ i _ => n - (intOf i).toNat)
 case atStart => exact ⟨0, 0, [], Nat.zero_le _, rfl, by decide, by decide, rfl, rfl, HS⟩
 case round =>
   obtain ⟨k, cv, zs, hk, rfl, hc0, hc1, rfl, rfl, hI⟩ := hrel
   clear HS
   by_cases hkn : k < n
   · have hkx : k < xs.length := by have := HX.out; omega
     obtain ⟨b, off, rfl, hbl, hcx0⟩ := HRX.out k hkx
     have hcx := (hI.below.cell (p := ⟨b, off + k, none⟩) hbl).trans hcx0
     clear hcx0
     obtain ⟨hx0, hx1⟩ := dig_at HDX.out k hkx
     by_cases hkm : k < m
     · have hky : k < ys.length := by have := HY.out; omega
       obtain ⟨b', off', rfl, hbl', hcy0⟩ := HRY.out k hky
       have hcy := (hI.below.cell (p := ⟨b', off' + k, none⟩) hbl').trans hcy0
       clear hcy0
       obtain ⟨hy0, hy1⟩ := dig_at HDY.out k hky
       go_wp2_with (at_builtin; refine wpList_append_fits _ rfl _ _ 58 rfl w.heap.size 116 i0 1 Tryz.underlying58 hi hz1 w.heap.size k (n + 1) _ rfl (hI.own.alloc _) ⟨wr.heap.size, 0, none⟩ 1 1 [.int .u32 ((cv + xs[k] + ys[k]) % 4294967296)] rfl rfl (cell_one_new _ _ _) (one_cell _ _) (by omega) ?_)
       intro w2 hown2 hgrow2
       go_wp2
       go_roundw
       case rel => exact ⟨k + 1, (cv + xs[k] + ys[k]) / 4294967296, _, by omega, by go_num, by omega, by omega, rfl, rfl, add_step hI _ (by simp [List.getD, hkx, hky]) hown2 hgrow2⟩
       case measure => simp [intOf]; omega
     · have hky : ¬ k < ys.length := by have := HY.out; omega
       go_wp2_with (at_builtin; refine wpList_append_fits _ rfl _ _ 58 rfl w.heap.size 116 i0 1 Tryz.underlying58 hi hz1 w.heap.size k (n + 1) _ rfl (hI.own.alloc _) ⟨wr.heap.size, 0, none⟩ 1 1 [.int .u32 ((cv + xs[k]) % 4294967296)] rfl rfl (cell_one_new _ _ _) (one_cell _ _) (by omega) ?_)
       intro w2 hown2 hgrow2
       go_wp2
       go_roundw
       case rel => exact ⟨k + 1, (cv + xs[k]) / 4294967296, _, by omega, by go_num, by omega, by omega, rfl, rfl, add_step hI _ (by simp [List.getD, hkx, hky]) hown2 hgrow2⟩
       case measure => simp [intOf]; omega
   · obtain rfl : k = n := by omega
     by_cases hcp : 0 < cv
     · obtain rfl : cv = 1 := by omega
       go_wp2_with (at_builtin; refine wpList_append_fits _ rfl _ _ 58 rfl w.heap.size 116 i0 1 Tryz.underlying58 hi hz1 w.heap.size k (k + 1) _ rfl (hI.own.alloc _) ⟨wr.heap.size, 0, none⟩ 1 1 [.int .u32 1] rfl rfl (cell_one_new _ _ _) (one_cell _ _) (by omega) ?_)
       intro w2 hown2 hgrow2
       go_wp2
       go_ret
       exact add_done1 hI (by omega) (by omega) HX.out (by have := HY.out; omega) hown2 hgrow2
     · obtain rfl : cv = 0 := by omega
       go_wp2
       go_ret
       exact add_done hI HX.out (by have := HY.out; omega)
theorem addAbs_any (ao bo : Option Addr) (n m ca cb k : Nat) (xs ys : List Int) (w : World) (hx : xs.length = n) (hy : ys.length = m) (dx : Dig xs) (dy : Dig ys) (rx : Rd w ao xs) (ry : Rd w bo ys) (h1 : n ≤ k) (h2 : m ≤ k) (hk : k ≤ 1000000) :
   Calls Tryz.prog 134 #[.slice ao n ca, .slice bo m cb] w (DigleP (k + 1) (val xs + val ys) w) := by
 by_cases hnm : m ≤ n
 · refine (addAbs_ge ao bo n m ca cb xs ys w hx hy dx dy rx ry (by omega) hnm).mono ?_
   rintro e w' ⟨a, l, c, zs, he, g1, g2, g3, g⟩
   exact ⟨a, l, c, zs, he, g1, g2, by omega, g⟩
 · refine (addAbs_lt bo ao m n cb ca ys xs w hy hx dy dx ry rx (by omega) (by omega)).mono ?_
   rintro e w' ⟨a, l, c, zs, he, g1, g2, g3, g4, g5, g6, g7⟩
   exact ⟨a, l, c, zs, he, g1, g2, by omega, g4, by rw [g5, Int.add_comm], g6, g7⟩
structure Two (w W : World) (A0 A1 B0 B1 : Value) : Prop where
 a0 : W.cell? ⟨w.heap.size, 0, none⟩ = some A0
 a1 : W.cell? ⟨w.heap.size, 1, none⟩ = some A1
 b0 : W.cell? ⟨w.heap.size + 1, 0, none⟩ = some B0
 b1 : W.cell? ⟨w.heap.size + 1, 1, none⟩ = some B1
 r0 : W.cell? ⟨w.heap.size + 1 + 1, 0, none⟩ = some (.bool false)
 r1 : W.cell? ⟨w.heap.size + 1 + 1, 1, none⟩ = some (.slice none 0 0)
 f0 : W.frozen? ⟨w.heap.size + 1 + 1, 0, none⟩ = false
 f1 : W.frozen? ⟨w.heap.size + 1 + 1, 1, none⟩ = false
 sz : w.heap.size + 1 + 1 < W.heap.size
 below : Below w.heap.size w W
theorem two_start (w : World) (A0 A1 B0 B1 : Value) : Two w (((w.alloc (Obj.cells #[A0, A1] 60)).alloc (Obj.cells #[B0, B1] 60)).alloc (Obj.cells #[Value.bool false, Value.slice none 0 0] 60)) A0 A1 B0 B1 :=
 ⟨by simp [go_sem], by simp [go_sem], by simp [go_sem], by simp [go_sem], by simp [go_sem], by simp [go_sem], by simp [go_sem], by simp [go_sem], by simp, (((Below.refl _ _).alloc (Nat.le_refl _) _).alloc (by simp) _).alloc (by simp; omega) _⟩
theorem Two.step {w W W' : World} {A0 A1 B0 B1 : Value} (h : Two w W A0 A1 B0 B1) (hb : Below W.heap.size W W') : Two w W' A0 A1 B0 B1 := by
 have hs := h.sz
 have hc := fun b o (hl : b < W.heap.size) => hb.cell (p := ⟨b, o, none⟩) hl
 have hf := fun b o (hl : b < W.heap.size) => hb.frozen (p := ⟨b, o, none⟩) hl
 exact ⟨(hc _ _ (by omega)).trans h.a0, (hc _ _ (by omega)).trans h.a1, (hc _ _ (by omega)).trans h.b0, (hc _ _ (by omega)).trans h.b1, (hc _ _ hs).trans h.r0, (hc _ _ hs).trans h.r1, (hf _ _ hs).trans h.f0, (hf _ _ hs).trans h.f1,
   Nat.lt_of_lt_of_le hs hb.size, h.below.trans (hb.mono h.below.size)⟩
theorem Two.drew {w W : World} {A0 A1 B0 B1 : Value} (h : Two w W A0 A1 B0 B1) : Two w W.drew A0 A1 B0 B1 := ⟨h.a0, h.a1, h.b0, h.b1, h.r0, h.r1, h.f0, h.f1, h.sz, h.below.drew⟩
theorem two_keep {w W : World} {u v : Value} (a o : Nat) {c : Value} (ha : a ≠ w.heap.size + 1 + 1) (hc : W.cell? ⟨a, o, none⟩ = some c) :
   ((W.setCell ⟨w.heap.size + 1 + 1, 0, none⟩ u).setCell ⟨w.heap.size + 1 + 1, 1, none⟩ v).cell? ⟨a, o, none⟩ = some c := by
 have hn : ∀ j, (⟨w.heap.size + 1 + 1, j, none⟩ : Addr) ≠ ⟨a, o, none⟩ := by intro j e; simp only [Addr.mk.injEq] at e; exact ha e.1.symm
 rw [World.cell?_setCell_other _ _ _ _ (hn 1), World.cell?_setCell_other _ _ _ _ (hn 0)]
 exact hc
theorem abs_add {x y : Int} (h : decide (x < 0) = decide (y < 0)) : ((x.natAbs : Int) + y.natAbs) = ((x + y).natAbs : Int) := by
 have : (x < 0) ↔ (y < 0) := by simpa using h
 omega
theorem sign_add {x y : Int} {s : Bool} (h1 : s = decide (x < 0)) (h : decide (x < 0) = decide (y < 0)) : x + y ≠ 0 → s = decide (x + y < 0) := by
 intro hz
 rw [h1]
 have : (x < 0) ↔ (y < 0) := by simpa using h
 rw [decide_eq_decide]; omega
theorem abs_sub {x y : Int} {s t : Bool} (hs : s = decide (x < 0)) (ht : t = decide (y < 0)) (hne : s ≠ t) (h : (y.natAbs : Int) ≤ x.natAbs) : ((x.natAbs : Int) - y.natAbs) = ((x + y).natAbs : Int) ∧ (x + y ≠ 0 → s = decide (x + y < 0)) := by
 have : ¬ ((x < 0) ↔ (y < 0)) := by intro h'; apply hne; rw [hs, ht, decide_eq_decide]; exact h'
 constructor
 · omega
 · intro hz; rw [hs, decide_eq_decide]; omega
theorem num_ret' {w w3 : World} {s : Bool} {ao : Option Addr} {n cap : Nat} {ds : List Int} {z : Int} {k R : Nat} {b0 : Bool} {a0 : Option Addr} {n0 c0 : Nat} (hR : w.heap.size ≤ R) (h0 : w3.cell? ⟨R, 0, none⟩ = some (.bool b0)) (h1 : w3.cell? ⟨R, 1, none⟩ = some (.slice a0 n0 c0))
   (h : IsNum w3 s ao n cap ds z k) (hb : Below w.heap.size w w3) {w4 : World} (hw : w4 = ((w3.setCell ⟨R, 0, none⟩ (.bool s)).setCell ⟨R, 1, none⟩ (.slice ao n cap)).drew ∨ w4 = (w3.setCell ⟨R, 0, none⟩ (.bool s)).setCell ⟨R, 1, none⟩ (.slice ao n cap) := by first | exact Or.inl rfl | exact Or.inr rfl) :
   NumP k z w (.returned (.agg #[.bool s, .slice ao n cap])) w4 := by
 obtain ⟨s', ao', n', cap', ds', e, hN, hB⟩ := num_ret hR h0 h1 h hb
 rcases hw with rfl | rfl
 · exact ⟨s', ao', n', cap', ds', e, ⟨hN.neg, hN.len, hN.cap, hN.rd, hN.nrm, hN.val, hN.le⟩, hB.drew⟩
 · exact ⟨s', ao', n', cap', ds', e, hN, hB⟩
def Nn (z : Int) : Prop := 0 ≤ z
def Ng (z : Int) : Prop := z < 0
set_option maxRecDepth 100000 in
set_option maxHeartbeats 1000000 in
theorem add_same (s : Bool) (ao bo : Option Addr) (n m ca cb k : Nat) (xs ys : List Int) (x y : Int) (w : World) (hx : IsNum w s ao n ca xs x k) (hy : IsNum w s bo m cb ys y k) (hk : k ≤ 1000000) :
   Calls Tryz.prog 104 #[.agg #[.bool s, .slice ao n ca], .agg #[.bool s, .slice bo m cb]] w (NumP (k + 1) (x + y) w) := by
 have hss : (s == s) = true := by simp
 have hsg : decide (x < 0) = decide (y < 0) := hx.neg.symm.trans hy.neg
 have HV : Hid (val xs + val ys = ((x + y).natAbs : Int) ∧ (x + y ≠ 0 → s = decide (x + y < 0))) := ⟨by rw [hx.val, hy.val]; exact abs_add hsg, sign_add hx.neg hsg⟩
 have HX : Hid (xs.length = n) := hx.len
 have HY : Hid (ys.length = m) := hy.len
 have hnk := hx.le
 have hmk := hy.le
 have dx := hx.nrm.1
 have dy := hy.nrm.1
 have T0 := two_start w (.bool s) (.slice ao n ca) (.bool s) (.slice bo m cb)
 have rx := hx.rd.below T0.below (Nat.le_refl _)
 have ry := hy.rd.below T0.below (Nat.le_refl _)
 clear hsg hx hy
 go_enter Tryz.func104, Tryz.ntmps104
 go_wp2
 generalize ((w.alloc (Obj.cells #[Value.bool s, Value.slice ao n ca] 60)).alloc (Obj.cells #[Value.bool s, Value.slice bo m cb] 60)).alloc (Obj.cells #[Value.bool false, Value.slice none 0 0] 60) = W at *
 go_region_held3 (fun w' => w'.cell? ⟨w.heap.size, 0, none⟩ = some (.bool s) ∧ w'.cell? ⟨w.heap.size, 1, none⟩ = some (.slice ao n ca) ∧ w'.cell? ⟨w.heap.size + 1, 1, none⟩ = some (.slice bo m cb)) (first | exact ⟨two_keep _ _ (by omega) T2.a0, two_keep _ _ (by omega) T2.a1, two_keep _ _ (by omega) T2.b1⟩ | exact ⟨T2.a0, T2.a1, T2.b1⟩ | exact ⟨T1.a0, T1.a1, T1.b1⟩ | exact ⟨T0.a0, T0.a1, T0.b1⟩)
   (first
     | (go_at_call 134; refine (addAbs_any ao bo n m ca cb k xs ys _ HX.out HY.out dx dy (by exact rx) (by exact ry) hnk hmk hk).mono ?_; rintro e w1 ⟨ao1, n1, c1, zs, rfl, p1, p2, p3, p4, p5, p6, p7⟩; have T1 := T0.drew.step p7; clear p7)
     | (go_at_call 81; refine (trim_any s _ _ _ zs _ p1 p2 p4 p6 (by omega)).mono ?_; rintro e w2 ⟨neg', ao', n', cap', ds', rfl, k1, k2, k3, k4, k5, k6, k7, k8⟩; have T2 := T1.step k8; have HN := num_of (z := x + y) (k := k + 1) k1 k2 (by omega) k4 (k5.trans p5) (k6.trans (by rw [p5])) k7 HV.out.1 HV.out.2; have c0 := T2.r0; have c1 := T2.r1; have f0 := T2.f0; have f1 := T2.f1; clear k1 k2 k3 k4 k5 k6 k7 k8))
 all_goals go_wp2
 all_goals refine bodyPost_ret (v := .agg #[.bool neg', .slice ao' n' cap']) (by simp [results, Tryz.results104, go_sem, c0, c1]) rfl ?_
 all_goals exact num_ret' (by omega) c0 c1 HN T2.below
set_option maxRecDepth 100000 in
set_option maxHeartbeats 1000000 in
theorem add_ge (s t : Bool) (hst : s ≠ t) (ao bo : Option Addr) (n m ca cb k : Nat) (xs ys : List Int) (x y : Int) (w : World) (hx : IsNum w s ao n ca xs x k) (hy : IsNum w t bo m cb ys y k) (hk : k ≤ 1000000) (hle : val ys ≤ val xs) :
   Calls Tryz.prog 104 #[.agg #[.bool s, .slice ao n ca], .agg #[.bool t, .slice bo m cb]] w (NumP (k + 1) (x + y) w) := by
 have hss : (s == t) = false := by simpa using hst
 have HV : Hid (val xs - val ys = ((x + y).natAbs : Int) ∧ (x + y ≠ 0 → s = decide (x + y < 0))) := by have := hle; rw [hx.val, hy.val] at this ⊢; exact abs_sub hx.neg hy.neg hst this
 have HX : Hid (xs.length = n) := hx.len
 have HY : Hid (ys.length = m) := hy.len
 have hnk := hx.le
 have hmk := hy.le
 have NX := hx.nrm
 have NY := hy.nrm
 have HLE : Hid (val ys ≤ val xs) := hle
 have T0 := two_start w (.bool s) (.slice ao n ca) (.bool t) (.slice bo m cb)
 have rx := hx.rd.below T0.below (Nat.le_refl _)
 have ry := hy.rd.below T0.below (Nat.le_refl _)
 have hcc : Nn (cmpI (val xs) (val ys)) := by show 0 ≤ _; unfold cmpI; split <;> (try split) <;> omega
 clear hx hy hst hle
 go_enter Tryz.func104, Tryz.ntmps104
 go_wp2_with fail
 generalize ((w.alloc (Obj.cells #[Value.bool s, Value.slice ao n ca] 60)).alloc (Obj.cells #[Value.bool t, Value.slice bo m cb] 60)).alloc (Obj.cells #[Value.bool false, Value.slice none 0 0] 60) = W0 at *
 refine (cmpAbs_any ao bo n m ca cb xs ys _ HX.out HY.out NX NY rx ry (by omega) (by omega)).mono ?_
 rintro e W ⟨rfl, hB⟩
 have T := T0.step hB
 have rx := rx.below hB (Nat.le_refl _)
 have ry := ry.below hB (Nat.le_refl _)
 generalize cmpI (val xs) (val ys) = cc at *
 have hcc : 0 ≤ cc := hcc
 clear T0 hB
 have T0 := T
 clear T
 go_wp2
 go_region_held3 (fun w' => w'.cell? ⟨w.heap.size, 0, none⟩ = some (.bool s) ∧ w'.cell? ⟨w.heap.size, 1, none⟩ = some (.slice ao n ca) ∧ w'.cell? ⟨w.heap.size + 1, 1, none⟩ = some (.slice bo m cb)) (first | exact ⟨two_keep _ _ (by omega) T2.a0, two_keep _ _ (by omega) T2.a1, two_keep _ _ (by omega) T2.b1⟩ | exact ⟨T2.a0, T2.a1, T2.b1⟩ | exact ⟨T1.a0, T1.a1, T1.b1⟩ | exact ⟨T0.a0, T0.a1, T0.b1⟩)
   (first
     | (go_at_call 86; refine (subAbs_any ao bo n m ca cb xs ys _ HX.out HY.out NX.1 NY.1 (by exact rx) (by exact ry) (by omega) (by omega) HLE.out).mono ?_; rintro e w1 ⟨ao1, c1, zs, rfl, p1, p2, p4, p5, p6, p7⟩; have T1 := T0.drew.step p7; clear p7)
     | (go_at_call 81; refine (trim_any s _ _ _ zs _ p1 p2 p4 p6 (by omega)).mono ?_; rintro e w2 ⟨neg', ao', n', cap', ds', rfl, k1, k2, k3, k4, k5, k6, k7, k8⟩; have T2 := T1.step k8; have HN := num_of (z := x + y) (k := k + 1) k1 k2 (by omega) k4 (k5.trans p5) (k6.trans (by rw [p5])) k7 HV.out.1 HV.out.2; have c0 := T2.r0; have c1 := T2.r1; have f0 := T2.f0; have f1 := T2.f1; clear k1 k2 k3 k4 k5 k6 k7 k8))
 all_goals go_wp2
 all_goals refine bodyPost_ret (v := .agg #[.bool neg', .slice ao' n' cap']) (by simp [results, Tryz.results104, go_sem, c0, c1]) rfl ?_
 all_goals exact num_ret' (by omega) c0 c1 HN T2.below
set_option maxRecDepth 100000 in
set_option maxHeartbeats 1000000 in
theorem add_lt (s t : Bool) (hst : s ≠ t) (ao bo : Option Addr) (n m ca cb k : Nat) (xs ys : List Int) (x y : Int) (w : World) (hx : IsNum w s ao n ca xs x k) (hy : IsNum w t bo m cb ys y k) (hk : k ≤ 1000000) (hle : val xs < val ys) :
   Calls Tryz.prog 104 #[.agg #[.bool s, .slice ao n ca], .agg #[.bool t, .slice bo m cb]] w (NumP (k + 1) (x + y) w) := by
 have hss : (s == t) = false := by simpa using hst
 have HV : Hid (val ys - val xs = ((x + y).natAbs : Int) ∧ (x + y ≠ 0 → t = decide (x + y < 0))) := by have := hle; rw [hx.val, hy.val] at this ⊢; have h := abs_sub hy.neg hx.neg (fun e => hst e.symm) (by omega); rw [Int.add_comm y x] at h; exact h
 have HX : Hid (xs.length = n) := hx.len
 have HY : Hid (ys.length = m) := hy.len
 have hnk := hx.le
 have hmk := hy.le
 have NX := hx.nrm
 have NY := hy.nrm
 have HLE : Hid (val xs < val ys) := hle
 have T0 := two_start w (.bool s) (.slice ao n ca) (.bool t) (.slice bo m cb)
 have rx := hx.rd.below T0.below (Nat.le_refl _)
 have ry := hy.rd.below T0.below (Nat.le_refl _)
 have hcc : Ng (cmpI (val xs) (val ys)) := by show _ < 0; rw [cmpI_lt hle]; decide
 clear hx hy hst hle
 go_enter Tryz.func104, Tryz.ntmps104
 go_wp2_with fail
 generalize ((w.alloc (Obj.cells #[Value.bool s, Value.slice ao n ca] 60)).alloc (Obj.cells #[Value.bool t, Value.slice bo m cb] 60)).alloc (Obj.cells #[Value.bool false, Value.slice none 0 0] 60) = W0 at *
 refine (cmpAbs_any ao bo n m ca cb xs ys _ HX.out HY.out NX NY rx ry (by omega) (by omega)).mono ?_
 rintro e W ⟨rfl, hB⟩
 have T := T0.step hB
 have rx := rx.below hB (Nat.le_refl _)
 have ry := ry.below hB (Nat.le_refl _)
 generalize cmpI (val xs) (val ys) = cc at *
 have hcc : ¬ 0 ≤ cc := by have : cc < 0 := hcc; omega
 clear T0 hB
 have T0 := T
 clear T
 go_wp2
 go_region_held3 (fun w' => w'.cell? ⟨w.heap.size + 1, 0, none⟩ = some (.bool t) ∧ w'.cell? ⟨w.heap.size + 1, 1, none⟩ = some (.slice bo m cb) ∧ w'.cell? ⟨w.heap.size, 1, none⟩ = some (.slice ao n ca)) (first | exact ⟨two_keep _ _ (by omega) T2.b0, two_keep _ _ (by omega) T2.b1, two_keep _ _ (by omega) T2.a1⟩ | exact ⟨T2.b0, T2.b1, T2.a1⟩ | exact ⟨T1.b0, T1.b1, T1.a1⟩ | exact ⟨T0.b0, T0.b1, T0.a1⟩)
   (first
     | (go_at_call 86; refine (subAbs_any bo ao m n cb ca ys xs _ HY.out HX.out NY.1 NX.1 (by exact ry) (by exact rx) (by omega) (by omega) (Int.le_of_lt HLE.out)).mono ?_; rintro e w1 ⟨ao1, c1, zs, rfl, p1, p2, p4, p5, p6, p7⟩; have T1 := T0.drew.step p7; clear p7)
     | (go_at_call 81; refine (trim_any t _ _ _ zs _ p1 p2 p4 p6 (by omega)).mono ?_; rintro e w2 ⟨neg', ao', n', cap', ds', rfl, k1, k2, k3, k4, k5, k6, k7, k8⟩; have T2 := T1.step k8; have HN := num_of (z := x + y) (k := k + 1) k1 k2 (by omega) k4 (k5.trans p5) (k6.trans (by rw [p5])) k7 HV.out.1 HV.out.2; have c0 := T2.r0; have c1 := T2.r1; have f0 := T2.f0; have f1 := T2.f1; clear k1 k2 k3 k4 k5 k6 k7 k8))
 all_goals go_wp2
 all_goals refine bodyPost_ret (v := .agg #[.bool neg', .slice ao' n' cap']) (by simp [results, Tryz.results104, go_sem, c0, c1]) rfl ?_
 all_goals exact num_ret' (by omega) c0 c1 HN T2.below
theorem add_any (s t : Bool) (ao bo : Option Addr) (n m ca cb k : Nat) (xs ys : List Int) (x y : Int) (w : World) (hx : IsNum w s ao n ca xs x k) (hy : IsNum w t bo m cb ys y k) (hk : k ≤ 1000000) :
   Calls Tryz.prog 104 #[.agg #[.bool s, .slice ao n ca], .agg #[.bool t, .slice bo m cb]] w (NumP (k + 1) (x + y) w) := by
 by_cases hst : s = t
 · subst hst
   exact add_same s ao bo n m ca cb k xs ys x y w hx hy hk
 · by_cases hle : val ys ≤ val xs
   · exact add_ge s t hst ao bo n m ca cb k xs ys x y w hx hy hk hle
   · exact add_lt s t hst ao bo n m ca cb k xs ys x y w hx hy hk (by omega)
theorem IsNum.drew {w : World} {s : Bool} {ao : Option Addr} {n cap : Nat} {ds : List Int} {z : Int} {k : Nat} (h : IsNum w s ao n cap ds z k) : IsNum w.drew s ao n cap ds z k := ⟨h.neg, h.len, h.cap, h.rd, h.nrm, h.val, h.le⟩
theorem IsNum.negated {w : World} {s : Bool} {ao : Option Addr} {n cap : Nat} {ds : List Int} {z : Int} {k : Nat} (h : IsNum w s ao n cap ds z k) (hz : z ≠ 0) : IsNum w (!s) ao n cap ds (-z) k :=
 ⟨by rw [h.neg]; by_cases h' : z < 0 <;> simp [h'] <;> omega, h.len, h.cap, h.rd, h.nrm, by rw [h.val]; omega, h.le⟩
set_option maxRecDepth 100000 in
set_option maxHeartbeats 400000 in
theorem neg_any (s : Bool) (ao : Option Addr) (n cap : Nat) (ds : List Int) (z : Int) (k : Nat) (w : World) (h : IsNum w s ao n cap ds z k) :
   Calls Tryz.prog 114 #[.agg #[.bool s, .slice ao n cap]] w (NumP k (-z) w) := by
 have h1 := h.zero
 have hB : ∀ o o', Below w.heap.size w ((w.alloc o).alloc o') := fun o o' => ((Below.refl _ _).alloc (Nat.le_refl _) o).alloc (by simp) o'
 by_cases hz : z = 0
 · subst hz
   have hn := h1.2 rfl
   subst hn
   have HH : Hid (IsNum w s ao 0 cap ds 0 k) := h
   clear h1 h
   go_enter Tryz.func114, Tryz.ntmps114
   go_wp2
   refine bodyPost_ret (v := .agg #[.bool s, .slice ao 0 cap]) (by simp [results, Tryz.results114, go_sem]) rfl ?_
   exact ⟨s, ao, 0, cap, ds, rfl, by simpa using HH.out.below (hB _ _), hB _ _⟩
 · have hn : ((n : Int) == 0) = false := beq_eq_false_iff_ne.2 (by have := fun h => hz (h1.1 h); omega)
   have HH : Hid (IsNum w (!s) ao n cap ds (-z) k) := h.negated hz
   clear h1 h
   go_enter Tryz.func114, Tryz.ntmps114
   go_wp2
   refine bodyPost_ret (v := .agg #[.bool (!s), .slice ao n cap]) (by simp [results, Tryz.results114, go_sem]) rfl ?_
   exact ⟨!s, ao, n, cap, ds, rfl, HH.out.below (hB _ _), hB _ _⟩
set_option maxRecDepth 100000 in
set_option maxHeartbeats 1000000 in
theorem sub_any (s t : Bool) (ao bo : Option Addr) (n m ca cb k : Nat) (xs ys : List Int) (x y : Int) (w : World) (hx : IsNum w s ao n ca xs x k) (hy : IsNum w t bo m cb ys y k) (hk : k ≤ 1000000) :
   Calls Tryz.prog 79 #[.agg #[.bool s, .slice ao n ca], .agg #[.bool t, .slice bo m cb]] w (NumP (k + 1) (x - y) w) := by
 have T0 := two_start w (.bool s) (.slice ao n ca) (.bool t) (.slice bo m cb)
 have nx := (hx.below T0.below).drew
 have ny := (hy.below T0.below).drew
 clear hx hy
 go_enter Tryz.func79, Tryz.ntmps79
 go_wp2
 generalize ((w.alloc (Obj.cells #[Value.bool s, Value.slice ao n ca] 60)).alloc (Obj.cells #[Value.bool t, Value.slice bo m cb] 60)).alloc (Obj.cells #[Value.bool false, Value.slice none 0 0] 60) = W at *
 go_region_held3 (fun w' => w'.cell? ⟨w.heap.size, 0, none⟩ = some (.bool s) ∧ w'.cell? ⟨w.heap.size, 1, none⟩ = some (.slice ao n ca) ∧ w'.cell? ⟨w.heap.size + 1, 0, none⟩ = some (.bool t) ∧ w'.cell? ⟨w.heap.size + 1, 1, none⟩ = some (.slice bo m cb))
   (first | exact ⟨two_keep _ _ (by omega) T2.a0, two_keep _ _ (by omega) T2.a1, two_keep _ _ (by omega) T2.b0, two_keep _ _ (by omega) T2.b1⟩ | exact ⟨T2.a0, T2.a1, T2.b0, T2.b1⟩ | exact ⟨T1.a0, T1.a1, T1.b0, T1.b1⟩ | exact ⟨T0.a0, T0.a1, T0.b0, T0.b1⟩)
   (first
     | (go_at_call 114; refine (neg_any t bo m cb ys y k _ ny).mono ?_; rintro e w1 ⟨s1, ao1, n1, c1, ds1, rfl, hN1, hB1⟩; have T1 := T0.drew.step hB1; have nx1 := nx.below hB1; clear hB1)
     | (go_at_call 104; refine (add_any s s1 ao ao1 n n1 ca c1 k xs ds1 x (-y) _ nx1 hN1 hk).mono ?_; rintro e w2 ⟨s2, ao2, n2, c2, ds2, rfl, hN2, hB2⟩; have T2 := T1.step hB2; have c0 := T2.r0; have c1 := T2.r1; have f0 := T2.f0; have f1 := T2.f1; clear hB2))
 all_goals go_wp2
 all_goals refine bodyPost_ret (v := .agg #[.bool s2, .slice ao2 n2 c2]) (by simp [results, Tryz.results79, go_sem, c0, c1]) rfl ?_
 all_goals exact num_ret' (by omega) c0 c1 hN2 T2.below
set_option maxRecDepth 100000 in
set_option maxHeartbeats 400000 in
theorem cmp_any (s t : Bool) (ao bo : Option Addr) (n m ca cb k : Nat) (xs ys : List Int) (x y : Int) (w : World) (hx : IsNum w s ao n ca xs x k) (hy : IsNum w t bo m cb ys y k) (hk : k ≤ 1000000) :
   Calls Tryz.prog 52 #[.agg #[.bool s, .slice ao n ca], .agg #[.bool t, .slice bo m cb]] w (IntP (cmpI x y) w) := by
 have hB : ∀ o o', Below w.heap.size w ((w.alloc o).alloc o') := fun o o' => ((Below.refl _ _).alloc (Nat.le_refl _) o).alloc (by simp) o'
 go_enter Tryz.func52, Tryz.ntmps52
 go_wp2_with fail
 refine (sub_any s t ao bo n m ca cb k xs ys x y _ (hx.below (hB _ _)) (hy.below (hB _ _)) hk).mono ?_
 rintro e w1 ⟨s1, ao1, n1, c1, ds1, rfl, hN1, hB1⟩
 have hB2 := (hB _ _).trans (hB1.mono (by simp; omega))
 clear hB1
 go_wp2_with fail
 refine (sign_any s1 ao1 n1 c1 ds1 _ _ _ hN1).mono ?_
 rintro e w2 ⟨rfl, hB3⟩
 have hB4 := hB2.trans (hB3.mono hB2.size)
 clear hB2 hB3 hN1
 go_wp2
 go_ret
 exact ⟨ret_int (by unfold cmpI; by_cases h1 : x < y <;> by_cases h2 : y < x <;> simp [h1, h2] <;> omega), hB4⟩
def SwP (z : Int) (w : World) (e : Ending) (w' : World) : Prop :=
 ∃ a3 a2 a1 a0, e = .returned (.agg #[.int .u64 a3, .int .u64 a2, .int .u64 a1, .int .u64 a0]) ∧ Word a3 ∧ Word a2 ∧ Word a1 ∧ Word a0 ∧ sw a3 a2 a1 a0 = z ∧ Below w.heap.size w w'
set_option maxRecDepth 100000 in
set_option maxHeartbeats 1000000 in
theorem implOf_any (n : Int) (w : World) (h0 : -9223372036854775808 ≤ n) (h1 : n ≤ 9223372036854775807) :
   Calls Tryz.prog 102 #[.int .i64 n] w (SwP n w) := by
 by_cases hn : n < 0
 · have hd1 : IntKind.u64.wrap (n / 9223372036854775808) = 18446744073709551615 := by rw [IntKind.wrap_u64]; omega
   have hd2 : IntKind.u64.wrap n = n + 18446744073709551616 := by rw [IntKind.wrap_u64]; omega
   go_enter Tryz.func102, Tryz.ntmps102
   go_wp2
   refine bodyPost_ret (v := .agg #[.int .u64 18446744073709551615, .int .u64 18446744073709551615, .int .u64 18446744073709551615, .int .u64 (n + 18446744073709551616)]) (by simp [results, Tryz.results102, go_sem]) rfl ?_
   refine ⟨_, _, _, _, rfl, ⟨by decide, by decide⟩, ⟨by decide, by decide⟩, ⟨by decide, by decide⟩, ⟨by omega, by omega⟩, ?_, (Below.refl _ _).alloc (Nat.le_refl _) _⟩
   unfold sw uw; rw [if_neg (by decide)]; omega
 · have hd1 : n / 9223372036854775808 = 0 := by omega
   go_enter Tryz.func102, Tryz.ntmps102
   go_wp2
   refine bodyPost_ret (v := .agg #[.int .u64 0, .int .u64 0, .int .u64 0, .int .u64 n]) (by simp [results, Tryz.results102, go_sem]) rfl ?_
   refine ⟨_, _, _, _, rfl, ⟨by decide, by decide⟩, ⟨by decide, by decide⟩, ⟨by decide, by decide⟩, ⟨by omega, by omega⟩, ?_, (Below.refl _ _).alloc (Nat.le_refl _) _⟩
   unfold sw uw; rw [if_pos (by decide)]; omega
structure Wd (W : World) (g : Nat) (a3 a2 a1 a0 : Int) : Prop where
 c0 : W.cell? ⟨g, 0, none⟩ = some (.int .u64 a3)
 c1 : W.cell? ⟨g, 1, none⟩ = some (.int .u64 a2)
 c2 : W.cell? ⟨g, 2, none⟩ = some (.int .u64 a1)
 c3 : W.cell? ⟨g, 3, none⟩ = some (.int .u64 a0)
 f0 : W.frozen? ⟨g, 0, none⟩ = false
 f1 : W.frozen? ⟨g, 1, none⟩ = false
 f2 : W.frozen? ⟨g, 2, none⟩ = false
 f3 : W.frozen? ⟨g, 3, none⟩ = false
 lt : g < W.heap.size
theorem Wd.step {W W' : World} {g : Nat} {a3 a2 a1 a0 : Int} (h : Wd W g a3 a2 a1 a0) (hb : Below W.heap.size W W') : Wd W' g a3 a2 a1 a0 := by
 have hc := fun o => hb.cell (p := ⟨g, o, none⟩) h.lt
 have hf := fun o => hb.frozen (p := ⟨g, o, none⟩) h.lt
 exact ⟨(hc _).trans h.c0, (hc _).trans h.c1, (hc _).trans h.c2, (hc _).trans h.c3, (hf _).trans h.f0, (hf _).trans h.f1, (hf _).trans h.f2, (hf _).trans h.f3, Nat.lt_of_lt_of_le h.lt hb.size⟩
theorem Wd.alloc {W : World} {g : Nat} {a3 a2 a1 a0 : Int} (h : Wd W g a3 a2 a1 a0) (o : Obj) : Wd (W.alloc o) g a3 a2 a1 a0 := h.step ((Below.refl _ _).alloc (Nat.le_refl _) o)
theorem Wd.new (W : World) (a3 a2 a1 a0 : Int) (T : TypeId) {g : Nat} (hg : g = W.heap.size) : Wd (W.alloc (Obj.cells #[Value.int IntKind.u64 a3, Value.int IntKind.u64 a2, Value.int IntKind.u64 a1, Value.int IntKind.u64 a0] T)) g a3 a2 a1 a0 := by
 subst hg
 exact ⟨by simp [go_sem], by simp [go_sem], by simp [go_sem], by simp [go_sem], by simp [go_sem], by simp [go_sem], by simp [go_sem], by simp [go_sem], by simp⟩
set_option maxRecDepth 100000 in
set_option maxHeartbeats 400000 in
theorem wordsOf_any (a3 a2 a1 a0 : Int) (w : World) :
   Calls Tryz.prog 141 #[.agg #[.int .u64 a3, .int .u64 a2, .int .u64 a1, .int .u64 a0]] w (WideP a0 a1 a2 a3 w) := by
 go_enter Tryz.func141, Tryz.ntmps141
 go_wp2
 refine bodyPost_ret (v := .agg #[.int .u64 a0, .int .u64 a1, .int .u64 a2, .int .u64 a3]) (by simp [results, Tryz.results141, go_sem]) rfl ?_
 exact ⟨rfl, ((Below.refl _ _).alloc (Nat.le_refl _) _).alloc (by simp) _⟩
theorem words4 {a0 a1 a2 a3 : Int} (h0 : Word a0) (h1 : Word a1) (h2 : Word a2) (h3 : Word a3) : Words [a0, a1, a2, a3] := by
 intro d hd
 simp only [List.mem_cons, List.not_mem_nil, or_false] at hd
 rcases hd with rfl | rfl | rfl | rfl
 · exact h0
 · exact h1
 · exact h2
 · exact h3
theorem words4_of {a0 a1 a2 a3 : Int} (h : Words [a0, a1, a2, a3]) : Word a0 ∧ Word a1 ∧ Word a2 ∧ Word a3 := ⟨h _ (by simp), h _ (by simp), h _ (by simp), h _ (by simp)⟩
theorem val64_4 (a0 a1 a2 a3 : Int) : val64 [a0, a1, a2, a3] = uw a3 a2 a1 a0 := by simp only [val64, uw]; omega
theorem pw64_pos (n : Nat) : 0 < pw64 n := by
 induction n with
 | zero => simp [pw64]
 | succ n ih => simp only [pw64]; omega
theorem val64_lt {a : List Int} (h : Words a) : 0 ≤ val64 a ∧ val64 a < pw64 a.length := by
 induction a with
 | nil => simp [val64, pw64]
 | cons d t ih =>
   have h1 := h d (by simp)
   have h2 := ih (fun x hx => h x (by simp [hx]))
   unfold Word at h1
   simp only [val64, List.length_cons, pw64]; omega
theorem val64_append (a b : List Int) : val64 (a ++ b) = val64 a + pw64 a.length * val64 b := by
 induction a with
 | nil => simp [val64, pw64]
 | cons d t ih => simp only [List.cons_append, val64, List.length_cons, pw64, ih]; grind
theorem val64_split (a : List Int) (k : Nat) (h : k < a.length) : val64 a = val64 (a.take k) + pw64 k * (a[k] + 18446744073709551616 * val64 (a.drop (k + 1))) := by
 have h1 := val64_append (a.take k) (a.drop k)
 rw [List.take_append_drop, List.drop_eq_getElem_cons h] at h1
 simpa [val64, Nat.min_eq_left (Nat.le_of_lt h)] using h1
theorem wd0 : Word 0 := ⟨by decide, by decide⟩
def SizeP (z : Int) (w : World) (e : Ending) (w' : World) : Prop :=
 ∃ x3 x2 x1 x0, e = .returned (.agg #[.int .u64 x0, .int .u64 x1, .int .u64 x2, .int .u64 x3]) ∧ Word x3 ∧ Word x2 ∧ Word x1 ∧ Word x0 ∧ uw x3 x2 x1 x0 = (z.natAbs : Int) ∧ Below w.heap.size w w'
theorem sizeP_set {z : Int} {w W : World} {R : Nat} {e : Ending} {u0 u1 u2 u3 : Value} (hR : w.heap.size ≤ R) (h : SizeP z w e W) : SizeP z w e ((((W.setCell ⟨R, 0, none⟩ u0).setCell ⟨R, 1, none⟩ u1).setCell ⟨R, 2, none⟩ u2).setCell ⟨R, 3, none⟩ u3) := by
 obtain ⟨x3, x2, x1, x0, e1, h3, h2, h1, h0, hu, hB⟩ := h
 exact ⟨x3, x2, x1, x0, e1, h3, h2, h1, h0, hu, tell_below hB hR⟩
set_option maxRecDepth 100000 in
set_option maxHeartbeats 1000000 in
theorem sizeOf_any (a3 a2 a1 a0 : Int) (h3 : Word a3) (h2 : Word a2) (h1 : Word a1) (h0 : Word a0) (w : World) :
   Calls Tryz.prog 120 #[.agg #[.int .u64 a3, .int .u64 a2, .int .u64 a1, .int .u64 a0]] w (SizeP (sw a3 a2 a1 a0) w) := by
 have hn := sw_neg h3 h2 h1 h0
 have A0 : Wd ((w.alloc (Obj.cells #[Value.int IntKind.u64 a3, Value.int IntKind.u64 a2, Value.int IntKind.u64 a1, Value.int IntKind.u64 a0] 36)).alloc (Obj.cells #[Value.int IntKind.u64 0, Value.int IntKind.u64 0, Value.int IntKind.u64 0, Value.int IntKind.u64 0] 148)) w.heap.size a3 a2 a1 a0 := (Wd.new _ _ _ _ _ 36 rfl).alloc _
 have R0 : Wd ((w.alloc (Obj.cells #[Value.int IntKind.u64 a3, Value.int IntKind.u64 a2, Value.int IntKind.u64 a1, Value.int IntKind.u64 a0] 36)).alloc (Obj.cells #[Value.int IntKind.u64 0, Value.int IntKind.u64 0, Value.int IntKind.u64 0, Value.int IntKind.u64 0] 148)) (w.heap.size + 1) 0 0 0 0 := Wd.new _ 0 0 0 0 148 (by simp)
 have HB : Below w.heap.size w ((w.alloc (Obj.cells #[Value.int IntKind.u64 a3, Value.int IntKind.u64 a2, Value.int IntKind.u64 a1, Value.int IntKind.u64 a0] 36)).alloc (Obj.cells #[Value.int IntKind.u64 0, Value.int IntKind.u64 0, Value.int IntKind.u64 0, Value.int IntKind.u64 0] 148)) := ((Below.refl _ _).alloc (Nat.le_refl _) _).alloc (by simp) _
 by_cases hp : 9223372036854775808 ≤ a3
 · have hb : (a3 / 9223372036854775808 == 1) = true := beq_iff_eq.2 (by have := h3.2; omega)
   go_enter Tryz.func120, Tryz.ntmps120
   go_wp2_with fail
   refine (isBelow_any a3 a2 a1 a0 h3 true hb _).mono ?_
   rintro e w1 ⟨rfl, hB⟩
   replace A0 := A0.step hB
   replace R0 := R0.step hB
   replace HB := HB.trans (hB.mono HB.size)
   clear hB
   have i0 := A0.c0; have i1 := A0.c1; have i2 := A0.c2; have i3 := A0.c3
   go_wp2_with fail
   refine (wordsOf_any a3 a2 a1 a0 _).mono ?_
   rintro e w2 ⟨rfl, hB⟩
   replace R0 := R0.step hB
   replace HB := HB.trans (hB.mono HB.size)
   clear hB A0 i0 i1 i2 i3
   go_wp2_with fail
   refine (minus4 0 0 0 0 a0 a1 a2 a3 (words4 wd0 wd0 wd0 wd0) (words4 h0 h1 h2 h3) _).mono ?_
   rintro e w3 ⟨zs, c, rfl, g1, g2, g3, g4, g5, hB⟩
   obtain ⟨z0, z1, z2, z3, rfl⟩ := list4 g1
   obtain ⟨l0, l1, l2, l3⟩ := words4_of g2
   rw [val64_4, val64_4, val64_4, show [(0 : Int), 0, 0, 0].length = 4 from rfl] at g5
   replace R0 := R0.step hB
   replace HB := HB.trans (hB.mono HB.size)
   have HP : Hid (SizeP (sw a3 a2 a1 a0) w (.returned (.agg #[.int .u64 z0, .int .u64 z1, .int .u64 z2, .int .u64 z3])) w3) := by
     refine ⟨z3, z2, z1, z0, rfl, l3, l2, l1, l0, ?_, HB⟩
     have e1 : pw64 4 = 115792089237316195423570985008687907853269984665640564039457584007913129639936 := by decide
     rw [e1] at g5
     have e2 : sw a3 a2 a1 a0 = uw a3 a2 a1 a0 - 115792089237316195423570985008687907853269984665640564039457584007913129639936 := by unfold sw; rw [if_neg (by omega)]
     have e3 := uw_bound h3 h2 h1 h0
     have e4 := uw_bound l3 l2 l1 l0
     have e5 : uw 0 0 0 0 = 0 := by decide
     have e6 : uw a3 a2 a1 a0 ≠ 0 := by unfold uw; unfold Word at *; omega
     omega
   have r0 := R0.c0; have r1 := R0.c1; have r2 := R0.c2; have r3 := R0.c3; have f0 := R0.f0; have f1 := R0.f1; have f2 := R0.f2; have f3 := R0.f3
   clear hB g5 g1 g2 g3 g4 HB R0
   go_wp2
   refine bodyPost_ret (v := .agg #[.int .u64 z0, .int .u64 z1, .int .u64 z2, .int .u64 z3]) (by simp [results, Tryz.results120, go_sem, r0, r1, r2, r3]) rfl ?_
   exact sizeP_set (Nat.le_succ _) HP.out
 · have hb : (a3 / 9223372036854775808 == 1) = false := beq_eq_false_iff_ne.2 (by have := h3.1; omega)
   go_enter Tryz.func120, Tryz.ntmps120
   go_wp2_with fail
   refine (isBelow_any a3 a2 a1 a0 h3 false hb _).mono ?_
   rintro e w1 ⟨rfl, hB⟩
   replace A0 := A0.step hB
   replace R0 := R0.step hB
   replace HB := HB.trans (hB.mono HB.size)
   clear hB
   have i0 := A0.c0; have i1 := A0.c1; have i2 := A0.c2; have i3 := A0.c3
   go_wp2_with fail
   refine (wordsOf_any a3 a2 a1 a0 _).mono ?_
   rintro e w2 ⟨rfl, hB⟩
   replace R0 := R0.step hB
   replace HB := HB.trans (hB.mono HB.size)
   have HP : Hid (SizeP (sw a3 a2 a1 a0) w (.returned (.agg #[.int .u64 a0, .int .u64 a1, .int .u64 a2, .int .u64 a3])) w2) := by
     refine ⟨a3, a2, a1, a0, rfl, h3, h2, h1, h0, ?_, HB⟩
     have e2 : sw a3 a2 a1 a0 = uw a3 a2 a1 a0 := by unfold sw; rw [if_pos (by omega)]
     have e3 := uw_bound h3 h2 h1 h0
     omega
   have r0 := R0.c0; have r1 := R0.c1; have r2 := R0.c2; have r3 := R0.c3; have f0 := R0.f0; have f1 := R0.f1; have f2 := R0.f2; have f3 := R0.f3
   clear hB HB R0 A0 i0 i1 i2 i3
   go_wp2
   refine bodyPost_ret (v := .agg #[.int .u64 a0, .int .u64 a1, .int .u64 a2, .int .u64 a3]) (by simp [results, Tryz.results120, go_sem, r0, r1, r2, r3]) rfl ?_
   exact sizeP_set (Nat.le_succ _) HP.out
def CountP (xs : List Int) (w : World) (e : Ending) (w' : World) : Prop :=
 ∃ n : Nat, e = .returned (.int .i64 n) ∧ n ≤ xs.length ∧ (∀ j, n ≤ j → (h : j < xs.length) → xs[j] = 0) ∧ (∀ m, n = m + 1 → (h : m < xs.length) → xs[m] ≠ 0) ∧ w' = w
theorem count_some (w : World) {xs : List Int} {m : Nat} (hm : m < xs.length) (h0 : xs[m] ≠ 0) (hz : ∀ j, m + 1 ≤ j → (h : j < xs.length) → xs[j] = 0) (v : Int) (hv : v = ((m + 1 : Nat) : Int)) : CountP xs w (.returned (.int .i64 v)) w :=
 ⟨m + 1, by rw [hv], hm, hz, fun i hi hl => by
   have : m = i := by omega
   subst this
   exact h0, rfl⟩
set_option maxRecDepth 100000 in
set_option maxHeartbeats 400000 in
theorem countWords_any (A off n cap : Nat) (xs : List Int) (w : World) (hn : xs.length = n) (hr : Row w A off xs) (hm : n ≤ 1000) :
   Calls Tryz.prog 121 #[.slice (some ⟨A, off, none⟩) n cap] w (CountP xs w) := by
 go_enter Tryz.func121, Tryz.ntmps121
 go_wp2
 go_loop [3] (fun i => ∃ k : Nat, k ≤ n ∧ i = .int .i64 k ∧ ∀ j, k ≤ j → (h : j < xs.length) → xs[j] = 0) (fun i => (intOf i).toNat)
 case atStart => exact ⟨n, Nat.le_refl _, rfl, fun j h1 h2 => by omega⟩
 case round =>
   obtain ⟨k, hk, rfl, hz⟩ := hrel
   have HN : Hid (xs.length = n) := hn
   have HZ : Hid (∀ j, k ≤ j → (h : j < xs.length) → xs[j] = 0) := hz
   have HR : Hid (Row w A off xs) := hr
   clear hz hr hn
   by_cases hk0 : 0 < k
   · obtain ⟨m, rfl⟩ : ∃ m, k = m + 1 := ⟨k - 1, by omega⟩
     have hml : m < xs.length := by have := HN.out; omega
     have hcell := HR.out.cell m hml
     go_wp2
     · go_round
       case rel =>
         have h0 : (xs[m] == 0) = true := by assumption
         exact ⟨m, by omega, by go_num, fun j h1 h2 => by
           by_cases e : j = m
           · subst e; simpa using h0
           · exact HZ.out j (by omega) h2⟩
       case measure => simp [intOf]
     · have h0 : (xs[m] == 0) = false := by assumption
       go_ret
       exact count_some w hml (by simpa using h0) HZ.out _ (by omega)
   · go_wp2
     go_ret
     exact ⟨k, rfl, by have := HN.out; omega, HZ.out, fun i hi => by omega, rfl⟩
theorem bits_words {xs : List Int} (hw : Words xs) (m : Nat) (hm : m < xs.length) (hz : ∀ j, m + 1 ≤ j → (h : j < xs.length) → xs[j] = 0) (h0 : xs[m] ≠ 0) {b : Nat} (hb : BitsOf xs[m] b) : BitsOf (val64 xs) (64 * m + b) := by
 have hd : val64 (xs.drop (m + 1)) = 0 := by
   have e : xs.drop (m + 1) = List.replicate (xs.length - (m + 1)) 0 := by
     apply List.ext_getElem
     · simp
     · intro i h1 h2
       simp only [List.getElem_drop, List.getElem_replicate]
       exact hz _ (by omega) _
   rw [e]
   generalize xs.length - (m + 1) = q
   induction q with
   | zero => rfl
   | succ q ih => simp [List.replicate_succ, val64, ih]
 have hl := val64_lt (a := xs.take m) (fun x hx => hw x (List.mem_of_mem_take hx))
 have e3 : (xs.take m).length = m := by simp; omega
 rw [e3] at hl
 rw [val64_split xs m hm, hd]
 simp only [Int.mul_zero, Int.add_zero]
 have hp : (2 : Int) ^ (64 * m) = pw64 m := by
   clear hd hl e3 hz h0 hb hm
   induction m with
   | zero => rfl
   | succ m ih => rw [show 64 * (m + 1) = 64 * m + 64 by omega, Int.pow_add, ih, pw64, show (2 : Int) ^ 64 = 18446744073709551616 by decide, Int.mul_comm]
 obtain ⟨g0, g1, g2⟩ := hb
 have p0 := pw64_pos m
 generalize xs[m] = t at *
 have ht : 0 < t := by omega
 refine ⟨by have := Int.mul_nonneg (Int.le_of_lt p0) g0; omega, ?_, Or.inr ?_⟩
 · rw [Int.pow_add, hp]
   have : pw64 m * (t + 1) ≤ pw64 m * 2 ^ b := Int.mul_le_mul_of_nonneg_left (by omega) (by omega)
   rw [Int.mul_add] at this
   omega
 · have hb0 : b ≠ 0 := by rintro rfl; simp at g1; omega
   rcases g2 with g2 | g2
   · exact absurd g2 hb0
   · rw [show 64 * m + b - 1 = 64 * m + (b - 1) by omega, Int.pow_add, hp]
     have : pw64 m * 2 ^ (b - 1) ≤ pw64 m * t := Int.mul_le_mul_of_nonneg_left g2 (by omega)
     omega
set_option maxRecDepth 100000 in
set_option maxHeartbeats 1000000 in
theorem implBits_any (a3 a2 a1 a0 : Int) (h3 : Word a3) (h2 : Word a2) (h1 : Word a1) (h0 : Word a0) (w : World) :
   Calls Tryz.prog 92 #[.agg #[.int .u64 a3, .int .u64 a2, .int .u64 a1, .int .u64 a0]] w (BitsP ((sw a3 a2 a1 a0).natAbs : Int) w) := by
 go_enter Tryz.func92, Tryz.ntmps92
 go_wp2_with fail
 refine (sizeOf_any a3 a2 a1 a0 h3 h2 h1 h0 _).mono ?_
 rintro e w1 ⟨x3, x2, x1, x0, rfl, l3, l2, l1, l0, hu, hB⟩
 have hB1 : Below w.heap.size w w1 := ((Below.refl _ _).alloc (Nat.le_refl _) _).trans (hB.mono (by simp))
 clear hB
 have HU : Hid (uw x3 x2 x1 x0 = ((sw a3 a2 a1 a0).natAbs : Int)) := hu
 clear hu
 have G0 := Wd.new w1 x0 x1 x2 x3 148 rfl
 have HR := row_of4 G0.lt G0.c0 G0.c1 G0.c2 G0.c3 G0.f0 G0.f1 G0.f2 G0.f3
 have hB2 := hB1.alloc hB1.size (Obj.cells #[Value.int IntKind.u64 x0, Value.int IntKind.u64 x1, Value.int IntKind.u64 x2, Value.int IntKind.u64 x3] 148)
 clear G0
 go_wp2_with fail
 refine (countWords_any w1.heap.size 0 4 4 [x0, x1, x2, x3] _ rfl HR (by omega)).mono ?_
 rintro e w2 ⟨n, rfl, hn, hz, hnz, rfl⟩
 have HW := words4 l0 l1 l2 l3
 have HV := val64_4 x0 x1 x2 x3
 generalize hxs : [x0, x1, x2, x3] = xs at *
 have hlx : xs.length = 4 := by rw [← hxs]; rfl
 rw [hlx] at hn
 by_cases hn0 : n = 0
 · subst hn0
   have hv0 : val64 xs = 0 := by
     rw [HV]
     have c0 := hz 0 (by omega) (by omega); have c1 := hz 1 (by omega) (by omega); have c2 := hz 2 (by omega) (by omega); have c3 := hz 3 (by omega) (by omega)
     subst hxs
     simp at c0 c1 c2 c3
     subst c0 c1 c2 c3
     decide
   have HE : Hid (((sw a3 a2 a1 a0).natAbs : Int) = 0) := by show _ = _; rw [← HU.out, ← HV, hv0]
   clear hz hnz HR HW HV hv0 hlx hxs
   go_wp2
   go_ret
   exact ⟨0, rfl, by rw [HE.out]; exact ⟨by decide, by decide, Or.inl rfl⟩, hB2⟩
 · obtain ⟨m, rfl⟩ : ∃ m, n = m + 1 := ⟨n - 1, by omega⟩
   have hml : m < xs.length := by omega
   have hnz' := hnz m rfl hml
   have hc := HR.cell m hml
   rw [Nat.zero_add] at hc
   have hwm := words_at HW m hml
   have HB := fun b hb => bits_words HW m hml hz hnz' (b := b) hb
   rw [HV, HU.out] at HB
   have HB' : Hid (∀ b : Nat, BitsOf xs[m] b → BitsOf ((sw a3 a2 a1 a0).natAbs : Int) (64 * m + b)) := HB
   have hm4 : (m : Int) < 4 := by omega
   have hmn : ((m : Int) + 1 == 0) = false := beq_eq_false_iff_ne.2 (by omega)
   clear hz hnz HR HW HV hxs HB hnz'
   go_wp2_with fail
   refine (len64_any xs[m] hwm _).mono ?_
   rintro e w3 ⟨b, rfl, hb, hB3⟩
   have hb64 : b ≤ 64 := (bits_le hb 64).2 (by rw [show (2 : Int) ^ 64 = 18446744073709551616 by decide]; exact hwm.2)
   have HH : Hid (BitsOf ((sw a3 a2 a1 a0).natAbs : Int) (64 * m + b)) := HB'.out b hb
   have hB4 := hB2.trans (hB3.mono hB2.size)
   clear hb hB3 hB2 HB'
   go_wp2
   go_ret
   exact ⟨64 * m + b, ret_int (by omega), HH.out, hB4⟩
theorem liftUp_det (xs : List Int) (r : Nat) (hl : xs.length = 8) (hx : Words xs) (hr : r < 64) (zs : List Int) (zl : zs.length = 9) (zw : Words zs) (zv : val64 zs = 2 ^ r * val64 xs) (w : World) : Calls Tryz.prog 143 #[agg xs, .int .i64 r] w (fun e w' => e = .returned (agg zs) ∧ Below w.heap.size w w') := by
 refine (liftUp_any xs r hl hx hr w).mono ?_
 rintro e w1 ⟨us, rfl, h1, h2, h3, hB⟩
 obtain rfl : us = zs := val64_inj h2 zw (h1.trans zl.symm) (h3.trans zv.symm)
 exact ⟨rfl, hB⟩
theorem dl_cells {x0 x1 x2 x3 x4 x5 x6 x7 y0 y1 y2 y3 y4 y5 y6 y7 : Int} {w W : World} (h : ArgsB w W [[.int .u64 x0, .int .u64 x1, .int .u64 x2, .int .u64 x3, .int .u64 x4, .int .u64 x5, .int .u64 x6, .int .u64 x7], [.int .u64 y0, .int .u64 y1, .int .u64 y2, .int .u64 y3, .int .u64 y4, .int .u64 y5, .int .u64 y6, .int .u64 y7], [.int .u64 0, .int .u64 0, .int .u64 0, .int .u64 0, .int .u64 0, .int .u64 0, .int .u64 0, .int .u64 0], [.int .u64 0, .int .u64 0, .int .u64 0, .int .u64 0, .int .u64 0, .int .u64 0, .int .u64 0, .int .u64 0]]) : (fun w' => w'.cell? ⟨w.heap.size, 0, none⟩ = some (.int .u64 x0) ∧ w'.cell? ⟨w.heap.size, 1, none⟩ = some (.int .u64 x1) ∧ w'.cell? ⟨w.heap.size, 2, none⟩ = some (.int .u64 x2) ∧ w'.cell? ⟨w.heap.size, 3, none⟩ = some (.int .u64 x3) ∧ w'.cell? ⟨w.heap.size, 4, none⟩ = some (.int .u64 x4) ∧ w'.cell? ⟨w.heap.size, 5, none⟩ = some (.int .u64 x5) ∧ w'.cell? ⟨w.heap.size, 6, none⟩ = some (.int .u64 x6) ∧ w'.cell? ⟨w.heap.size, 7, none⟩ = some (.int .u64 x7) ∧ w'.cell? ⟨w.heap.size + 1, 0, none⟩ = some (.int .u64 y0) ∧ w'.cell? ⟨w.heap.size + 1, 1, none⟩ = some (.int .u64 y1) ∧ w'.cell? ⟨w.heap.size + 1, 2, none⟩ = some (.int .u64 y2) ∧ w'.cell? ⟨w.heap.size + 1, 3, none⟩ = some (.int .u64 y3) ∧ w'.cell? ⟨w.heap.size + 1, 4, none⟩ = some (.int .u64 y4) ∧ w'.cell? ⟨w.heap.size + 1, 5, none⟩ = some (.int .u64 y5) ∧ w'.cell? ⟨w.heap.size + 1, 6, none⟩ = some (.int .u64 y6) ∧ w'.cell? ⟨w.heap.size + 1, 7, none⟩ = some (.int .u64 y7)) W :=
 ⟨(h.b 0 rfl).c 0 rfl, (h.b 0 rfl).c 1 rfl, (h.b 0 rfl).c 2 rfl, (h.b 0 rfl).c 3 rfl, (h.b 0 rfl).c 4 rfl, (h.b 0 rfl).c 5 rfl, (h.b 0 rfl).c 6 rfl, (h.b 0 rfl).c 7 rfl, (h.b 1 rfl).c 0 rfl, (h.b 1 rfl).c 1 rfl, (h.b 1 rfl).c 2 rfl, (h.b 1 rfl).c 3 rfl, (h.b 1 rfl).c 4 rfl, (h.b 1 rfl).c 5 rfl, (h.b 1 rfl).c 6 rfl, (h.b 1 rfl).c 7 rfl⟩
theorem dl_args (x0 x1 x2 x3 x4 x5 x6 x7 y0 y1 y2 y3 y4 y5 y6 y7 : Int) (w : World) : ArgsB w ((((w.alloc (.cells #[.int .u64 x0, .int .u64 x1, .int .u64 x2, .int .u64 x3, .int .u64 x4, .int .u64 x5, .int .u64 x6, .int .u64 x7] 94)).alloc (.cells #[.int .u64 y0, .int .u64 y1, .int .u64 y2, .int .u64 y3, .int .u64 y4, .int .u64 y5, .int .u64 y6, .int .u64 y7] 94)).alloc (.cells #[.int .u64 0, .int .u64 0, .int .u64 0, .int .u64 0, .int .u64 0, .int .u64 0, .int .u64 0, .int .u64 0] 94)).alloc (.cells #[.int .u64 0, .int .u64 0, .int .u64 0, .int .u64 0, .int .u64 0, .int .u64 0, .int .u64 0, .int .u64 0] 94)) [[.int .u64 x0, .int .u64 x1, .int .u64 x2, .int .u64 x3, .int .u64 x4, .int .u64 x5, .int .u64 x6, .int .u64 x7], [.int .u64 y0, .int .u64 y1, .int .u64 y2, .int .u64 y3, .int .u64 y4, .int .u64 y5, .int .u64 y6, .int .u64 y7], [.int .u64 0, .int .u64 0, .int .u64 0, .int .u64 0, .int .u64 0, .int .u64 0, .int .u64 0, .int .u64 0], [.int .u64 0, .int .u64 0, .int .u64 0, .int .u64 0, .int .u64 0, .int .u64 0, .int .u64 0, .int .u64 0]] := by
 refine ⟨((((Below.refl _ _).alloc (Nat.le_refl _) _).alloc (by simp) _).alloc (by simp; omega) _).alloc (by simp; omega) _, fun j vs hj => ?_⟩
 match j, hj with
 | 0, hj => cases hj; exact (((Blk.new w [.int .u64 x0, .int .u64 x1, .int .u64 x2, .int .u64 x3, .int .u64 x4, .int .u64 x5, .int .u64 x6, .int .u64 x7] 94 rfl).alloc _).alloc _).alloc _
 | 1, hj => cases hj; exact ((Blk.new (w.alloc (.cells #[.int .u64 x0, .int .u64 x1, .int .u64 x2, .int .u64 x3, .int .u64 x4, .int .u64 x5, .int .u64 x6, .int .u64 x7] 94)) [.int .u64 y0, .int .u64 y1, .int .u64 y2, .int .u64 y3, .int .u64 y4, .int .u64 y5, .int .u64 y6, .int .u64 y7] 94 (by simp)).alloc _).alloc _
 | 2, hj => cases hj; exact (Blk.new ((w.alloc (.cells #[.int .u64 x0, .int .u64 x1, .int .u64 x2, .int .u64 x3, .int .u64 x4, .int .u64 x5, .int .u64 x6, .int .u64 x7] 94)).alloc (.cells #[.int .u64 y0, .int .u64 y1, .int .u64 y2, .int .u64 y3, .int .u64 y4, .int .u64 y5, .int .u64 y6, .int .u64 y7] 94)) [.int .u64 0, .int .u64 0, .int .u64 0, .int .u64 0, .int .u64 0, .int .u64 0, .int .u64 0, .int .u64 0] 94 (by simp)).alloc _
 | 3, hj => cases hj; exact Blk.new (((w.alloc (.cells #[.int .u64 x0, .int .u64 x1, .int .u64 x2, .int .u64 x3, .int .u64 x4, .int .u64 x5, .int .u64 x6, .int .u64 x7] 94)).alloc (.cells #[.int .u64 y0, .int .u64 y1, .int .u64 y2, .int .u64 y3, .int .u64 y4, .int .u64 y5, .int .u64 y6, .int .u64 y7] 94)).alloc (.cells #[.int .u64 0, .int .u64 0, .int .u64 0, .int .u64 0, .int .u64 0, .int .u64 0, .int .u64 0, .int .u64 0] 94)) [.int .u64 0, .int .u64 0, .int .u64 0, .int .u64 0, .int .u64 0, .int .u64 0, .int .u64 0, .int .u64 0] 94 (by simp)
 | j + 4, hj => simp at hj
theorem ArgsB.lt4 {w W : World} {a b c d : List Value} (h : ArgsB w W [a, b, c, d]) : w.heap.size + 3 < W.heap.size := (h.b 3 rfl).lt
theorem Blk.newS (W : World) (o : Obj) (vs : List Value) (T : TypeId) : Blk ((W.alloc o).alloc (.cells vs.toArray T)) (W.heap.size + 1) vs := Blk.new _ _ _ (by simp)
theorem size_cells (b : Nat) : ∀ (vs : List Value) (o : Nat) (w : World), (w.setCells b o vs).heap.size = w.heap.size
 | [], _, _ => rfl
 | v :: r, o, w => by rw [World.setCells, size_cells b r]; simp [World.setCell]
theorem Blk.cellsO {g b : Nat} {zs : List Value} (hne : g ≠ b) : ∀ (vs : List Value) (o : Nat) {w : World}, Blk w g zs → Blk (w.setCells b o vs) g zs
 | [], _, _, h => h
 | v :: r, o, w, h => by rw [World.setCells]; exact Blk.cellsO hne r (o + 1) (h.setO hne v)
theorem Blk.cellsI {w : World} {g : Nat} {zs vs : List Value} (h : Blk w g zs) (hl : vs.length = zs.length) : Blk (w.setCells g 0 vs) g vs := by
 refine ⟨by rw [size_cells]; exact h.lt, fun i v hi => ?_⟩
 have hil : i < vs.length := by
   apply Decidable.byContradiction
   intro hn
   rw [List.getElem?_eq_none (by omega)] at hi
   simp at hi
 have hc : ∀ j, j < vs.length → (w.cell? ⟨g, 0 + j, none⟩).isSome = true := fun j hj => by
   rw [Nat.zero_add, h.c j (List.getElem?_eq_getElem (by omega))]; rfl
 have e := World.cell?_setCells_in g vs 0 w hc i hil
 rw [Nat.zero_add] at e
 rw [List.getElem?_eq_getElem hil] at hi
 cases hi
 exact ⟨e, by rw [World.frozen?_setCells]; exact h.f i (List.getElem?_eq_getElem (by omega))⟩
theorem below_cells {B g : Nat} {w0 : World} (hg : B ≤ g) : ∀ (vs : List Value) (o : Nat) {w : World}, Below B w0 w → Below B w0 (w.setCells g o vs)
 | [], _, _, h => h
 | v :: r, o, w, h => by rw [World.setCells]; exact below_cells hg r (o + 1) (h.setCell hg v)
theorem ArgsB.cells {w W : World} {a b c d : List Value} (h : ArgsB w W [a, b, c, d]) {g : Nat} (hg : w.heap.size + 3 < g) (vs : List Value) : ArgsB w (W.setCells g 0 vs) [a, b, c, d] := by
 refine ⟨below_cells (by omega) vs 0 h.1, fun j us hj => Blk.cellsO ?_ vs 0 (h.2 j us hj)⟩
 have : j < 4 := by
   apply Decidable.byContradiction
   intro hn
   rw [List.getElem?_eq_none (by simp; omega)] at hj
   simp at hj
 omega
theorem Blk.there {W : World} {g : Nat} {vs : List Value} (h : Blk W g vs) {n : Nat} (hn : vs.length = n) : W.there g 0 n := fun j hj => by
 rw [Nat.zero_add, h.c j (List.getElem?_eq_getElem (by omega)), h.f j (List.getElem?_eq_getElem (by omega))]
 exact ⟨rfl, rfl⟩
theorem there_cells (W : World) (b : Nat) (vs : List Value) (g n : Nat) (h : W.there g 0 n) : (W.setCells b 0 vs).there g 0 n := World.there_setCells h b 0 vs
theorem ArgsB.set9 {w W : World} {a b c d : List Value} (h : ArgsB w W [a, b, c, d]) {g : Nat} (hg : w.heap.size + 3 < g) (v0 v1 v2 v3 v4 v5 v6 v7 v8 : Value) : ArgsB w (((((((((W.setCell ⟨g, 0, none⟩ v0).setCell ⟨g, 1, none⟩ v1).setCell ⟨g, 2, none⟩ v2).setCell ⟨g, 3, none⟩ v3).setCell ⟨g, 4, none⟩ v4).setCell ⟨g, 5, none⟩ v5).setCell ⟨g, 6, none⟩ v6).setCell ⟨g, 7, none⟩ v7).setCell ⟨g, 8, none⟩ v8) [a, b, c, d] :=
 (((((((((h.set (by exact hg) _).set (by exact hg) _).set (by exact hg) _).set (by exact hg) _).set (by exact hg) _).set (by exact hg) _).set (by exact hg) _).set (by exact hg) _).set (by exact hg) _)
theorem Blk.stored9 {W : World} {g : Nat} {z0 z1 z2 z3 z4 z5 z6 z7 z8 : Value} (G : Blk W g [z0, z1, z2, z3, z4, z5, z6, z7, z8]) (v0 v1 v2 v3 v4 v5 v6 v7 v8 : Value) : Blk (((((((((W.setCell ⟨g, 0, none⟩ v0).setCell ⟨g, 1, none⟩ v1).setCell ⟨g, 2, none⟩ v2).setCell ⟨g, 3, none⟩ v3).setCell ⟨g, 4, none⟩ v4).setCell ⟨g, 5, none⟩ v5).setCell ⟨g, 6, none⟩ v6).setCell ⟨g, 7, none⟩ v7).setCell ⟨g, 8, none⟩ v8) g [v0, v1, v2, v3, v4, v5, v6, v7, v8] :=
 (((((((((G.setI 0 (by simp) v0).setI 1 (by simp) v1).setI 2 (by simp) v2).setI 3 (by simp) v3).setI 4 (by simp) v4).setI 5 (by simp) v5).setI 6 (by simp) v6).setI 7 (by simp) v7).setI 8 (by simp) v8)
theorem Blk.set9 {W : World} {vs : List Value} {v0 v1 v2 v3 v4 v5 v6 v7 v8 : Value} {g g' : Nat} (G : Blk W g' vs) (hg : g' ≠ g) : Blk (((((((((W.setCell ⟨g, 0, none⟩ v0).setCell ⟨g, 1, none⟩ v1).setCell ⟨g, 2, none⟩ v2).setCell ⟨g, 3, none⟩ v3).setCell ⟨g, 4, none⟩ v4).setCell ⟨g, 5, none⟩ v5).setCell ⟨g, 6, none⟩ v6).setCell ⟨g, 7, none⟩ v7).setCell ⟨g, 8, none⟩ v8) g' vs :=
 (((((((((G.setO (by exact hg) _).setO (by exact hg) _).setO (by exact hg) _).setO (by exact hg) _).setO (by exact hg) _).setO (by exact hg) _).setO (by exact hg) _).setO (by exact hg) _).setO (by exact hg) _)
theorem below_set8 {B g : Nat} {w W : World} {v0 v1 v2 v3 v4 v5 v6 v7 : Value} (hg : B ≤ g) (h : Below B w W) : Below B w ((((((((W.setCell ⟨g, 0, none⟩ v0).setCell ⟨g, 1, none⟩ v1).setCell ⟨g, 2, none⟩ v2).setCell ⟨g, 3, none⟩ v3).setCell ⟨g, 4, none⟩ v4).setCell ⟨g, 5, none⟩ v5).setCell ⟨g, 6, none⟩ v6).setCell ⟨g, 7, none⟩ v7) :=
 ((((((((h.setCell hg _).setCell hg _).setCell hg _).setCell hg _).setCell hg _).setCell hg _).setCell hg _).setCell hg _)
def CutD (w wx : World) (vss : List (List Value)) (xs ys : List Value) (p q : Value) : Prop :=
 ∃ g g', p = .pointer (some ⟨g, 0, none⟩) ∧ q = .pointer (some ⟨g', 0, none⟩) ∧ g ≠ g' ∧ w.heap.size + 3 < g ∧ w.heap.size + 3 < g' ∧ ArgsB w wx vss ∧ Blk wx g xs ∧ Blk wx g' ys
theorem cutD_cells {w X : World} {a b c d : List Value} {zs zs' xs ys : List Value} {g g' : Nat} (h : ArgsB w X [a, b, c, d]) (G : Blk X g zs) (G' : Blk X g' zs') (lx : zs.length = xs.length) (ly : zs'.length = ys.length) (hg : w.heap.size + 3 < g) (hg' : w.heap.size + 3 < g') (hne : g ≠ g') :
   CutD w ((X.setCells g 0 xs).setCells g' 0 ys) [a, b, c, d] xs ys (.pointer (some ⟨g, 0, none⟩)) (.pointer (some ⟨g', 0, none⟩)) :=
 ⟨_, _, rfl, rfl, hne, hg, hg', (h.cells hg _).cells hg' _, Blk.cellsO hne _ _ (G.cellsI lx.symm), (Blk.cellsO (fun e => hne e.symm) _ _ G').cellsI ly.symm⟩
end Go.Proofs.YtibbjjlapglndaaGreat
