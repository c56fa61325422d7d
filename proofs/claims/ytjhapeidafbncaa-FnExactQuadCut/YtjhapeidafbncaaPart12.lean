/- Part 12 of the walks that the proof leans on. -/
import Derived.Test.YtjhapeidafbncaaPart11
import Derived.Test.YtjhapeidafbncaaPart8
import Derived.Test.YtjhapeidafbncaaPart10
import Derived.Test.YtjhapeidafbncaaPart7
import Derived.Shelf.Spec.SlicesInsertGrow
import Derived.Test.YtjhapeidafbncaaPart2
namespace Go.Proofs.Ytjhapeidafbncaa
open Go.RowKit
theorem qOk_item {Q : QD} {m d : Int} {c : Nat} (hc : c < Q.m) (h : itB Q c = false) : qOk Q m d = false := by
 unfold qOk
 rw [show itsB Q = false from decide_eq_false (fun k => by have := k.2 c hc; rw [h] at this; cases this)]
 simp
theorem mrd_kids {Q : QD} {d at_ : Nat} {x y s : Int} {e : Nat} (h : mrd Q (d + 1) at_ x y s = some e) (hT : Q.T at_ = true) : Q.L at_ = 0 ∧ ∀ k, k < 4 → ∃ a b, kp (fun a x y => mrd Q d a x y (s / 2)) (at_ + 1) x y (s / 2) k = some a ∧ mrd Q d a (kX x (s / 2) k) (kY y (s / 2) k) (s / 2) = some b := by
 have hb : baseB Q at_ x y s = true := by
   cases hb : baseB Q at_ x y s with
   | true => rfl
   | false => rw [mrd_no hb] at h; cases h
 have hL : Q.L at_ = 0 := by
   apply Classical.byContradiction
   intro hL
   rw [mrd_full hT hL] at h
   cases h
 refine ⟨hL, ?_⟩
 rw [mrd_split hb hT hL] at h
 have step : ∀ k b, kp (fun a x y => mrd Q d a x y (s / 2)) (at_ + 1) x y (s / 2) (k + 1) = some b → ∃ a, kp (fun a x y => mrd Q d a x y (s / 2)) (at_ + 1) x y (s / 2) k = some a ∧ mrd Q d a (kX x (s / 2) k) (kY y (s / 2) k) (s / 2) = some b := fun k b hk => Option.bind_eq_some_iff.1 hk
 obtain ⟨a3, h3, g3⟩ := step 3 e h
 obtain ⟨a2, h2, g2⟩ := step 2 a3 h3
 obtain ⟨a1, h1, g1⟩ := step 1 a2 h2
 obtain ⟨a0, h0, g0⟩ := step 0 a1 h1
 intro k hk
 rcases (show k = 0 ∨ k = 1 ∨ k = 2 ∨ k = 3 by omega) with h | h | h | h <;> subst h
 · exact ⟨_, _, h0, g0⟩
 · exact ⟨_, _, h1, g1⟩
 · exact ⟨_, _, h2, g2⟩
 · exact ⟨_, _, h3, g3⟩
theorem lenT_tr {Q : QD} (hL : ∀ i, i < Q.N → Q.L i ≤ 1048576) : ∀ {d at_ : Nat} {x y s : Int} {e : Nat}, mrd Q d at_ x y s = some e → lenT (trQ Q d at_ x y s)
 | d, at_, x, y, s, e, h => by
   have hle := mrd_le h
   cases hT : Q.T at_ with
   | false =>
     rw [trQ_leaf hT]
     show (blL Q at_).length ≤ 1048576
     rw [blL_len]
     exact hL at_ (by omega)
   | true =>
     cases d with
     | zero => rw [mrd_zero hT] at h; cases h
     | succ d =>
       unfold trQ
       rw [if_pos hT]
       intro k hk
       obtain ⟨a, b, h1, h2⟩ := (mrd_kids h hT).2 k hk
       dsimp only
       rw [h1]
       exact lenT_tr hL h2
def RtP (Q : QD) (m d : Int) (w : World) (r : Ending) (w' : World) : Prop :=
 Below w.heap.size w w' ∧ ((qOk Q m d = false ∧ r = .returned (.tuple #[.agg #[.int .i64 0, .int .i64 0, .int .i64 0, .slice none 0 0, .slice none 0 0], .bool false])) ∨ (qOk Q m d = true ∧ ∃ kv ev, r = .returned (.tuple #[.agg #[.int .i64 (-1048576), .int .i64 (-1048576), .int .i64 2097152, kv, ev], .bool true]) ∧ MTr (fun b => w.heap.size ≤ b) w' (trQ Q d.toNat 0 (-1048576) (-1048576) 2097152) (-1048576) (-1048576) 2097152 kv ev))
theorem root_sq : Sq (-1048576) (-1048576) 2097152 := ⟨by omega, by omega, by omega, by omega, by omega⟩
set_option maxRecDepth 100000 in
set_option maxHeartbeats 16000000 in
theorem l13Root_any (w : World) (Q : QD) (ao bo : Option Addr) (cap bcap A off : Nat) (so : Nat → Option Addr × Nat) (m d : Int) (hm : Q.m ≤ 1048576) (hN : Q.N ≤ 1048576) (hL : ∀ i, i < Q.N → Q.L i ≤ 1048576) (hbo : 0 < Q.N → bo = some ⟨A, off, none⟩) (hso : ∀ i, i < Q.N → (so i).1 = none → (so i).2 = 0) (hS : ItIn Q w ao (List.range Q.m)) (hBl : BlIn Q w A off so) : Calls Try.prog 26 #[.agg #[.int .i64 m, .int .i64 d, .slice ao Q.m cap, .slice bo Q.N bcap]] w (RtP Q m d w) := by
 have BP : Blk ((w.alloc (.cells #[.int .i64 m, .int .i64 d, .slice ao Q.m cap, .slice bo Q.N bcap] 34)).alloc (.cells #[.int .i64 0, .int .i64 0, .int .i64 0, .slice none 0 0, .slice none 0 0] 64)) w.heap.size [.int .i64 m, .int .i64 d, .slice ao Q.m cap, .slice bo Q.N bcap] := (Blk.new w [.int .i64 m, .int .i64 d, .slice ao Q.m cap, .slice bo Q.N bcap] 34 rfl).alloc _
 have BR : Blk ((w.alloc (.cells #[.int .i64 m, .int .i64 d, .slice ao Q.m cap, .slice bo Q.N bcap] 34)).alloc (.cells #[.int .i64 0, .int .i64 0, .int .i64 0, .slice none 0 0, .slice none 0 0] 64)) (w.heap.size + 1) [.int .i64 0, .int .i64 0, .int .i64 0, .slice none 0 0, .slice none 0 0] := Blk.new (w.alloc (.cells #[.int .i64 m, .int .i64 d, .slice ao Q.m cap, .slice bo Q.N bcap] 34)) [.int .i64 0, .int .i64 0, .int .i64 0, .slice none 0 0, .slice none 0 0] 64 (by simp)
 have HB : Below w.heap.size w ((w.alloc (.cells #[.int .i64 m, .int .i64 d, .slice ao Q.m cap, .slice bo Q.N bcap] 34)).alloc (.cells #[.int .i64 0, .int .i64 0, .int .i64 0, .slice none 0 0, .slice none 0 0] 64)) := ((Below.refl _ w).alloc (Nat.le_refl _) _).alloc (by simp) _
 have CL := l13Limits_any m d
 have HBl : Hid (BlIn Q w A off so) := hBl
 have HS0 : Hid (ItIn Q w ao (List.range Q.m)) := hS
 clear hS hBl
 obtain ⟨b1, hb1⟩ : ∃ b, limB m d = b := ⟨_, rfl⟩
 rw [hb1] at CL
 have HLIM : Hid (limB m d = b1) := hb1
 clear hb1
 have hmI : (Q.m : Int) ≤ 1048576 := by omega
 have hNI : (Q.N : Int) ≤ 1048576 := by omega
 go_enter Try.func26, Try.ntmps26
 go_upto_region 1 with fail
 generalize ((w.alloc (.cells #[.int .i64 m, .int .i64 d, .slice ao Q.m cap, .slice bo Q.N bcap] 34)).alloc (.cells #[.int .i64 0, .int .i64 0, .int .i64 0, .slice none 0 0, .slice none 0 0] 64)) = W1 at *
 have c0 := BP.c 0 rfl; have c1 := BP.c 1 rfl; have c2 := BP.c 2 rfl; have c3 := BP.c 3 rfl
 go_wp2_with fail
 refine (CL _).mono ?_
 rintro r w1 ⟨rfl, hB1⟩
 replace BP := BP.step hB1
 replace BR := BR.step hB1
 replace HB := HB.trans (hB1.mono HB.size)
 clear hB1 CL c0 c1 c2 c3
 have c0 := BP.c 0 rfl; have c1 := BP.c 1 rfl; have c2 := BP.c 2 rfl; have c3 := BP.c 3 rfl
 cases b1 with
 | false =>
   have z0 := BR.c 0 rfl; have y0 := BR.f 0 rfl; have z1 := BR.c 1 rfl; have y1 := BR.f 1 rfl; have z2 := BR.c 2 rfl; have y2 := BR.f 2 rfl; have z3 := BR.c 3 rfl; have y3 := BR.f 3 rfl; have z4 := BR.c 4 rfl; have y4 := BR.f 4 rfl
   have BF := z5_set BR
   clear BR
   go_wp2
   have r0 := BF.out.c 0 rfl; have r1 := BF.out.c 1 rfl; have r2 := BF.out.c 2 rfl; have r3 := BF.out.c 3 rfl; have r4 := BF.out.c 4 rfl
   refine bodyPost_ret (v := .tuple #[.agg #[.int .i64 0, .int .i64 0, .int .i64 0, .slice none 0 0, .slice none 0 0], .bool false]) (by simp [results, Try.results26, go_sem, r0, r1, r2, r3, r4]) rfl ?_
   exact ⟨(Below.setCell (Below.setCell (Below.setCell (Below.setCell (Below.setCell HB (Nat.le_succ _) _) (Nat.le_succ _) _) (Nat.le_succ _) _) (Nat.le_succ _) _) (Nat.le_succ _) _), .inl ⟨(by unfold qOk; rw [HLIM.out]; rfl), rfl⟩⟩
 | true =>
   by_cases h40 : 40 < Q.m
   · have h40I : (40 : Int) < Q.m := by omega
     have z0 := BR.c 0 rfl; have y0 := BR.f 0 rfl; have z1 := BR.c 1 rfl; have y1 := BR.f 1 rfl; have z2 := BR.c 2 rfl; have y2 := BR.f 2 rfl; have z3 := BR.c 3 rfl; have y3 := BR.f 3 rfl; have z4 := BR.c 4 rfl; have y4 := BR.f 4 rfl
     have BF := z5_set BR
     clear BR
     go_wp2
     have r0 := BF.out.c 0 rfl; have r1 := BF.out.c 1 rfl; have r2 := BF.out.c 2 rfl; have r3 := BF.out.c 3 rfl; have r4 := BF.out.c 4 rfl
     refine bodyPost_ret (v := .tuple #[.agg #[.int .i64 0, .int .i64 0, .int .i64 0, .slice none 0 0, .slice none 0 0], .bool false]) (by simp [results, Try.results26, go_sem, r0, r1, r2, r3, r4]) rfl ?_
     exact ⟨(Below.setCell (Below.setCell (Below.setCell (Below.setCell (Below.setCell HB (Nat.le_succ _) _) (Nat.le_succ _) _) (Nat.le_succ _) _) (Nat.le_succ _) _) (Nat.le_succ _) _), .inl ⟨(by unfold qOk; rw [show itsB Q = false from decide_eq_false (fun k => by have := k.1; omega)]; simp), rfl⟩⟩
   by_cases h2k : 2000 < Q.N
   · have h2kI : (2000 : Int) < Q.N := by omega
     have h40I : (Q.m : Int) ≤ 40 := by omega
     have z0 := BR.c 0 rfl; have y0 := BR.f 0 rfl; have z1 := BR.c 1 rfl; have y1 := BR.f 1 rfl; have z2 := BR.c 2 rfl; have y2 := BR.f 2 rfl; have z3 := BR.c 3 rfl; have y3 := BR.f 3 rfl; have z4 := BR.c 4 rfl; have y4 := BR.f 4 rfl
     have BF := z5_set BR
     clear BR
     go_wp2
     have r0 := BF.out.c 0 rfl; have r1 := BF.out.c 1 rfl; have r2 := BF.out.c 2 rfl; have r3 := BF.out.c 3 rfl; have r4 := BF.out.c 4 rfl
     refine bodyPost_ret (v := .tuple #[.agg #[.int .i64 0, .int .i64 0, .int .i64 0, .slice none 0 0, .slice none 0 0], .bool false]) (by simp [results, Try.results26, go_sem, r0, r1, r2, r3, r4]) rfl ?_
     exact ⟨(Below.setCell (Below.setCell (Below.setCell (Below.setCell (Below.setCell HB (Nat.le_succ _) _) (Nat.le_succ _) _) (Nat.le_succ _) _) (Nat.le_succ _) _) (Nat.le_succ _) _), .inl ⟨(by unfold qOk; rw [decide_eq_false (show ¬ Q.N ≤ 2000 by omega)]; simp), rfl⟩⟩
   have h40I : (Q.m : Int) ≤ 40 := by omega
   have h2kI : (Q.N : Int) ≤ 2000 := by omega
   have h40n : Q.m ≤ 40 := by omega
   go_wp2_with fail
   clear c0 c1 c2 c3
   go_loopw [4] (fun i wr => ∃ c : Nat, c ≤ Q.m ∧ i = .int .i64 c ∧ (∀ j, j < c → itB Q j = true) ∧ Blk wr w.heap.size [.int .i64 m, .int .i64 d, .slice ao Q.m cap, .slice bo Q.N bcap] ∧ Blk wr (w.heap.size + 1) [.int .i64 0, .int .i64 0, .int .i64 0, .slice none 0 0, .slice none 0 0] ∧ ItIn Q wr ao (List.range Q.m) ∧ Below w.heap.size w wr) (fun i _ => Q.m - (intOf i).toNat)
   case atStart => exact ⟨0, by omega, rfl, fun j hj => absurd hj (by omega), BP, BR, HS0.out.step HB, HB⟩
   case round =>
     clear BP BR HB
     obtain ⟨c, hc, rfl, hall, BP, BR, hS, HB⟩ := hrel
     have HALL : Hid (∀ j, j < c → itB Q j = true) := hall
     clear hall
     have p2 := BP.c 2 rfl
     have hpl := BP.lt
     by_cases hcm : c < Q.m
     · have hcI : (c : Int) < Q.m := by omega
       obtain ⟨A, off, rfl, hA, c0, c1, c2, c3, c4⟩ := hS c c (by simp [hcm])
       have HS : Hid (ItIn Q wr (some ⟨A, off, none⟩) (List.range Q.m)) := hS
       clear hS
       go_upto_region 6 with fail
       clear p2
       by_cases hid : 1 ≤ Q.I c ∧ Q.I c ≤ 1000
       rotate_left
       · have HIT : itB Q c = false := decide_eq_false (fun h => hid h.1)
         refine rrA (P := w.heap.size) (A := A) (off := off) (n := Q.m) (cap := cap) (k_ := c) (id := Q.I c) (decide_eq_false hid) hcm h40n rfl rfl (BP.c 2 rfl) hpl c0 hA c1 hA c2 hA c3 hA c4 hA rfl ?_
         rintro ⟨tm, df⟩ Wz hz hdf hoff hx hBz
         simp only at hz hdf hoff hx
         change tm.getD 71 undef = .bool true at hx
         subst hdf
         have htm := tmps_fold [34, 35, 36, 37, 38, 39, 40, 41, 42, 43, 44, 45, 46, 47, 48, 49, 50, 51, 52, 53, 54, 55, 56, 57, 58, 59, 60, 61, 62, 63, 64, 65, 66, 67, 68, 69, 70, 71] tm _ hz hoff
         simp only [List.foldl, List.setIfInBounds_toArray, List.set_cons_zero, List.set_cons_succ, hx] at htm
         clear hz hoff
         generalize tm.getD 34 undef = pz0, tm.getD 35 undef = pz1, tm.getD 36 undef = pz2, tm.getD 37 undef = pz3, tm.getD 38 undef = pz4, tm.getD 39 undef = pz5, tm.getD 40 undef = pz6, tm.getD 41 undef = pz7, tm.getD 42 undef = pz8, tm.getD 43 undef = pz9, tm.getD 44 undef = pz10, tm.getD 45 undef = pz11, tm.getD 46 undef = pz12, tm.getD 47 undef = pz13, tm.getD 48 undef = pz14, tm.getD 49 undef = pz15, tm.getD 50 undef = pz16, tm.getD 51 undef = pz17, tm.getD 52 undef = pz18, tm.getD 53 undef = pz19, tm.getD 54 undef = pz20, tm.getD 55 undef = pz21, tm.getD 56 undef = pz22, tm.getD 57 undef = pz23, tm.getD 58 undef = pz24, tm.getD 59 undef = pz25, tm.getD 60 undef = pz26, tm.getD 61 undef = pz27, tm.getD 62 undef = pz28, tm.getD 63 undef = pz29, tm.getD 64 undef = pz30, tm.getD 65 undef = pz31, tm.getD 66 undef = pz32, tm.getD 67 undef = pz33, tm.getD 68 undef = pz34, tm.getD 69 undef = pz35, tm.getD 70 undef = pz36 at htm
         clear hx
         subst htm
         replace BP := BP.step hBz
         replace BR := BR.step hBz
         replace HB := HB.trans (hBz.mono HB.size)
         replace HS : Hid (ItIn Q Wz (some ⟨A, off, none⟩) (List.range Q.m)) := HS.out.step hBz
         clear hBz c0 c1 c2 c3 c4
         have z0 := BR.c 0 rfl; have y0 := BR.f 0 rfl; have z1 := BR.c 1 rfl; have y1 := BR.f 1 rfl; have z2 := BR.c 2 rfl; have y2 := BR.f 2 rfl; have z3 := BR.c 3 rfl; have y3 := BR.f 3 rfl; have z4 := BR.c 4 rfl; have y4 := BR.f 4 rfl
         have BF := z5_set BR
         clear BR
         go_wp2
         have r0 := BF.out.c 0 rfl; have r1 := BF.out.c 1 rfl; have r2 := BF.out.c 2 rfl; have r3 := BF.out.c 3 rfl; have r4 := BF.out.c 4 rfl
         refine bodyPost_ret (v := .tuple #[.agg #[.int .i64 0, .int .i64 0, .int .i64 0, .slice none 0 0, .slice none 0 0], .bool false]) (by simp [results, Try.results26, go_sem, r0, r1, r2, r3, r4]) rfl ?_
         exact ⟨(Below.setCell (Below.setCell (Below.setCell (Below.setCell (Below.setCell HB (Nat.le_succ _) _) (Nat.le_succ _) _) (Nat.le_succ _) _) (Nat.le_succ _) _) (Nat.le_succ _) _), .inl ⟨(qOk_item hcm HIT), rfl⟩⟩
       cases hsg : segOk (Q.S c).1 (Q.S c).2.1 (Q.S c).2.2.1 (Q.S c).2.2.2 with
       | false =>
         have HIT : itB Q c = false := decide_eq_false (fun h => by rw [hsg] at h; cases h.2.1)
         refine rrB (P := w.heap.size) (A := A) (off := off) (n := Q.m) (cap := cap) (k_ := c) (id := Q.I c) (a := (Q.S c).1) (bb := (Q.S c).2.1) (c := (Q.S c).2.2.1) (d := (Q.S c).2.2.2) (decide_eq_true hid) hcm h40n hsg rfl rfl (BP.c 2 rfl) hpl c0 hA c1 hA c2 hA c3 hA c4 hA rfl ?_
         rintro ⟨tm, df⟩ Wz hz hdf hoff hx hBz
         simp only at hz hdf hoff hx
         change tm.getD 71 undef = .bool true at hx
         subst hdf
         have htm := tmps_fold [34, 35, 36, 37, 38, 39, 40, 41, 42, 43, 44, 45, 46, 47, 48, 49, 50, 51, 52, 53, 54, 55, 56, 57, 58, 59, 60, 61, 62, 63, 64, 65, 66, 67, 68, 69, 70, 71] tm _ hz hoff
         simp only [List.foldl, List.setIfInBounds_toArray, List.set_cons_zero, List.set_cons_succ, hx] at htm
         clear hz hoff
         generalize tm.getD 34 undef = pz0, tm.getD 35 undef = pz1, tm.getD 36 undef = pz2, tm.getD 37 undef = pz3, tm.getD 38 undef = pz4, tm.getD 39 undef = pz5, tm.getD 40 undef = pz6, tm.getD 41 undef = pz7, tm.getD 42 undef = pz8, tm.getD 43 undef = pz9, tm.getD 44 undef = pz10, tm.getD 45 undef = pz11, tm.getD 46 undef = pz12, tm.getD 47 undef = pz13, tm.getD 48 undef = pz14, tm.getD 49 undef = pz15, tm.getD 50 undef = pz16, tm.getD 51 undef = pz17, tm.getD 52 undef = pz18, tm.getD 53 undef = pz19, tm.getD 54 undef = pz20, tm.getD 55 undef = pz21, tm.getD 56 undef = pz22, tm.getD 57 undef = pz23, tm.getD 58 undef = pz24, tm.getD 59 undef = pz25, tm.getD 60 undef = pz26, tm.getD 61 undef = pz27, tm.getD 62 undef = pz28, tm.getD 63 undef = pz29, tm.getD 64 undef = pz30, tm.getD 65 undef = pz31, tm.getD 66 undef = pz32, tm.getD 67 undef = pz33, tm.getD 68 undef = pz34, tm.getD 69 undef = pz35, tm.getD 70 undef = pz36 at htm
         clear hx
         subst htm
         replace BP := BP.step hBz
         replace BR := BR.step hBz
         replace HB := HB.trans (hBz.mono HB.size)
         replace HS : Hid (ItIn Q Wz (some ⟨A, off, none⟩) (List.range Q.m)) := HS.out.step hBz
         clear hBz c0 c1 c2 c3 c4
         have z0 := BR.c 0 rfl; have y0 := BR.f 0 rfl; have z1 := BR.c 1 rfl; have y1 := BR.f 1 rfl; have z2 := BR.c 2 rfl; have y2 := BR.f 2 rfl; have z3 := BR.c 3 rfl; have y3 := BR.f 3 rfl; have z4 := BR.c 4 rfl; have y4 := BR.f 4 rfl
         have BF := z5_set BR
         clear BR
         go_wp2
         have r0 := BF.out.c 0 rfl; have r1 := BF.out.c 1 rfl; have r2 := BF.out.c 2 rfl; have r3 := BF.out.c 3 rfl; have r4 := BF.out.c 4 rfl
         refine bodyPost_ret (v := .tuple #[.agg #[.int .i64 0, .int .i64 0, .int .i64 0, .slice none 0 0, .slice none 0 0], .bool false]) (by simp [results, Try.results26, go_sem, r0, r1, r2, r3, r4]) rfl ?_
         exact ⟨(Below.setCell (Below.setCell (Below.setCell (Below.setCell (Below.setCell HB (Nat.le_succ _) _) (Nat.le_succ _) _) (Nat.le_succ _) _) (Nat.le_succ _) _) (Nat.le_succ _) _), .inl ⟨(qOk_item hcm HIT), rfl⟩⟩
       | true =>
         rcases Nat.eq_zero_or_pos c with hc0 | hc0
         · have HIT : itB Q c = true := decide_eq_true ⟨hid, hsg, fun h => absurd h (by omega)⟩
           have HC0 : Hid (c = 0) := hc0
           clear hc0
           refine rrC (P := w.heap.size) (A := A) (off := off) (n := Q.m) (cap := cap) (k_ := c) (id := Q.I c) (a := (Q.S c).1) (bb := (Q.S c).2.1) (c := (Q.S c).2.2.1) (d := (Q.S c).2.2.2) (decide_eq_true hid) hcm h40n hsg HC0 rfl rfl (BP.c 2 rfl) hpl c0 hA c1 hA c2 hA c3 hA c4 hA rfl ?_
           rintro ⟨tm, df⟩ Wz hz hdf hoff hx hBz
           simp only at hz hdf hoff hx
           change tm.getD 71 undef = .bool false at hx
           subst hdf
           have htm := tmps_fold [34, 35, 36, 37, 38, 39, 40, 41, 42, 43, 44, 45, 46, 47, 48, 49, 50, 51, 52, 53, 54, 55, 56, 57, 58, 59, 60, 61, 62, 63, 64, 65, 66, 67, 68, 69, 70, 71] tm _ hz hoff
           simp only [List.foldl, List.setIfInBounds_toArray, List.set_cons_zero, List.set_cons_succ, hx] at htm
           clear hz hoff
           generalize tm.getD 34 undef = pz0, tm.getD 35 undef = pz1, tm.getD 36 undef = pz2, tm.getD 37 undef = pz3, tm.getD 38 undef = pz4, tm.getD 39 undef = pz5, tm.getD 40 undef = pz6, tm.getD 41 undef = pz7, tm.getD 42 undef = pz8, tm.getD 43 undef = pz9, tm.getD 44 undef = pz10, tm.getD 45 undef = pz11, tm.getD 46 undef = pz12, tm.getD 47 undef = pz13, tm.getD 48 undef = pz14, tm.getD 49 undef = pz15, tm.getD 50 undef = pz16, tm.getD 51 undef = pz17, tm.getD 52 undef = pz18, tm.getD 53 undef = pz19, tm.getD 54 undef = pz20, tm.getD 55 undef = pz21, tm.getD 56 undef = pz22, tm.getD 57 undef = pz23, tm.getD 58 undef = pz24, tm.getD 59 undef = pz25, tm.getD 60 undef = pz26, tm.getD 61 undef = pz27, tm.getD 62 undef = pz28, tm.getD 63 undef = pz29, tm.getD 64 undef = pz30, tm.getD 65 undef = pz31, tm.getD 66 undef = pz32, tm.getD 67 undef = pz33, tm.getD 68 undef = pz34, tm.getD 69 undef = pz35, tm.getD 70 undef = pz36 at htm
           clear hx
           subst htm
           replace BP := BP.step hBz
           replace BR := BR.step hBz
           replace HB := HB.trans (hBz.mono HB.size)
           replace HS : Hid (ItIn Q Wz (some ⟨A, off, none⟩) (List.range Q.m)) := HS.out.step hBz
           clear hBz c0 c1 c2 c3 c4
           have HN : Hid (∀ j, j < c + 1 → itB Q j = true) := fun j hj => by
             by_cases e : j = c
             · subst e; exact HIT
             · exact HALL.out j (by omega)
           clear HIT
           go_wp2
           go_roundw
           case rel => exact ⟨c + 1, by omega, by go_num, HN.out, BP, BR, HS.out, HB⟩
           case measure => simp [intOf]; omega
         · obtain ⟨jj, hjj⟩ : ∃ jj, c = jj + 1 := ⟨c - 1, by omega⟩
           have HJ : Hid (c = jj + 1) := hjj
           obtain ⟨A2, o2, e2, hA2, d0, _⟩ := HS.out jj jj (by simp [show jj < Q.m by omega])
           cases e2
           have hj1 : c - 1 = jj := by omega
           clear hjj
           refine rrD (P := w.heap.size) (A := A) (off := off) (n := Q.m) (cap := cap) (k_ := c) (id := Q.I c) (jj := jj) (ie := Q.I jj) (a := (Q.S c).1) (bb := (Q.S c).2.1) (c := (Q.S c).2.2.1) (d := (Q.S c).2.2.2) (decide_eq_true hid) hcm h40n hsg HJ rfl rfl (BP.c 2 rfl) hpl c0 hA c1 hA c2 hA c3 hA c4 hA d0 hA rfl ?_
           rintro ⟨tm, df⟩ Wz hz hdf hoff hx hBz
           simp only at hz hdf hoff hx
           change tm.getD 71 undef = .bool (decide (Q.I c ≤ Q.I jj)) at hx
           subst hdf
           have htm := tmps_fold [34, 35, 36, 37, 38, 39, 40, 41, 42, 43, 44, 45, 46, 47, 48, 49, 50, 51, 52, 53, 54, 55, 56, 57, 58, 59, 60, 61, 62, 63, 64, 65, 66, 67, 68, 69, 70, 71] tm _ hz hoff
           simp only [List.foldl, List.setIfInBounds_toArray, List.set_cons_zero, List.set_cons_succ, hx] at htm
           clear hz hoff
           generalize tm.getD 34 undef = pz0, tm.getD 35 undef = pz1, tm.getD 36 undef = pz2, tm.getD 37 undef = pz3, tm.getD 38 undef = pz4, tm.getD 39 undef = pz5, tm.getD 40 undef = pz6, tm.getD 41 undef = pz7, tm.getD 42 undef = pz8, tm.getD 43 undef = pz9, tm.getD 44 undef = pz10, tm.getD 45 undef = pz11, tm.getD 46 undef = pz12, tm.getD 47 undef = pz13, tm.getD 48 undef = pz14, tm.getD 49 undef = pz15, tm.getD 50 undef = pz16, tm.getD 51 undef = pz17, tm.getD 52 undef = pz18, tm.getD 53 undef = pz19, tm.getD 54 undef = pz20, tm.getD 55 undef = pz21, tm.getD 56 undef = pz22, tm.getD 57 undef = pz23, tm.getD 58 undef = pz24, tm.getD 59 undef = pz25, tm.getD 60 undef = pz26, tm.getD 61 undef = pz27, tm.getD 62 undef = pz28, tm.getD 63 undef = pz29, tm.getD 64 undef = pz30, tm.getD 65 undef = pz31, tm.getD 66 undef = pz32, tm.getD 67 undef = pz33, tm.getD 68 undef = pz34, tm.getD 69 undef = pz35, tm.getD 70 undef = pz36 at htm
           clear hx
           subst htm
           replace BP := BP.step hBz
           replace BR := BR.step hBz
           replace HB := HB.trans (hBz.mono HB.size)
           replace HS : Hid (ItIn Q Wz (some ⟨A, off, none⟩) (List.range Q.m)) := HS.out.step hBz
           clear hBz c0 c1 c2 c3 c4
           clear d0
           by_cases hle : Q.I c ≤ Q.I jj
           · rw [decide_eq_true hle]
             have HIT : itB Q c = false := decide_eq_false (fun h => by have := h.2.2 hc0; rw [hj1] at this; omega)
             clear hle hj1
             have z0 := BR.c 0 rfl; have y0 := BR.f 0 rfl; have z1 := BR.c 1 rfl; have y1 := BR.f 1 rfl; have z2 := BR.c 2 rfl; have y2 := BR.f 2 rfl; have z3 := BR.c 3 rfl; have y3 := BR.f 3 rfl; have z4 := BR.c 4 rfl; have y4 := BR.f 4 rfl
             have BF := z5_set BR
             clear BR
             go_wp2
             have r0 := BF.out.c 0 rfl; have r1 := BF.out.c 1 rfl; have r2 := BF.out.c 2 rfl; have r3 := BF.out.c 3 rfl; have r4 := BF.out.c 4 rfl
             refine bodyPost_ret (v := .tuple #[.agg #[.int .i64 0, .int .i64 0, .int .i64 0, .slice none 0 0, .slice none 0 0], .bool false]) (by simp [results, Try.results26, go_sem, r0, r1, r2, r3, r4]) rfl ?_
             exact ⟨(Below.setCell (Below.setCell (Below.setCell (Below.setCell (Below.setCell HB (Nat.le_succ _) _) (Nat.le_succ _) _) (Nat.le_succ _) _) (Nat.le_succ _) _) (Nat.le_succ _) _), .inl ⟨(qOk_item hcm HIT), rfl⟩⟩
           · rw [decide_eq_false hle]
             have HIT : itB Q c = true := decide_eq_true ⟨hid, hsg, fun _ => by rw [hj1]; omega⟩
             clear hle hj1
             have HN : Hid (∀ j, j < c + 1 → itB Q j = true) := fun j hj => by
               by_cases e : j = c
               · subst e; exact HIT
               · exact HALL.out j (by omega)
             clear HIT
             go_wp2
             go_roundw
             case rel => exact ⟨c + 1, by omega, by go_num, HN.out, BP, BR, HS.out, HB⟩
             case measure => simp [intOf]; omega
     · obtain rfl : c = Q.m := by omega
       have HIT : Hid (itsB Q = true) := decide_eq_true ⟨h40n, HALL.out⟩
       have hd8 : 0 ≤ d ∧ d ≤ 8 := by
         have h := HLIM.out
         unfold limB at h
         simp at h
         omega
       obtain ⟨D, hDd⟩ : ∃ D : Nat, (D : Int) = d := ⟨d.toNat, by omega⟩
       have hDn : Hid (d.toNat = D) := by show d.toNat = D; omega
       have HQ : Hid (qOk Q m d = true ↔ mrd Q D 0 (-1048576) (-1048576) 2097152 = some Q.N ∧ rtB Q D 0 (-1048576) (-1048576) 2097152 = true) := by
         show _ ↔ _
         rw [← qrd_both]
         unfold qOk
         rw [HLIM.out, HIT.out, hDn.out, decide_eq_true (show Q.N ≤ 2000 by omega)]
         simp
       have RD := l13Read_any Q bo bcap A off so w hN hL hbo hso HBl.out D 0 (-1048576) (-1048576) 2097152 wr (by omega) (by omega) root_sq HB
       rw [hDd, show ((0 : Nat) : Int) = 0 from rfl] at RD
       have HL' : Hid (∀ i, i < Q.N → Q.L i ≤ 1048576) := hL
       have p1 := BP.c 1 rfl; have p3 := BP.c 3 rfl
       have HS : Hid (ItIn Q wr ao (List.range Q.m)) := hS
       clear HALL hS hd8 hDd
       go_wp2_with fail
       refine RD.mono ?_
       rintro r w5 ⟨hB5, hC⟩
       have BR0lt := BR.lt
       replace BP := BP.step hB5
       replace BR := BR.step hB5
       replace HB := HB.trans (hB5.mono HB.size)
       have HG6 : Hid (w.heap.size + 1 < wr.heap.size) := BR0lt
       replace HS : Hid (ItIn Q w5 ao (List.range Q.m)) := HS.out.step hB5
       clear RD p1 p2 p3 hB5 hpl
       rcases hC with ⟨hn, rfl⟩ | ⟨e, kv, ev, he, rfl, hM⟩
       · have hno : Hid (qOk Q m d = false) := Bool.eq_false_iff.2 (fun h => by have := (HQ.out.1 h).1; rw [hn] at this; cases this)
         replace BR := BR.alloc (.cells #[.int .i64 0, .int .i64 0, .int .i64 0, .slice none 0 0, .slice none 0 0] 64)
         replace HB := HB.alloc HB.size (.cells #[.int .i64 0, .int .i64 0, .int .i64 0, .slice none 0 0, .slice none 0 0] 64)
         clear hn BP
         go_upto_region 9 with fail
         generalize (w5.alloc (.cells #[.int .i64 0, .int .i64 0, .int .i64 0, .slice none 0 0, .slice none 0 0] 64)) = w6 at *
         have z0 := BR.c 0 rfl; have y0 := BR.f 0 rfl; have z1 := BR.c 1 rfl; have y1 := BR.f 1 rfl; have z2 := BR.c 2 rfl; have y2 := BR.f 2 rfl; have z3 := BR.c 3 rfl; have y3 := BR.f 3 rfl; have z4 := BR.c 4 rfl; have y4 := BR.f 4 rfl
         have BF := z5_set BR
         clear BR
         go_wp2
         have r0 := BF.out.c 0 rfl; have r1 := BF.out.c 1 rfl; have r2 := BF.out.c 2 rfl; have r3 := BF.out.c 3 rfl; have r4 := BF.out.c 4 rfl
         refine bodyPost_ret (v := .tuple #[.agg #[.int .i64 0, .int .i64 0, .int .i64 0, .slice none 0 0, .slice none 0 0], .bool false]) (by simp [results, Try.results26, go_sem, r0, r1, r2, r3, r4]) rfl ?_
         exact ⟨(Below.setCell (Below.setCell (Below.setCell (Below.setCell (Below.setCell HB (Nat.le_succ _) _) (Nat.le_succ _) _) (Nat.le_succ _) _) (Nat.le_succ _) _) (Nat.le_succ _) _), .inl ⟨hno.out, rfl⟩⟩
       · obtain ⟨ko, kn, kc, eo, en, ec, rfl, rfl⟩ := hM.vals
         have HE : Hid (mrd Q D 0 (-1048576) (-1048576) 2097152 = some e) := he
         have B5 : Blk (w5.alloc (.cells #[.int .i64 (-1048576), .int .i64 (-1048576), .int .i64 2097152, .slice ko kn kc, .slice eo en ec] 64)) w5.heap.size [.int .i64 (-1048576), .int .i64 (-1048576), .int .i64 2097152, .slice ko kn kc, .slice eo en ec] := Blk.new w5 [.int .i64 (-1048576), .int .i64 (-1048576), .int .i64 2097152, .slice ko kn kc, .slice eo en ec] 64 rfl
         have hB6 : Below w5.heap.size w5 (w5.alloc (.cells #[.int .i64 (-1048576), .int .i64 (-1048576), .int .i64 2097152, .slice ko kn kc, .slice eo en ec] 64)) := (Below.refl _ _).alloc (Nat.le_refl _) _
         replace BP := BP.step hB6
         replace BR := BR.step hB6
         replace HB := HB.trans (hB6.mono HB.size)
         replace HS : Hid (ItIn Q (w5.alloc (.cells #[.int .i64 (-1048576), .int .i64 (-1048576), .int .i64 2097152, .slice ko kn kc, .slice eo en ec] 64)) ao (List.range Q.m)) := HS.out.step hB6
         replace hM := hM.step hB6
         clear he hB6
         go_upto_region 9 with fail
         generalize (w5.alloc (.cells #[.int .i64 (-1048576), .int .i64 (-1048576), .int .i64 2097152, .slice ko kn kc, .slice eo en ec] 64)) = w6 at *
         have p3 := BP.c 3 rfl; have p2 := BP.c 2 rfl
         have k0 := B5.c 0 rfl; have k1 := B5.c 1 rfl; have k2 := B5.c 2 rfl; have k3 := B5.c 3 rfl; have k4 := B5.c 4 rfl
         by_cases hen : e = Q.N
         · subst hen
           have RT := treeRight_any Q ao cap (its6_of HIT.out) hm (trQ Q D 0 (-1048576) (-1048576) 2097152) (-1048576) (-1048576) 2097152 _ _ _ w6 root_sq (lenT_tr HL'.out HE.out) hM HS.out
           obtain ⟨b2, hb2⟩ : ∃ b, rtT Q (trQ Q D 0 (-1048576) (-1048576) 2097152) (-1048576) (-1048576) 2097152 = b := ⟨_, rfl⟩
           have HB2 : Hid (rtB Q D 0 (-1048576) (-1048576) 2097152 = b2) := (rt_tr Q D 0 _ _ _ (by rw [HE.out]; rfl)).trans hb2
           rw [hb2] at RT
           clear hb2
           go_wp2_with fail
           refine RT.mono ?_
           rintro r w7 ⟨rfl, hB7⟩
           replace BR := BR.step hB7
           replace B5 := B5.step hB7
           replace HB := HB.trans (hB7.mono HB.size)
           replace hM := hM.step hB7
           clear RT BP hB7 p2 p3 k0 k1 k2 k3 k4 HS
           cases b2 with
           | false =>
             have hno : Hid (qOk Q m d = false) := Bool.eq_false_iff.2 (fun h => by have := (HQ.out.1 h).2; rw [HB2.out] at this; cases this)
             have z0 := BR.c 0 rfl; have y0 := BR.f 0 rfl; have z1 := BR.c 1 rfl; have y1 := BR.f 1 rfl; have z2 := BR.c 2 rfl; have y2 := BR.f 2 rfl; have z3 := BR.c 3 rfl; have y3 := BR.f 3 rfl; have z4 := BR.c 4 rfl; have y4 := BR.f 4 rfl
             have BF := z5_set BR
             clear BR
             go_wp2
             have r0 := BF.out.c 0 rfl; have r1 := BF.out.c 1 rfl; have r2 := BF.out.c 2 rfl; have r3 := BF.out.c 3 rfl; have r4 := BF.out.c 4 rfl
             refine bodyPost_ret (v := .tuple #[.agg #[.int .i64 0, .int .i64 0, .int .i64 0, .slice none 0 0, .slice none 0 0], .bool false]) (by simp [results, Try.results26, go_sem, r0, r1, r2, r3, r4]) rfl ?_
             exact ⟨(Below.setCell (Below.setCell (Below.setCell (Below.setCell (Below.setCell HB (Nat.le_succ _) _) (Nat.le_succ _) _) (Nat.le_succ _) _) (Nat.le_succ _) _) (Nat.le_succ _) _), .inl ⟨hno.out, rfl⟩⟩
           | true =>
             have hyes : Hid (qOk Q m d = true) := HQ.out.2 ⟨HE.out, HB2.out⟩
             have HM : Hid (MTr (fun b => w.heap.size + 1 < b) w7 (trQ Q D 0 (-1048576) (-1048576) 2097152) (-1048576) (-1048576) 2097152 (.slice ko kn kc) (.slice eo en ec)) := MTr.keep (Nat.le_refl _) (fun _ _ _ => rfl) (fun b hb _ => Nat.lt_of_lt_of_le HG6.out hb) hM
             have z0 := BR.c 0 rfl; have z1 := BR.c 1 rfl; have z2 := BR.c 2 rfl; have z3 := BR.c 3 rfl; have z4 := BR.c 4 rfl; have y0 := BR.f 0 rfl; have y1 := BR.f 1 rfl; have y2 := BR.f 2 rfl; have y3 := BR.f 3 rfl; have y4 := BR.f 4 rfl
             have k0 := B5.c 0 rfl; have k1 := B5.c 1 rfl; have k2 := B5.c 2 rfl; have k3 := B5.c 3 rfl; have k4 := B5.c 4 rfl
             have BF : Hid (Blk (((((w7.setCell ⟨(w.heap.size + 1), 0, none⟩ (.int .i64 (-1048576))).setCell ⟨(w.heap.size + 1), 1, none⟩ (.int .i64 (-1048576))).setCell ⟨(w.heap.size + 1), 2, none⟩ (.int .i64 2097152)).setCell ⟨(w.heap.size + 1), 3, none⟩ (.slice ko kn kc)).setCell ⟨(w.heap.size + 1), 4, none⟩ (.slice eo en ec)) (w.heap.size + 1) [.int .i64 (-1048576), .int .i64 (-1048576), .int .i64 2097152, .slice ko kn kc, .slice eo en ec]) := ((((BR.setI 0 (by decide) _).setI 1 (by simp) _).setI 2 (by simp) _).setI 3 (by simp) _).setI 4 (by simp) _
             clear BR B5 hM
             go_wp2
             have r0 := BF.out.c 0 rfl; have r1 := BF.out.c 1 rfl; have r2 := BF.out.c 2 rfl; have r3 := BF.out.c 3 rfl; have r4 := BF.out.c 4 rfl
             refine bodyPost_ret (v := .tuple #[.agg #[.int .i64 (-1048576), .int .i64 (-1048576), .int .i64 2097152, .slice ko kn kc, .slice eo en ec], .bool true]) (by simp [results, Try.results26, go_sem, r0, r1, r2, r3, r4]) rfl ?_
             refine ⟨(Below.setCell (Below.setCell (Below.setCell (Below.setCell (Below.setCell HB (Nat.le_succ _) _) (Nat.le_succ _) _) (Nat.le_succ _) _) (Nat.le_succ _) _) (Nat.le_succ _) _), .inr ⟨hyes.out, _, _, rfl, ?_⟩⟩
             rw [hDn.out]
             exact MTr.keep (by simp [World.setCell]) (fun b hb _ => z5_other (by omega)) (fun b hb _ => by omega) HM.out
         · have hneI : ((e : Int) == (Q.N : Int)) = false := by simp; omega
           have hno : Hid (qOk Q m d = false) := Bool.eq_false_iff.2 (fun h => by have := (HQ.out.1 h).1; rw [HE.out] at this; exact hen (Option.some.inj this))
           clear BP B5 hM HS
           have z0 := BR.c 0 rfl; have y0 := BR.f 0 rfl; have z1 := BR.c 1 rfl; have y1 := BR.f 1 rfl; have z2 := BR.c 2 rfl; have y2 := BR.f 2 rfl; have z3 := BR.c 3 rfl; have y3 := BR.f 3 rfl; have z4 := BR.c 4 rfl; have y4 := BR.f 4 rfl
           have BF := z5_set BR
           clear BR
           go_wp2
           have r0 := BF.out.c 0 rfl; have r1 := BF.out.c 1 rfl; have r2 := BF.out.c 2 rfl; have r3 := BF.out.c 3 rfl; have r4 := BF.out.c 4 rfl
           refine bodyPost_ret (v := .tuple #[.agg #[.int .i64 0, .int .i64 0, .int .i64 0, .slice none 0 0, .slice none 0 0], .bool false]) (by simp [results, Try.results26, go_sem, r0, r1, r2, r3, r4]) rfl ?_
           exact ⟨(Below.setCell (Below.setCell (Below.setCell (Below.setCell (Below.setCell HB (Nat.le_succ _) _) (Nat.le_succ _) _) (Nat.le_succ _) _) (Nat.le_succ _) _) (Nat.le_succ _) _), .inl ⟨hno.out, rfl⟩⟩
theorem qOk_all {Q : QD} {m d : Int} (h : qOk Q m d = true) : (1 ≤ m ∧ m ≤ 8) ∧ (0 ≤ d ∧ d ≤ 8) ∧ itsB Q = true ∧ rtT Q (trQ Q d.toNat 0 (-1048576) (-1048576) 2097152) (-1048576) (-1048576) 2097152 = true := by
 unfold qOk limB at h
 simp only [Bool.and_eq_true, decide_eq_true_eq] at h
 obtain ⟨⟨⟨⟨⟨⟨h1, h2⟩, h3⟩, h4⟩, h5⟩, _⟩, h6⟩ := h
 obtain ⟨h7, h8⟩ := (qrd_both Q d.toNat 0 (-1048576) (-1048576) 2097152 Q.N).1 h6
 exact ⟨⟨h1, h2⟩, ⟨h3, h4⟩, h5, (rt_tr Q d.toNat 0 (-1048576) (-1048576) 2097152 (by rw [h7]; rfl)).symm.trans h8⟩
theorem set4_blk {W : World} {g : Nat} {u0 u1 u2 u3 : Value} (B : Blk W g [u0, u1, u2, u3]) (v0 v1 v2 v3 : Value) : Hid (Blk ((((W.setCell ⟨g, 0, none⟩ v0).setCell ⟨g, 1, none⟩ v1).setCell ⟨g, 2, none⟩ v2).setCell ⟨g, 3, none⟩ v3) g [v0, v1, v2, v3]) :=
 (((B.setI 0 (by simp) _).setI 1 (by simp) _).setI 2 (by simp) _).setI 3 (by simp) _
theorem set4_below {w W : World} {B g : Nat} (h : Below B w W) (hg : B ≤ g) (v0 v1 v2 v3 : Value) : Below B w ((((W.setCell ⟨g, 0, none⟩ v0).setCell ⟨g, 1, none⟩ v1).setCell ⟨g, 2, none⟩ v2).setCell ⟨g, 3, none⟩ v3) :=
 (((h.setCell hg _).setCell hg _).setCell hg _).setCell hg _
theorem set4_heap {W : World} {g b : Nat} {v0 v1 v2 v3 : Value} (h : b ≠ g) : ((((W.setCell ⟨g, 0, none⟩ v0).setCell ⟨g, 1, none⟩ v1).setCell ⟨g, 2, none⟩ v2).setCell ⟨g, 3, none⟩ v3).heap[b]? = W.heap[b]? :=
 (Below.heap_setCell _ _ _ _ h).trans ((Below.heap_setCell _ _ _ _ h).trans ((Below.heap_setCell _ _ _ _ h).trans (Below.heap_setCell _ _ _ _ h)))
theorem int5_one (a b c d e : Int) : ∀ u ∈ [Value.int .i64 a, .int .i64 b, .int .i64 c, .int .i64 d, .int .i64 e], u.oneCell' = true := by
 intro u hu
 simp only [List.mem_cons, List.not_mem_nil, or_false] at hu
 rcases hu with h | h | h | h | h <;> subst h <;> rfl
set_option maxRecDepth 100000 in
set_option maxHeartbeats 4000000 in
open Go.Lib in
set_option maxRecDepth 100000 in
set_option maxHeartbeats 4000000 in
open Go.Lib in
def ordN (x y : Int) : Int := if x < y then -1 else if y < x then 1 else 0
set_option maxRecDepth 100000 in
set_option maxHeartbeats 4000000 in
theorem cmpNo_any (x y : Int) (w : World) : Calls Try.prog 99 #[.int .i64 x, .int .i64 y] w (VP (.int .i64 (ordN x y)) w) := by
 unfold ordN
 by_cases h1 : x < y
 · rw [if_pos h1]
   go_enter Try.func99, Try.ntmps99
   go_wp2
   go_ret
   exact ⟨rfl, Below.refl _ _⟩
 · rw [if_neg h1]
   by_cases h2 : y < x
   · rw [if_pos h2]
     go_enter Try.func99, Try.ntmps99
     go_wp2
     go_ret
     exact ⟨rfl, Below.refl _ _⟩
   · rw [if_neg h2]
     go_enter Try.func99, Try.ntmps99
     go_wp2
     go_ret
     exact ⟨rfl, Below.refl _ _⟩
set_option maxRecDepth 100000 in
set_option maxHeartbeats 4000000 in
theorem orderItem_any (x a bb cc d y : Int) (w : World) : Calls Try.prog 75 #[.agg #[.int .i64 x, .int .i64 a, .int .i64 bb, .int .i64 cc, .int .i64 d], .int .i64 y] w (VP (.int .i64 (ordN x y)) w) := by
 have B0 : Blk (w.alloc (.cells #[.int .i64 x, .int .i64 a, .int .i64 bb, .int .i64 cc, .int .i64 d] 59)) w.heap.size [.int .i64 x, .int .i64 a, .int .i64 bb, .int .i64 cc, .int .i64 d] := Blk.new w [.int .i64 x, .int .i64 a, .int .i64 bb, .int .i64 cc, .int .i64 d] 59 rfl
 have HB : Below w.heap.size w (w.alloc (.cells #[.int .i64 x, .int .i64 a, .int .i64 bb, .int .i64 cc, .int .i64 d] 59)) := (Below.refl _ w).alloc (Nat.le_refl _) _
 go_enter Try.func75, Try.ntmps75
 go_upto_region 1 with fail
 generalize (w.alloc (.cells #[.int .i64 x, .int .i64 a, .int .i64 bb, .int .i64 cc, .int .i64 d] 59)) = W1 at *
 have m0 := B0.c 0 rfl
 go_wp2_with fail
 refine (cmpNo_any x y W1).mono ?_
 rintro r w1 ⟨rfl, hB⟩
 have HB2 := HB.trans (hB.mono HB.size)
 clear hB HB m0 B0
 go_wp2
 go_ret
 exact ⟨rfl, HB2⟩
theorem ordN_lt (x y : Int) : (ordN x y < 0) ↔ x < y := by
 unfold ordN
 split
 · exact ⟨fun _ => by assumption, fun _ => by omega⟩
 · split <;> exact ⟨fun h => absurd h (by omega), fun h => absurd h (by assumption)⟩
theorem ordN_zero (x y : Int) : (ordN x y = 0) ↔ x = y := by
 unfold ordN
 split
 · exact ⟨fun h => absurd h (by omega), fun h => by omega⟩
 · split
   · exact ⟨fun h => absurd h (by omega), fun h => by omega⟩
   · exact ⟨fun _ => by omega, fun _ => rfl⟩
set_option maxRecDepth 100000 in
set_option maxHeartbeats 8000000 in
theorem bsfItem_any (Q : QD) (ao : Option Addr) (n cap : Nat) (id : Int) (j : Nat) (th : Bool) (hn : n ≤ 1048576) (hj : j ≤ n) (hlo : ∀ i, i < j → Q.I i < id) (hhi : ∀ i, j ≤ i → i < n → id ≤ Q.I i) (hth : th = true ↔ (j < n ∧ Q.I j = id)) (w : World) (hS : ItIn Q w ao (List.range n)) : Calls Try.prog 74 #[.slice ao n cap, .int .i64 id, .func (.func 75) #[] #[]] w (VP (.tuple #[.int .i64 (j : Int), .bool th]) w) := by
 have HS : Hid (ItIn Q w ao (List.range n)) := hS
 have HLO : Hid (∀ i, i < j → Q.I i < id) := hlo
 have HHI : Hid (∀ i, j ≤ i → i < n → id ≤ Q.I i) := hhi
 have HTH : Hid (th = true ↔ (j < n ∧ Q.I j = id)) := hth
 clear hS hlo hhi hth
 have hnI : (n : Int) ≤ 1048576 := by omega
 go_enter Try.func74, Try.ntmps74
 go_wp2_with fail
 go_loopw [9, 10] (fun a b wr => ∃ l r : Nat, a = .int .i64 l ∧ b = .int .i64 r ∧ l ≤ j ∧ j ≤ r ∧ r ≤ n ∧ Below w.heap.size w wr) (fun a b _ => (intOf b).toNat - (intOf a).toNat)
 case atStart => exact ⟨0, n, rfl, rfl, by omega, hj, by omega, Below.refl _ _⟩
 case round =>
   obtain ⟨l, r, rfl, rfl, hl, hr, hrm, HB⟩ := hrel
   by_cases hlr : l < r
   · have hlI : (l : Int) < r := by omega
     have hrI : (r : Int) ≤ 1048576 := by omega
     obtain ⟨hf, hh0⟩ : ∃ h : Nat, h = (l + r) / 2 := ⟨_, rfl⟩
     have hhI : ((l : Int) + (r : Int)) / 2 = (hf : Int) := by omega
     have hh : l ≤ hf ∧ hf < r := by omega
     clear hh0
     obtain ⟨A, off, rfl, hA, q0, q1, q2, q3, q4⟩ := HS.out.step HB hf hf (by simp [show hf < n by omega])
     obtain ⟨ov, hov⟩ : ∃ ov, ordN (Q.I hf) id = ov := ⟨_, rfl⟩
     have HOV : Hid (ordN (Q.I hf) id = ov) := hov
     have C := orderItem_any (Q.I hf) (Q.S hf).1 (Q.S hf).2.1 (Q.S hf).2.2.1 (Q.S hf).2.2.2 id wr
     rw [hov] at C
     clear hov
     go_wp2_with fail
     refine C.mono ?_
     rintro e w1 ⟨rfl, hBz⟩
     replace HB := HB.trans (hBz.mono HB.size)
     clear C hBz hA q0 q1 q2 q3 q4
     by_cases hx : ov < 0
     · have hfj : Hid (hf < j) := Nat.lt_of_not_le fun hle => by have := HHI.out hf hle (by omega); have := (ordN_lt _ _).1 (by rw [HOV.out]; exact hx); omega
       go_wp2
       go_roundw
       case rel => exact ⟨hf + 1, r, by go_num, rfl, hfj.out, hr, hrm, HB⟩
       case measure => simp [intOf]; omega
     · have hfj : Hid (j ≤ hf) := Nat.le_of_not_lt fun hlt => hx (by rw [← HOV.out]; exact (ordN_lt _ _).2 (HLO.out hf hlt))
       go_wp2
       go_roundw
       case rel => exact ⟨l, hf, rfl, rfl, hl, hfj.out, by omega, HB⟩
       case measure => simp [intOf]; omega
   · obtain rfl : l = j := by omega
     obtain rfl : r = l := by omega
     by_cases hlm : r < n
     · have hlI : (r : Int) < n := by omega
       obtain ⟨A, off, rfl, hA, q0, q1, q2, q3, q4⟩ := HS.out.step HB r r (by simp [hlm])
       obtain ⟨ov, hov⟩ : ∃ ov, ordN (Q.I r) id = ov := ⟨_, rfl⟩
       have hth : (ov == 0) = th := by
         cases th with
         | true => exact beq_iff_eq.2 (hov.symm.trans ((ordN_zero _ _).2 (HTH.out.1 rfl).2))
         | false => exact Bool.eq_false_iff.2 (fun h => by have := HTH.out.2 ⟨hlm, (ordN_zero _ _).1 (hov.trans (beq_iff_eq.1 h))⟩; cases this)
       have C := orderItem_any (Q.I r) (Q.S r).1 (Q.S r).2.1 (Q.S r).2.2.1 (Q.S r).2.2.2 id wr
       rw [hov] at C
       clear hov
       go_wp2_with fail
       refine C.mono ?_
       rintro e w1 ⟨rfl, hBz⟩
       replace HB := HB.trans (hBz.mono HB.size)
       clear C hBz hA q0 q1 q2 q3 q4
       go_wp2
       refine bodyPost_ret (v := .tuple #[.int .i64 (r : Int), .bool th]) (by simp [results, Try.results74, go_sem]) rfl ?_
       exact ⟨rfl, HB⟩
     · obtain rfl : r = n := by omega
       have htf : th = false := by cases th with | false => rfl | true => have := (HTH.out.1 rfl).1; omega
       subst htf
       go_wp2
       refine bodyPost_ret (v := .tuple #[.int .i64 (r : Int), .bool false]) (by simp [results, Try.results74, go_sem]) rfl ?_
       exact ⟨rfl, HB⟩
theorem own_set4 {w1 : World} {b g size n : Nat} {T : TypeId} {v v0 v1 v2 v3 : Value} {xs : List Value} (hO : w1.ownsRow b T size v n xs) (hg : g < b) : ((((w1.setCell ⟨g, 0, none⟩ v0).setCell ⟨g, 1, none⟩ v1).setCell ⟨g, 2, none⟩ v2).setCell ⟨g, 3, none⟩ v3).drew.ownsRow g T size v n xs :=
 World.ownsRow.drew (ownQ_mono2 (ownQ_heap hO (fun k hk => set4_heap (W := w1) (g := g) (by have := (World.ownsRow.lt hO k hk).1; omega))) (by omega))
def ToldP (m d : Int) (iv : Value) (ok : Nat → Prop) (L : List WB) (w : World) (r : Ending) (w' : World) : Prop :=
 Below w.heap.size w w' ∧ ((2000 < L.length ∧ r = .returned (.tuple #[.agg #[.int .i64 0, .int .i64 0, .slice none 0 0, .slice none 0 0], .bool false])) ∨ (L.length ≤ 2000 ∧ ∃ u I, r = .returned (.tuple #[.agg #[.int .i64 m, .int .i64 d, iv, u], .bool true]) ∧ w'.ownsRow w.heap.size 55 5 u L.length (wbCs L I) ∧ IsP ok w L I))
set_option maxRecDepth 100000 in
set_option maxHeartbeats 8000000 in
theorem toldS_any (t : QT) (gq gr n ic : Nat) (io : Option Addr) (m d : Int) (ok : Nat → Prop) (w : World) (hL : (wrT t (-1048576) (-1048576) 2097152).length ≤ 1048576) (Bq : Blk w gq [.int .i64 m, .int .i64 d, .slice io n ic, .pointer (some ⟨gr, 0, none⟩)]) (hT : STr ok w t (-1048576) (-1048576) 2097152 0 gr) : Calls Try.prog 40 #[.pointer (some ⟨gq, 0, none⟩)] w (ToldP m d (.slice io n ic) ok (wrT t (-1048576) (-1048576) 2097152) w) := by
 have H1 : Below w.heap.size w (w.alloc (.cells #[.int .i64 0, .int .i64 0, .slice none 0 0, .slice none 0 0] 34)) := (Below.refl _ w).alloc (Nat.le_refl _) _
 have BZ := Blk.new w [.int .i64 0, .int .i64 0, .slice none 0 0, .slice none 0 0] 34 rfl
 have HKq : ∀ W, Below w.heap.size w W → (fun w' : World => w'.cell? ⟨gq, 0, none⟩ = some (.int .i64 m) ∧ w'.cell? ⟨gq, 1, none⟩ = some (.int .i64 d) ∧ w'.cell? ⟨gq, 2, none⟩ = some (.slice io n ic)) W := fun W h => ⟨(Bq.below h Bq.lt).c 0 rfl, (Bq.below h Bq.lt).c 1 rfl, (Bq.below h Bq.lt).c 2 rfl⟩
 have hT1 : STr (fun b => ok b ∧ b < w.heap.size) w t (-1048576) (-1048576) 2097152 0 gr := STr.keep (Nat.le_refl _) (fun _ _ _ => rfl) (fun b hb hl => ⟨hb, hl⟩) hT
 replace Bq := Bq.step H1
 replace hT1 := hT1.step H1
 have RL := row_any t _ _ _ _ _ gr _ hL hT1
 have hpos := wrT_pos t (-1048576) (-1048576) 2097152
 obtain ⟨L, hLL⟩ : ∃ L, wrT t (-1048576) (-1048576) 2097152 = L := ⟨_, rfl⟩
 rw [hLL] at hL RL hpos ⊢
 clear hLL hT hT1
 go_enter Try.func40, Try.ntmps40
 go_upto_region 1 with fail
 generalize w.alloc (.cells #[.int .i64 0, .int .i64 0, .slice none 0 0, .slice none 0 0] 34) = W at *
 have q3 := Bq.c 3 rfl
 go_wp2_with fail
 refine RL.mono ?_
 rintro e w1 ⟨v, I, rfl, hO, hI, hB⟩
 have hzl := BZ.lt
 have hIW : Hid (IsP ok w L I) := hI.keep (fun b hb _ => (H1.block b hb.2).symm) (fun b hb _ => hb.1)
 replace BZ := BZ.step hB
 replace H1 := H1.trans (hB.mono H1.size)
 obtain ⟨N, hN⟩ : ∃ N, L.length = N := ⟨_, rfl⟩
 have HN : Hid (L.length = N) := hN
 rw [hN] at hO hL hpos
 obtain ⟨h, hc, rfl, hh1, hh2, _, _⟩ := ownQ_form hO hpos
 have hnI : (N : Int) ≤ 1048576 := by omega
 clear hB RL q3 Bq hI hN
 have z0 := BZ.c 0 rfl; have z1 := BZ.c 1 rfl; have z2 := BZ.c 2 rfl; have z3 := BZ.c 3 rfl; have y0 := BZ.f 0 rfl; have y1 := BZ.f 1 rfl; have y2 := BZ.f 2 rfl; have y3 := BZ.f 3 rfl; have zl := BZ.lt
 by_cases h2 : 2000 < N
 · have h2I : (2000 : Int) < (N : Int) := by omega
   have BF := set4_blk BZ (.int .i64 0) (.int .i64 0) (.slice none 0 0) (.slice none 0 0)
   have HF := set4_below H1 (Nat.le_refl _) (.int .i64 0) (.int .i64 0) (.slice none 0 0) (.slice none 0 0)
   clear BZ H1 hO HKq hIW
   go_wp2
   have r0 := BF.out.c 0 rfl; have r1 := BF.out.c 1 rfl; have r2 := BF.out.c 2 rfl; have r3 := BF.out.c 3 rfl
   refine bodyPost_ret (v := .tuple #[.agg #[.int .i64 0, .int .i64 0, .slice none 0 0, .slice none 0 0], .bool false]) (by simp [results, Try.results40, go_sem, r0, r1, r2, r3]) rfl ?_
   exact ⟨HF, .inl ⟨by rw [HN.out]; exact h2, rfl⟩⟩
 · have h2I : (N : Int) ≤ 2000 := by omega
   go_upto_region 4 with fail
   go_region_held3 (fun w' : World => w'.cell? ⟨gq, 0, none⟩ = some (.int .i64 m) ∧ w'.cell? ⟨gq, 1, none⟩ = some (.int .i64 d) ∧ w'.cell? ⟨gq, 2, none⟩ = some (.slice io n ic)) (refine HKq _ ?_ <;> repeat (first | (with_reducible exact H1) | (with_reducible refine Below.drew ?_) | (with_reducible refine Below.setCell ?_ (by first | exact Nat.le_refl _ | simp) _))) (fail)
   all_goals have RN : Blk ((((w1.setCell ⟨w.heap.size, 0, none⟩ (.int .i64 m)).setCell ⟨w.heap.size, 1, none⟩ (.int .i64 d)).setCell ⟨w.heap.size, 2, none⟩ (.slice io n ic)).setCell ⟨w.heap.size, 3, none⟩ (.slice (some ⟨h, 0, none⟩) N hc)).drew w.heap.size [.int .i64 m, .int .i64 d, .slice io n ic, .slice (some ⟨h, 0, none⟩) N hc] := ((((BZ.setI 0 (by simp) _).setI 1 (by simp) _).setI 2 (by simp) _).setI 3 (by simp) _).drew
   all_goals have HNN : Below w.heap.size w ((((w1.setCell ⟨w.heap.size, 0, none⟩ (.int .i64 m)).setCell ⟨w.heap.size, 1, none⟩ (.int .i64 d)).setCell ⟨w.heap.size, 2, none⟩ (.slice io n ic)).setCell ⟨w.heap.size, 3, none⟩ (.slice (some ⟨h, 0, none⟩) N hc)).drew := ((((H1.setCell (p := ⟨w.heap.size, 0, none⟩) (Nat.le_refl _) _).setCell (p := ⟨w.heap.size, 1, none⟩) (Nat.le_refl _) _).setCell (p := ⟨w.heap.size, 2, none⟩) (Nat.le_refl _) _).setCell (p := ⟨w.heap.size, 3, none⟩) (Nat.le_refl _) _).drew
   all_goals have HON : Hid (((((w1.setCell ⟨w.heap.size, 0, none⟩ (.int .i64 m)).setCell ⟨w.heap.size, 1, none⟩ (.int .i64 d)).setCell ⟨w.heap.size, 2, none⟩ (.slice io n ic)).setCell ⟨w.heap.size, 3, none⟩ (.slice (some ⟨h, 0, none⟩) N hc)).drew.ownsRow w.heap.size 55 5 (.slice (some ⟨h, 0, none⟩) N hc) L.length (wbCs L I)) := by rw [HN.out]; exact own_set4 hO hzl
   all_goals clear BZ hO H1 HKq z0 z1 z2 z3 y0 y1 y2 y3 zl
   all_goals have r0 := RN.c 0 rfl; have r1 := RN.c 1 rfl; have r2 := RN.c 2 rfl; have r3 := RN.c 3 rfl
   all_goals go_wp2
   all_goals refine bodyPost_ret (v := .tuple #[.agg #[.int .i64 m, .int .i64 d, .slice io n ic, .slice (some ⟨h, 0, none⟩) N hc], .bool true]) (by simp [results, Try.results40, go_sem, r0, r1, r2, r3]) rfl ?_
   all_goals exact ⟨HNN, .inr ⟨by rw [HN.out]; omega, _, I, rfl, HON.out, hIW.out⟩⟩
theorem place_ex {Q : QD} (hr : riseI Q) (id : Int) : ∀ n, n ≤ Q.m → ∃ j, j ≤ n ∧ (∀ i, i < j → Q.I i < id) ∧ ∀ i, j ≤ i → i < n → id ≤ Q.I i
 | 0, _ => ⟨0, Nat.le_refl _, fun i hi => absurd hi (by omega), fun i _ hi => absurd hi (by omega)⟩
 | n + 1, hn => by
   obtain ⟨j, h1, h2, h3⟩ := place_ex hr id n (by omega)
   by_cases hj : j < n
   · refine ⟨j, by omega, h2, fun i hi hi2 => ?_⟩
     rcases Nat.lt_or_ge i n with h | h
     · exact h3 i hi h
     · have h4 := h3 j (Nat.le_refl _) hj
       have h5 := rise_lt hr (i - j - 1) j (by omega)
       rw [show j + (i - j - 1) + 1 = i by omega] at h5
       omega
   · obtain rfl : j = n := by omega
     by_cases hid : Q.I j < id
     · exact ⟨j + 1, by omega, fun i hi => by
         rcases Nat.lt_or_ge i j with h | h
         · exact h2 i h
         · rw [show i = j by omega]; exact hid, fun i hi hi2 => absurd hi (by omega)⟩
     · exact ⟨j, by omega, h2, fun i hi hi2 => by rw [show i = j by omega]; omega⟩
set_option maxRecDepth 100000 in
set_option maxHeartbeats 4000000 in
theorem place_any (Q : QD) (gq ic : Nat) (io : Option Addr) (m d id : Int) (pv : Value) (j : Nat) (th : Bool) (hn : Q.m ≤ 1048576) (hj : j ≤ Q.m) (hlo : ∀ i, i < j → Q.I i < id) (hhi : ∀ i, j ≤ i → i < Q.m → id ≤ Q.I i) (hth : th = true ↔ (j < Q.m ∧ Q.I j = id)) (w : World) (BQ : Blk w gq [.int .i64 m, .int .i64 d, .slice io Q.m ic, pv]) (hS : ItIn Q w io (List.range Q.m)) : Calls Try.prog 37 #[.pointer (some ⟨gq, 0, none⟩), .int .i64 id] w (VP (.tuple #[.int .i64 (j : Int), .bool th]) w) := by
 have C := bsfItem_any Q io Q.m ic id j th hn hj hlo hhi hth w hS
 have q2 := BQ.c 2 rfl
 clear hlo hhi hth hS BQ
 go_enter Try.func37, Try.ntmps37
 go_wp2_with fail
 refine C.mono ?_
 rintro r w1 ⟨rfl, hB⟩
 clear C q2
 go_wp2
 refine bodyPost_ret (v := .tuple #[.int .i64 (j : Int), .bool th]) (by simp [results, Try.results37, go_sem]) rfl ?_
 exact ⟨rfl, hB⟩
def RwN (w : World) (T : TypeId) (k : Nat) (v : Value) (n : Nat) (c : Nat → Value) : Prop := (v = .slice none 0 0 ∧ n = 0) ∨ ∃ g cap f, v = .slice (some ⟨g, 0, none⟩) n cap ∧ n ≤ cap ∧ w.rowIs g T (cap * k) f ∧ ∀ i, i < n * k → f i = c i
theorem RwN.heap {w w' : World} {T : TypeId} {k : Nat} {v : Value} {n : Nat} {c : Nat → Value} (h : RwN w T k v n c) (hh : ∀ b, v.ownBlock = some b → w'.heap[b]? = w.heap[b]?) : RwN w' T k v n c := by
 rcases h with h | ⟨g, cap, f, h1, h2, h3, h4⟩
 · exact .inl h
 · exact .inr ⟨g, cap, f, h1, h2, h3.of_block (hh g (by subst h1; rfl)), h4⟩
theorem RwN.lt {w : World} {T : TypeId} {k : Nat} {v : Value} {n : Nat} {c : Nat → Value} (h : RwN w T k v n c) {b : Nat} (hb : v.ownBlock = some b) : b < w.heap.size := by
 rcases h with ⟨h, _⟩ | ⟨g, cap, f, h1, h2, h3, h4⟩
 · subst h; cases hb
 · subst h1; cases hb; exact h3.lt
theorem RwN.congr {w : World} {T : TypeId} {k : Nat} {v : Value} {n : Nat} {c c' : Nat → Value} (h : RwN w T k v n c) (hc : ∀ i, i < n * k → c i = c' i) : RwN w T k v n c' := by
 rcases h with h | ⟨g, cap, f, h1, h2, h3, h4⟩
 · exact .inl h
 · exact .inr ⟨g, cap, f, h1, h2, h3, fun i hi => (h4 i hi).trans (hc i hi)⟩
theorem RwN.own {w : World} {T : TypeId} {k b : Nat} {v : Value} {n : Nat} {xs : List Value} (h : w.ownsRow b T k v n xs) : RwN w T k v n (fun i => xs.getD i undef) := by
 rcases h.2 with ⟨h1, h2⟩ | ⟨g, cap, cur, h1, h2, h3, h4, h5, h6, h7⟩
 · exact .inl ⟨h1, h2⟩
 · refine .inr ⟨g, cap, fun i => cur.getD i undef, h1, h4, ⟨cur, h3, h6, fun i hi => ?_⟩, fun i hi => ?_⟩
   · simp [Array.getD_eq_getD_getElem?, show i < cur.size by omega]
   · rw [← h7]
     simp only [List.getD_eq_getElem?_getD]
     rw [List.getElem?_take_of_lt hi]
     simp [Array.getD_eq_getD_getElem?]
theorem RwN.row {w : World} {T : TypeId} {k g n : Nat} {f : Nat → Value} (h : w.rowIs g T (n * k) f) : RwN w T k (.slice (some ⟨g, 0, none⟩) n n) n f := .inr ⟨g, n, f, rfl, Nat.le_refl _, h, fun _ _ => rfl⟩
theorem RwN.slice {w : World} {T : TypeId} {k : Nat} {v : Value} {n : Nat} {c : Nat → Value} (h : RwN w T k v n c) : ∃ ao cap, v = .slice ao n cap := by
 rcases h with ⟨h, h0⟩ | ⟨g, cap, f, h1, _⟩
 · exact ⟨none, 0, by rw [h, h0]⟩
 · exact ⟨_, _, h1⟩
theorem RwN.numbers {w : World} {v : Value} {n : Nat} {e : Nat → Int} (h : RwN w 2 1 v n (fun i => .int .i64 (e i))) : ∃ ao cap, v = .slice ao n cap ∧ NoIn w ao n e := by
 rcases h with ⟨h1, rfl⟩ | ⟨g, cap, f, h1, h4, h5, h6⟩
 · exact ⟨none, 0, h1, fun i hi => absurd hi (by omega)⟩
 · exact ⟨some ⟨g, 0, none⟩, cap, h1, fun i hi => ⟨g, 0, rfl, h5.lt, by rw [Nat.zero_add, h5.cell (by omega), h6 i (by omega)]⟩⟩
def nuK (K i : Nat) : Value := .int .i64 ((K : Int) + (i : Int))
set_option maxRecDepth 100000 in
set_option maxHeartbeats 2000000 in
theorem markNoQ_any (v : Value) (m K : Nat) (c : Nat → Value) (hm : m ≤ 1048576) (hK : K ≤ 1152921504606846976) (w : World) (hO : RwN w 2 1 v m c) : Calls Try.prog 84 #[v, .int .i64 (K : Int)] w (fun r w' => r = .returned (.int .i64 ((K : Int) + (m : Int))) ∧ RwN w' 2 1 v m (nuK K) ∧ w.grownBy w' v.ownBlock) := by
 have hKI : (K : Int) ≤ 1152921504606846976 := by omega
 rcases hO with ⟨rfl, rfl⟩ | ⟨g, cap, f, rfl, hc, R, hf⟩
 · go_enter Try.func84, Try.ntmps84
   go_wp2_with fail
   go_loopw [1, 5] (fun o i wr => o = .int .i64 (K : Int) ∧ i = .int .i64 0 ∧ wr = w) (fun _ i _ => 0)
   case atStart => exact ⟨rfl, rfl, rfl⟩
   case round =>
     obtain ⟨rfl, rfl, rfl⟩ := hrel
     go_wp2
     go_ret
     exact ⟨by simp, .inl ⟨rfl, rfl⟩, rfl, rfl, rfl, Nat.le_refl _, fun _ _ _ => rfl⟩
 · have HR : Hid (w.rowIs g 2 (cap * 1) f) := R
   clear R hf
   have hnI : (m : Int) ≤ 1048576 := by omega
   go_enter Try.func84, Try.ntmps84
   go_wp2_with fail
   go_loopw [1, 5] (fun o i wr => ∃ c : Nat, c ≤ m ∧ o = .int .i64 ((K : Int) + (c : Int)) ∧ i = .int .i64 c ∧ (∃ f, wr.rowIs g 2 (cap * 1) f ∧ ∀ i, i < c → f i = nuK K i) ∧ w.grownBy wr (some g)) (fun _ i _ => m - (intOf i).toNat)
   case atStart => exact ⟨0, by omega, by simp, rfl, ⟨f, HR.out, fun i hi => by omega⟩, rfl, rfl, rfl, Nat.le_refl _, fun _ _ _ => rfl⟩
   case round =>
     obtain ⟨c, hcn, rfl, rfl, ⟨f', R, hd⟩, KB⟩ := hrel
     by_cases hlt : c < m
     · have hcI : (c : Int) < m := by omega
       have o0 := R.cell (i := c) (by omega)
       have f0 := R.frozen c
       have RN : Hid (∃ f, (wr.setCell ⟨g, c, none⟩ (.int .i64 ((K : Int) + (c : Int)))).rowIs g 2 (cap * 1) f ∧ ∀ i, i < c + 1 → f i = nuK K i) := ⟨_, R.set c (.int .i64 ((K : Int) + (c : Int))), fun i hi => by
         by_cases e : i = c
         · subst e; rw [if_pos rfl]; rfl
         · rw [if_neg e]; exact hd i (by omega)⟩
       have KN : w.grownBy (wr.setCell ⟨g, c, none⟩ (.int .i64 ((K : Int) + (c : Int)))) (some g) := grown_trans KB (grown_set (Below.refl _ _) c _)
       clear R KB hd
       go_wp2
       go_roundw
       case rel => exact ⟨c + 1, by omega, by go_num, by go_num, RN.out, KN⟩
       case measure => simp [intOf]; omega
     · obtain rfl : c = m := by omega
       have HD : Hid (∀ i, i < c → f' i = nuK K i) := hd
       clear hd
       go_wp2
       go_ret
       exact ⟨rfl, .inr ⟨g, cap, f', rfl, hc, R, fun i hi => HD.out i (by omega)⟩, KB⟩
set_option maxRecDepth 100000 in
set_option maxHeartbeats 2000000 in
theorem heldNoQ_any (v : Value) (m K : Nat) (hm : m ≤ 1048576) (hK : K ≤ 1152921504606846976) (w : World) (hO : RwN w 2 1 v m (nuK K)) : Calls Try.prog 85 #[v, .int .i64 (K : Int)] w (VP (.int .i64 ((K : Int) + (m : Int))) w) := by
 have hKI : (K : Int) ≤ 1152921504606846976 := by omega
 obtain ⟨so, sc, rfl, hI⟩ := RwN.numbers (e := fun i => (K : Int) + (i : Int)) hO
 have HR : Hid (NoIn w so m (fun i => (K : Int) + (i : Int))) := hI
 clear hI hO
 have hnI : (m : Int) ≤ 1048576 := by omega
 go_enter Try.func85, Try.ntmps85
 go_wp2_with fail
 go_loopw [1, 5] (fun o i wr => ∃ c : Nat, c ≤ m ∧ o = .int .i64 ((K : Int) + (c : Int)) ∧ i = .int .i64 c ∧ Below w.heap.size w wr) (fun _ i _ => m - (intOf i).toNat)
 case atStart => exact ⟨0, by omega, by simp, rfl, Below.refl _ _⟩
 case round =>
   obtain ⟨c, hcn, rfl, rfl, HB⟩ := hrel
   by_cases hlt : c < m
   · have hcI : (c : Int) < m := by omega
     obtain ⟨A, off, rfl, hA, hcell⟩ := HR.out.step HB c hlt
     go_wp2
     go_roundw
     case rel => exact ⟨c + 1, by omega, by go_num, by go_num, HB⟩
     case measure => simp [intOf]; omega
   · obtain rfl : c = m := by omega
     go_wp2
     go_ret
     exact ⟨rfl, HB⟩
theorem five_set {w : World} {g n c : Nat} {T : TypeId} {f : Nat → Value} (R : w.rowIs g T n f) (v0 v1 v2 v3 v4 : Value) : ∃ f2, ((((((w.setCell ⟨g, c * 5, none⟩ (v0)).setCell ⟨g, c * 5 + 1, none⟩ (v1)).setCell ⟨g, c * 5 + 2, none⟩ (v2)).setCell ⟨g, c * 5 + 3, none⟩ (v3)).setCell ⟨g, c * 5 + 4, none⟩ (v4))).rowIs g T n f2 ∧ (∀ i, i < c * 5 → f2 i = f i) ∧ f2 (c * 5) = v0 ∧ f2 (c * 5 + 1) = v1 ∧ f2 (c * 5 + 2) = v2 ∧ f2 (c * 5 + 3) = v3 ∧ f2 (c * 5 + 4) = v4 ∧ ∀ i, c * 5 + 5 ≤ i → f2 i = f i := by
 refine ⟨_, ((((R.set (c * 5) v0).set (c * 5 + 1) v1).set (c * 5 + 2) v2).set (c * 5 + 3) v3).set (c * 5 + 4) v4, fun i hi => ?_, ?_, ?_, ?_, ?_, ?_, fun i hi => ?_⟩
 · rw [if_neg (by omega), if_neg (by omega), if_neg (by omega), if_neg (by omega), if_neg (by omega)]
 · rw [if_neg (by omega), if_neg (by omega), if_neg (by omega), if_neg (by omega), if_pos rfl]
 · rw [if_neg (by omega), if_neg (by omega), if_neg (by omega), if_pos rfl]
 · rw [if_neg (by omega), if_neg (by omega), if_pos rfl]
 · rw [if_neg (by omega), if_pos rfl]
 · rw [if_pos rfl]
 · rw [if_neg (by omega), if_neg (by omega), if_neg (by omega), if_neg (by omega), if_neg (by omega)]
theorem grown_five {w : World} {g c : Nat} (v0 v1 v2 v3 v4 : Value) : w.grownBy (((((w.setCell ⟨g, c * 5, none⟩ (v0)).setCell ⟨g, c * 5 + 1, none⟩ (v1)).setCell ⟨g, c * 5 + 2, none⟩ (v2)).setCell ⟨g, c * 5 + 3, none⟩ (v3)).setCell ⟨g, c * 5 + 4, none⟩ (v4)) (some g) :=
 grown_trans (grown_trans (grown_trans (grown_trans (grown_set (Below.refl _ _) _ v0) (grown_set (Below.refl _ _) _ v1)) (grown_set (Below.refl _ _) _ v2)) (grown_set (Below.refl _ _) _ v3)) (grown_set (Below.refl _ _) _ v4)
set_option maxRecDepth 100000 in
set_option maxHeartbeats 8000000 in
theorem markItQ_any (v : Value) (m K : Nat) (c : Nat → Value) (hm : m ≤ 1048576) (hK : K ≤ 4294967296) (w : World) (hO : RwN w 59 5 v m c) : Calls Try.prog 43 #[v, .int .i64 (K : Int)] w (fun r w' => r = .returned (.int .i64 ((K + m * 5 : Nat) : Int)) ∧ RwN w' 59 5 v m (nuK K) ∧ w.grownBy w' v.ownBlock) := by
 have hKI : (K : Int) ≤ 4294967296 := by omega
 rcases hO with ⟨rfl, rfl⟩ | ⟨g, cap, f, rfl, hc, R, hf⟩
 · go_enter Try.func43, Try.ntmps43
   go_wp2_with fail
   go_loopw [1, 5] (fun o i wr => o = .int .i64 (K : Int) ∧ i = .int .i64 0 ∧ wr = w) (fun _ i _ => 0)
   case atStart => exact ⟨rfl, rfl, rfl⟩
   case round =>
     obtain ⟨rfl, rfl, rfl⟩ := hrel
     go_wp2
     go_ret
     exact ⟨by simp, .inl ⟨rfl, rfl⟩, rfl, rfl, rfl, Nat.le_refl _, fun _ _ _ => rfl⟩
 · have HR : Hid (w.rowIs g 59 (cap * 5) f) := R
   clear R hf
   have hnI : (m : Int) ≤ 1048576 := by omega
   go_enter Try.func43, Try.ntmps43
   go_wp2_with fail
   go_loopw [1, 5] (fun o i wr => ∃ c kk : Nat, c ≤ m ∧ o = .int .i64 (kk : Int) ∧ K + c * 5 = kk ∧ i = .int .i64 c ∧ (∃ f, wr.rowIs g 59 (cap * 5) f ∧ ∀ i, i < c * 5 → f i = nuK K i) ∧ w.grownBy wr (some g)) (fun _ i _ => m - (intOf i).toNat)
   case atStart => exact ⟨0, K, by omega, rfl, by omega, rfl, ⟨f, HR.out, fun i hi => by omega⟩, rfl, rfl, rfl, Nat.le_refl _, fun _ _ _ => rfl⟩
   case round =>
     obtain ⟨c, kk, hcn, rfl, hkk, rfl, ⟨f', R, hd⟩, KB⟩ := hrel
     have HKK : Hid (K + c * 5 = kk) := hkk
     have hkI : (kk : Int) ≤ 4300210176 := by omega
     clear hkk
     by_cases hlt : c < m
     · have hcI : (c : Int) < m := by omega
       have o0 := R.cell (i := c * 5) (by omega); have f0 := R.frozen (c * 5); have o1 := R.cell (i := c * 5 + 1) (by omega); have f1 := R.frozen (c * 5 + 1); have o2 := R.cell (i := c * 5 + 2) (by omega); have f2 := R.frozen (c * 5 + 2); have o3 := R.cell (i := c * 5 + 3) (by omega); have f3 := R.frozen (c * 5 + 3); have o4 := R.cell (i := c * 5 + 4) (by omega); have f4 := R.frozen (c * 5 + 4)
       have RN : Hid (∃ f, ((((((wr.setCell ⟨g, c * 5, none⟩ (.int .i64 ((kk : Int)))).setCell ⟨g, c * 5 + 1, none⟩ (.int .i64 ((kk : Int) + 1))).setCell ⟨g, c * 5 + 2, none⟩ (.int .i64 ((kk : Int) + 1 + 1))).setCell ⟨g, c * 5 + 3, none⟩ (.int .i64 ((kk : Int) + 1 + 1 + 1))).setCell ⟨g, c * 5 + 4, none⟩ (.int .i64 ((kk : Int) + 1 + 1 + 1 + 1)))).rowIs g 59 (cap * 5) f ∧ ∀ i, i < (c + 1) * 5 → f i = nuK K i) := by
         obtain ⟨f2, r0, r1, r2, r3, r4, r5, r6, _⟩ := five_set (c := c) R (.int .i64 ((kk : Int))) (.int .i64 ((kk : Int) + 1)) (.int .i64 ((kk : Int) + 1 + 1)) (.int .i64 ((kk : Int) + 1 + 1 + 1)) (.int .i64 ((kk : Int) + 1 + 1 + 1 + 1))
         have hk9 := HKK.out
         refine ⟨f2, r0, fun i hi => ?_⟩
         rcases (show i < c * 5 ∨ i = c * 5 ∨ i = c * 5 + 1 ∨ i = c * 5 + 2 ∨ i = c * 5 + 3 ∨ i = c * 5 + 4 by omega) with e | e | e | e | e | e
         · rw [r1 i e]; exact hd i e
         all_goals
           subst e
           first | rw [r2] | rw [r3] | rw [r4] | rw [r5] | rw [r6]
           unfold nuK
           congr 1
           omega
       have KN : w.grownBy (((((wr.setCell ⟨g, c * 5, none⟩ (.int .i64 ((kk : Int)))).setCell ⟨g, c * 5 + 1, none⟩ (.int .i64 ((kk : Int) + 1))).setCell ⟨g, c * 5 + 2, none⟩ (.int .i64 ((kk : Int) + 1 + 1))).setCell ⟨g, c * 5 + 3, none⟩ (.int .i64 ((kk : Int) + 1 + 1 + 1))).setCell ⟨g, c * 5 + 4, none⟩ (.int .i64 ((kk : Int) + 1 + 1 + 1 + 1))) (some g) := grown_trans KB (grown_five _ _ _ _ _)
       clear R KB hd
       go_wp2
       go_roundw
       case rel => exact ⟨c + 1, kk + 5, by omega, by go_num, by have := HKK.out; omega, by go_num, RN.out, KN⟩
       case measure => simp [intOf]; omega
     · obtain rfl : c = m := by omega
       have HD : Hid (∀ i, i < c * 5 → f' i = nuK K i) := hd
       clear hd
       go_wp2
       go_ret
       exact ⟨congrArg (fun z : Nat => Ending.returned (.int .i64 (z : Int))) HKK.out.symm, .inr ⟨g, cap, f', rfl, hc, R, HD.out⟩, KB⟩
set_option maxRecDepth 100000 in
set_option maxHeartbeats 8000000 in
theorem heldItQ_any (v : Value) (m K : Nat) (hm : m ≤ 1048576) (hK : K ≤ 4294967296) (w : World) (hO : RwN w 59 5 v m (nuK K)) : Calls Try.prog 45 #[v, .int .i64 (K : Int)] w (VP (.int .i64 ((K + m * 5 : Nat) : Int)) w) := by
 have hKI : (K : Int) ≤ 4294967296 := by omega
 rcases hO with ⟨rfl, rfl⟩ | ⟨g, cap, f, rfl, hc, R, hf⟩
 · go_enter Try.func45, Try.ntmps45
   go_wp2_with fail
   go_loopw [1, 5] (fun o i wr => o = .int .i64 (K : Int) ∧ i = .int .i64 0 ∧ wr = w) (fun _ i _ => 0)
   case atStart => exact ⟨rfl, rfl, rfl⟩
   case round =>
     obtain ⟨rfl, rfl, rfl⟩ := hrel
     go_wp2
     go_ret
     exact ⟨by simp, Below.refl _ _⟩
 · have HR : Hid (w.rowIs g 59 (cap * 5) f ∧ ∀ i, i < m * 5 → f i = nuK K i) := ⟨R, hf⟩
   clear R hf
   have hnI : (m : Int) ≤ 1048576 := by omega
   go_enter Try.func45, Try.ntmps45
   go_wp2_with fail
   go_loopw [1, 5] (fun o i wr => ∃ c kk : Nat, c ≤ m ∧ o = .int .i64 (kk : Int) ∧ K + c * 5 = kk ∧ i = .int .i64 c ∧ Below w.heap.size w wr) (fun _ i _ => m - (intOf i).toNat)
   case atStart => exact ⟨0, K, by omega, rfl, by omega, rfl, Below.refl _ _⟩
   case round =>
     obtain ⟨c, kk, hcn, rfl, hkk, rfl, HB⟩ := hrel
     have HKK : Hid (K + c * 5 = kk) := hkk
     have hkI : (kk : Int) ≤ 4300210176 := by omega
     clear hkk
     by_cases hlt : c < m
     · have hcI : (c : Int) < m := by omega
       have RW := rowI_step HR.out.1 (HB.mono (Nat.le_refl _))
       have o0 : wr.cell? ⟨g, c * 5, none⟩ = some (.int .i64 ((kk : Int))) := (RW.cell (i := c * 5) (by omega)).trans (by rw [HR.out.2 _ (by omega)]; unfold nuK; have := HKK.out; congr 2; omega)
       have o1 : wr.cell? ⟨g, c * 5 + 1, none⟩ = some (.int .i64 ((kk : Int) + 1)) := (RW.cell (i := c * 5 + 1) (by omega)).trans (by rw [HR.out.2 _ (by omega)]; unfold nuK; have := HKK.out; congr 2; omega)
       have o2 : wr.cell? ⟨g, c * 5 + 2, none⟩ = some (.int .i64 ((kk : Int) + 1 + 1)) := (RW.cell (i := c * 5 + 2) (by omega)).trans (by rw [HR.out.2 _ (by omega)]; unfold nuK; have := HKK.out; congr 2; omega)
       have o3 : wr.cell? ⟨g, c * 5 + 3, none⟩ = some (.int .i64 ((kk : Int) + 1 + 1 + 1)) := (RW.cell (i := c * 5 + 3) (by omega)).trans (by rw [HR.out.2 _ (by omega)]; unfold nuK; have := HKK.out; congr 2; omega)
       have o4 : wr.cell? ⟨g, c * 5 + 4, none⟩ = some (.int .i64 ((kk : Int) + 1 + 1 + 1 + 1)) := (RW.cell (i := c * 5 + 4) (by omega)).trans (by rw [HR.out.2 _ (by omega)]; unfold nuK; have := HKK.out; congr 2; omega)
       clear RW
       go_wp2
       go_roundw
       case rel => exact ⟨c + 1, kk + 5, by omega, by go_num, by have := HKK.out; omega, by go_num, HB⟩
       case measure => simp [intOf]; omega
     · obtain rfl : c = m := by omega
       go_wp2
       go_ret
       exact ⟨congrArg (fun z : Nat => Ending.returned (.int .i64 (z : Int))) HKK.out.symm, HB⟩
def mkB (K : Nat) (L : Nat → Nat) : Nat → Nat
 | 0 => K
 | c + 1 => mkB K L c + 4 + L c
def flB (k : Nat) : Bool := decide ((k + 3) % 3 = 0)
def bkX (K : Nat) (L : Nat → Nat) (k : Nat) : Value := if k % 5 = 3 then .bool (flB (mkB K L (k / 5))) else .int .i64 ((mkB K L (k / 5) : Int) + ((k % 5 : Nat) : Int))
def bkC (x : Nat → Value) (s : Nat → Value) (k : Nat) : Value := if k % 5 = 4 then s (k / 5) else x k
theorem bkC_at (x s : Nat → Value) (c j : Nat) (hj : j < 4) : bkC x s (c * 5 + j) = x (c * 5 + j) := by unfold bkC; rw [if_neg (by omega)]
theorem bkC_4 (x s : Nat → Value) (c : Nat) : bkC x s (c * 5 + 4) = s c := by unfold bkC; rw [if_pos (by omega), show (c * 5 + 4) / 5 = c by omega]
theorem bkX_at (K : Nat) (L : Nat → Nat) (c j : Nat) (hj : j < 3) : bkX K L (c * 5 + j) = .int .i64 ((mkB K L c : Int) + (j : Int)) := by unfold bkX; rw [if_neg (by omega), show (c * 5 + j) / 5 = c by omega, show (c * 5 + j) % 5 = j by omega]
theorem bkX_3 (K : Nat) (L : Nat → Nat) (c : Nat) : bkX K L (c * 5 + 3) = .bool (flB (mkB K L c)) := by unfold bkX; rw [if_pos (by omega), show (c * 5 + 3) / 5 = c by omega]
theorem mkB_le {K n : Nat} {L : Nat → Nat} (hL : ∀ i, i < n → L i ≤ 1048576) : ∀ c, c ≤ n → mkB K L c ≤ K + c * 1048580
 | 0, _ => by simp [mkB]
 | c + 1, h => by have := mkB_le (K := K) hL c (by omega); have := hL c (by omega); simp only [mkB]; omega
def mqE (K : Nat) (L : Nat → Nat) (i : Nat) : Nat → Value := nuK (mkB K L i + 4)
structure BkN (w : World) (v : Value) (n : Nat) (x s : Nat → Value) (L : Nat → Nat) (E : Nat → Nat → Value) : Prop where
 row : RwN w 55 5 v n (bkC x s)
 ids : ∀ i, i < n → RwN w 2 1 (s i) (L i) (E i)
 d1 : ∀ i b, i < n → (s i).ownBlock = some b → v.ownBlock ≠ some b
 d2 : ∀ i j b, i < n → j < n → i ≠ j → (s i).ownBlock = some b → (s j).ownBlock ≠ some b
def bkN (v : Value) (n : Nat) (s : Nat → Value) (b : Nat) : Prop := v.ownBlock = some b ∨ ∃ i, i < n ∧ (s i).ownBlock = some b
theorem BkN.frm {ok : Nat → Prop} {w w' : World} {v : Value} {n : Nat} {x s : Nat → Value} {L : Nat → Nat} {E : Nat → Nat → Value} (h : BkN w v n x s L E) (hF : Frm ok w w') (hd : ∀ b, bkN v n s b → ¬ ok b) : BkN w' v n x s L E :=
 ⟨h.row.heap (fun b e => hF.block b (h.row.lt e) (hd b (.inl e))), fun i hi => (h.ids i hi).heap (fun b e => hF.block b ((h.ids i hi).lt e) (hd b (.inr ⟨i, hi, e⟩))), h.d1, h.d2⟩
theorem BkN.step {w w' : World} {v : Value} {n : Nat} {x s : Nat → Value} {L : Nat → Nat} {E : Nat → Nat → Value} (h : BkN w v n x s L E) (hB : Below w.heap.size w w') : BkN w' v n x s L E :=
 ⟨h.row.heap (fun b e => hB.block b (h.row.lt e)), fun i hi => (h.ids i hi).heap (fun b e => hB.block b ((h.ids i hi).lt e)), h.d1, h.d2⟩
theorem four_set {w : World} {g n c : Nat} {T : TypeId} {f : Nat → Value} (R : w.rowIs g T n f) (v0 v1 v2 v3 : Value) : ∃ f2, (((((w.setCell ⟨g, c * 5, none⟩ (v0)).setCell ⟨g, c * 5 + 1, none⟩ (v1)).setCell ⟨g, c * 5 + 2, none⟩ (v2)).setCell ⟨g, c * 5 + 3, none⟩ (v3))).rowIs g T n f2 ∧ (∀ i, i < c * 5 → f2 i = f i) ∧ f2 (c * 5) = v0 ∧ f2 (c * 5 + 1) = v1 ∧ f2 (c * 5 + 2) = v2 ∧ f2 (c * 5 + 3) = v3 ∧ ∀ i, c * 5 + 4 ≤ i → f2 i = f i := by
 refine ⟨_, (((R.set (c * 5) v0).set (c * 5 + 1) v1).set (c * 5 + 2) v2).set (c * 5 + 3) v3, fun i hi => ?_, ?_, ?_, ?_, ?_, fun i hi => ?_⟩
 · rw [if_neg (by omega), if_neg (by omega), if_neg (by omega), if_neg (by omega)]
 · rw [if_neg (by omega), if_neg (by omega), if_neg (by omega), if_pos rfl]
 · rw [if_neg (by omega), if_neg (by omega), if_pos rfl]
 · rw [if_neg (by omega), if_pos rfl]
 · rw [if_pos rfl]
 · rw [if_neg (by omega), if_neg (by omega), if_neg (by omega), if_neg (by omega)]
theorem grown_four {w : World} {g c : Nat} (v0 v1 v2 v3 : Value) : w.grownBy ((((w.setCell ⟨g, c * 5, none⟩ (v0)).setCell ⟨g, c * 5 + 1, none⟩ (v1)).setCell ⟨g, c * 5 + 2, none⟩ (v2)).setCell ⟨g, c * 5 + 3, none⟩ (v3)) (some g) :=
 grown_trans (grown_trans (grown_trans (grown_set (Below.refl _ _) _ v0) (grown_set (Below.refl _ _) _ v1)) (grown_set (Below.refl _ _) _ v2)) (grown_set (Below.refl _ _) _ v3)
theorem flB_val (k : Nat) : ((((k : Int) + 1 + 1 + 1).tmod 3) == 0) = flB k := by
 unfold flB
 rw [Int.tmod_eq_emod_of_nonneg (by omega)]
 by_cases h : (k + 3) % 3 = 0
 · rw [decide_eq_true h, beq_iff_eq]; omega
 · rw [decide_eq_false h]
   exact Bool.eq_false_iff.2 (fun e => h (by have := beq_iff_eq.1 e; omega))
theorem Frm.grownO {ok : Nat → Prop} {w w1 w2 : World} {row : Option Nat} (h : Frm ok w w1) (hg : w1.grownBy w2 row) (hp : ∀ b, row = some b → ok b) : Frm ok w w2 :=
 ⟨hg.os.trans h.os, hg.tape.trans h.tape, hg.output.trans h.output, Nat.le_trans h.size hg.size, fun b hb hn => (hg.block b (Nat.lt_of_lt_of_le hb h.size) (fun e => hn (hp b e.symm))).trans (h.block b hb hn)⟩
set_option maxRecDepth 100000 in
set_option maxHeartbeats 16000000 in
theorem markBlQ_any (v : Value) (n K : Nat) (x s : Nat → Value) (L : Nat → Nat) (E : Nat → Nat → Value) (hn : n ≤ 1048576) (hL : ∀ i, i < n → L i ≤ 1048576) (hK : K ≤ 4300210176) (w : World) (hO : BkN w v n x s L E) : Calls Try.prog 44 #[v, .int .i64 (K : Int)] w (fun r w' => r = .returned (.int .i64 (mkB K L n : Int)) ∧ BkN w' v n (bkX K L) s L (mqE K L) ∧ Frm (bkN v n s) w w') := by
 have hKI : (K : Int) ≤ 4300210176 := by omega
 obtain ⟨hrow, hN, d1, d2⟩ := hO
 rcases hrow with ⟨rfl, rfl⟩ | ⟨g, cap, f, rfl, hc, R, hf⟩
 · clear hN d1 d2
   go_enter Try.func44, Try.ntmps44
   go_wp2_with fail
   go_loopw [1, 5] (fun o i wr => o = .int .i64 (K : Int) ∧ i = .int .i64 0 ∧ wr = w) (fun _ i _ => 0)
   case atStart => exact ⟨rfl, rfl, rfl⟩
   case round =>
     obtain ⟨rfl, rfl, rfl⟩ := hrel
     go_wp2
     go_ret
     exact ⟨rfl, ⟨.inl ⟨rfl, rfl⟩, fun i hi => absurd hi (by omega), fun i b hi => absurd hi (by omega), fun i j b hi => absurd hi (by omega)⟩, Frm.refl _ _⟩
 have HR : Hid (w.rowIs g 55 (cap * 5) f ∧ (∀ k, k < n * 5 → f k = bkC x s k) ∧ (∀ i, i < n → RwN w 2 1 (s i) (L i) (E i))) := ⟨R, hf, hN⟩
 have HD : Hid ((∀ i b, i < n → (s i).ownBlock = some b → g ≠ b) ∧ ∀ i j b, i < n → j < n → i ≠ j → (s i).ownBlock = some b → (s j).ownBlock ≠ some b) := ⟨fun i b hi e e2 => d1 i b hi e (by rw [e2]; rfl), d2⟩
 have HL : Hid (∀ i, i < n → L i ≤ 1048576) := hL
 have HK : Hid (∀ c, c ≤ n → mkB K L c ≤ 1103816294400) := fun c hc => by have := mkB_le (K := K) hL c hc; have : c * 1048580 ≤ 1048576 * 1048580 := Nat.mul_le_mul_right _ (by omega); omega
 clear R hf hN d1 d2 hL
 have hnI : (n : Int) ≤ 1048576 := by omega
 go_enter Try.func44, Try.ntmps44
 go_wp2_with fail
 go_loopw [1, 5] (fun o i wr => ∃ (c : Nat) (f : Nat → Value), c ≤ n ∧ o = .int .i64 (mkB K L c : Int) ∧ i = .int .i64 c ∧ wr.rowIs g 55 (cap * 5) f ∧ (∀ k, k < c * 5 → f k = bkC (bkX K L) s k) ∧ (∀ k, c * 5 ≤ k → k < n * 5 → f k = bkC x s k) ∧ (∀ i, i < c → RwN wr 2 1 (s i) (L i) (mqE K L i)) ∧ (∀ i, c ≤ i → i < n → RwN wr 2 1 (s i) (L i) (E i)) ∧ Frm (bkN (.slice (some ⟨g, 0, none⟩) n cap) n s) w wr) (fun _ i _ => n - (intOf i).toNat)
 case atStart => exact ⟨0, f, by omega, rfl, rfl, HR.out.1, fun k hk => absurd hk (by omega), fun k _ hk => HR.out.2.1 k hk, fun i hi => absurd hi (by omega), fun i _ hi => HR.out.2.2 i hi, Frm.refl _ _⟩
 case round =>
   obtain ⟨c, f', hcn, rfl, rfl, R, hd, hd2, hA, hB, HF⟩ := hrel
   have HDD : Hid ((∀ k, k < c * 5 → f' k = bkC (bkX K L) s k) ∧ ∀ k, c * 5 ≤ k → k < n * 5 → f' k = bkC x s k) := ⟨hd, hd2⟩
   have HAB : Hid ((∀ i, i < c → RwN wr 2 1 (s i) (L i) (mqE K L i)) ∧ ∀ i, c ≤ i → i < n → RwN wr 2 1 (s i) (L i) (E i)) := ⟨hA, hB⟩
   have hkb := HK.out c hcn
   obtain ⟨kk, hkk⟩ : ∃ kk, mkB K L c = kk := ⟨_, rfl⟩
   have HKK : Hid (mkB K L c = kk) := hkk
   rw [hkk] at hkb ⊢
   have hkI : (kk : Int) ≤ 1103816294400 := by omega
   clear hkk hd hd2 hA hB
   by_cases hlt : c < n
   · have hcI : (c : Int) < n := by omega
     obtain ⟨so, sc, hs⟩ := (HAB.out.2 c (Nat.le_refl _) hlt).slice
     have HSC : Hid (s c = .slice so (L c) sc) := hs
     have o0 := R.cell (i := c * 5) (by omega); have f0 := R.frozen (c * 5); have o1 := R.cell (i := c * 5 + 1) (by omega); have f1 := R.frozen (c * 5 + 1); have o2 := R.cell (i := c * 5 + 2) (by omega); have f2 := R.frozen (c * 5 + 2); have o3 := R.cell (i := c * 5 + 3) (by omega); have f3 := R.frozen (c * 5 + 3)
     have o4 : wr.cell? ⟨g, c * 5 + 4, none⟩ = some (.slice so (L c) sc) := (R.cell (i := c * 5 + 4) (by omega)).trans (by rw [HDD.out.2 _ (by omega) (by omega), bkC_4, hs])
     obtain ⟨tm, htm⟩ : ∃ tm : Int, ((kk : Int) + 1 + 1 + 1).tmod 3 = tm := ⟨_, rfl⟩
     have hfl : (tm == 0) = flB kk := by rw [← htm]; exact flB_val kk
     have hF4 := four_set (c := c) R (.int .i64 ((kk : Int))) (.int .i64 ((kk : Int) + 1)) (.int .i64 ((kk : Int) + 1 + 1)) (.bool (flB kk))
     have HG4 : wr.grownBy ((((wr.setCell ⟨g, c * 5, none⟩ (.int .i64 ((kk : Int)))).setCell ⟨g, c * 5 + 1, none⟩ (.int .i64 ((kk : Int) + 1))).setCell ⟨g, c * 5 + 2, none⟩ (.int .i64 ((kk : Int) + 1 + 1))).setCell ⟨g, c * 5 + 3, none⟩ (.bool (flB kk))) (some g) := grown_four _ _ _ _
     have hLc := HL.out c hlt
     have NC : RwN ((((wr.setCell ⟨g, c * 5, none⟩ (.int .i64 ((kk : Int)))).setCell ⟨g, c * 5 + 1, none⟩ (.int .i64 ((kk : Int) + 1))).setCell ⟨g, c * 5 + 2, none⟩ (.int .i64 ((kk : Int) + 1 + 1))).setCell ⟨g, c * 5 + 3, none⟩ (.bool (flB kk))) 2 1 (.slice so (L c) sc) (L c) (E c) := by
       have h := HAB.out.2 c (Nat.le_refl _) hlt
       rw [hs] at h
       exact h.heap (fun b e => HG4.block b (h.lt e) (fun e2 => HD.out.1 c b hlt (by rw [hs]; exact e) (Option.some.inj e2).symm))
     have CM := markNoQ_any (.slice so (L c) sc) (L c) (kk + 4) (E c) hLc (by omega) _ NC
     rw [show ((kk + 4 : Nat) : Int) = (kk : Int) + 1 + 1 + 1 + 1 by omega] at CM
     clear NC hs
     go_wp2_with fail
     refine CM.mono ?_
     rintro r w1 ⟨rfl, hN1, hV⟩
     obtain ⟨f2, r0, r1, r2, r3, r4, r5, r6⟩ := hF4
     have hgl := r0.lt
     generalize ((((wr.setCell ⟨g, c * 5, none⟩ (.int .i64 ((kk : Int)))).setCell ⟨g, c * 5 + 1, none⟩ (.int .i64 ((kk : Int) + 1))).setCell ⟨g, c * 5 + 2, none⟩ (.int .i64 ((kk : Int) + 1 + 1))).setCell ⟨g, c * 5 + 3, none⟩ (.bool (flB kk))) = W4 at *
     have hgo : ∀ b, b < wr.heap.size → b ≠ g → (s c).ownBlock ≠ some b → w1.heap[b]? = wr.heap[b]? := fun b hb hne hns => (hV.block b (Nat.lt_of_lt_of_le hb HG4.size) (fun e => hns (by rw [HSC.out]; exact e.symm))).trans (HG4.block b hb (fun e => hne (Option.some.inj e)))
     have HFN : Hid (∃ f3, w1.rowIs g 55 (cap * 5) f3 ∧ (∀ k, k < (c + 1) * 5 → f3 k = bkC (bkX K L) s k) ∧ ∀ k, (c + 1) * 5 ≤ k → k < n * 5 → f3 k = bkC x s k) := by
       have hk9 := HKK.out
       refine ⟨f2, r0.of_block (hV.block g hgl (fun e => HD.out.1 c g hlt (by rw [HSC.out]; exact e.symm) rfl)), fun k hk => ?_, fun k hk hn2 => ?_⟩
       · rcases (show k < c * 5 ∨ k = c * 5 ∨ k = c * 5 + 1 ∨ k = c * 5 + 2 ∨ k = c * 5 + 3 ∨ k = c * 5 + 4 by omega) with e | e | e | e | e | e
         · rw [r1 k e]; exact HDD.out.1 k e
         · subst e; rw [r2, show c * 5 = c * 5 + 0 from rfl, bkC_at _ _ _ 0 (by omega), bkX_at _ _ _ 0 (by omega), hk9]; congr 2
         · subst e; rw [r3, bkC_at _ _ _ 1 (by omega), bkX_at _ _ _ 1 (by omega), hk9]; congr 2
         · subst e; rw [r4, bkC_at _ _ _ 2 (by omega), bkX_at _ _ _ 2 (by omega), hk9]; congr 1
         · subst e; rw [r5, bkC_at _ _ _ 3 (by omega), bkX_3, hk9]
         · subst e; rw [r6 _ (by omega), HDD.out.2 _ (by omega) (by omega), bkC_4, bkC_4]
       · rw [r6 k (by omega)]; exact HDD.out.2 k (by omega) hn2
     have HA2 : Hid (∀ i, i < c + 1 → RwN w1 2 1 (s i) (L i) (mqE K L i)) := fun i hi => by
       by_cases e : i = c
       · subst e
         rw [HSC.out]
         unfold mqE
         rw [HKK.out]
         refine hN1.congr (fun k _ => ?_)
         unfold nuK
         congr 1
       · have p := HAB.out.1 i (by omega)
         exact p.heap fun b hb => hgo b (p.lt hb) (fun e3 => HD.out.1 i b (by omega) hb e3.symm) (HD.out.2 i c b (by omega) hlt e hb)
     have HB2 : Hid (∀ i, c + 1 ≤ i → i < n → RwN w1 2 1 (s i) (L i) (E i)) := fun i hi hi2 => by
       have p := HAB.out.2 i (by omega) hi2
       exact p.heap fun b hb => hgo b (p.lt hb) (fun e3 => HD.out.1 i b hi2 hb e3.symm) (HD.out.2 i c b hi2 hlt (by omega) hb)
     have KN : Frm (bkN (.slice (some ⟨g, 0, none⟩) n cap) n s) w w1 := (HF.grownO HG4 (fun b e => .inl e)).grownO hV (fun b e => .inr ⟨c, hlt, by rw [HSC.out]; exact e⟩)
     have HKN : Hid ((kk : Int) + 1 + 1 + 1 + 1 + (L c : Int) = (mkB K L (c + 1) : Int)) := by
       have := HKK.out
       show _ = ((mkB K L c + 4 + L c : Nat) : Int)
       omega
     have hLI : (L c : Int) ≤ 1048576 := by omega
     clear CM hN1 hV HG4 HF hgo r0 r1 r2 r3 r4 r5 r6 o0 o1 o2 o3 o4 R HAB HDD
     go_wp2
     go_roundw
     case rel =>
       obtain ⟨f3, p1, p2, p3⟩ := HFN.out
       exact ⟨c + 1, f3, by omega, congrArg (Value.int .i64) HKN.out, by go_num, p1, p2, p3, HA2.out, HB2.out, KN⟩
     case measure => simp [intOf]; omega
   · obtain rfl : c = n := by omega
     have HE : Hid (BkN wr (.slice (some ⟨g, 0, none⟩) c cap) c (bkX K L) s L (mqE K L)) := ⟨.inr ⟨g, cap, f', rfl, hc, R, HDD.out.1⟩, HAB.out.1, fun i b hi e e2 => HD.out.1 i b hi e (Option.some.inj e2), HD.out.2⟩
     clear HAB HDD R
     go_wp2
     go_ret
     exact ⟨congrArg (fun z : Nat => Ending.returned (.int .i64 (z : Int))) HKK.out.symm, HE.out, HF⟩
set_option maxRecDepth 100000 in
set_option maxHeartbeats 16000000 in
theorem heldBlQ_any (v : Value) (n K : Nat) (s : Nat → Value) (L : Nat → Nat) (hn : n ≤ 1048576) (hL : ∀ i, i < n → L i ≤ 1048576) (hK : K ≤ 4300210176) (w : World) (hO : BkN w v n (bkX K L) s L (mqE K L)) : Calls Try.prog 46 #[v, .int .i64 (K : Int)] w (VP (.int .i64 (mkB K L n : Int)) w) := by
 have hKI : (K : Int) ≤ 4300210176 := by omega
 obtain ⟨hrow, hN, d1, d2⟩ := hO
 rcases hrow with ⟨rfl, rfl⟩ | ⟨g, cap, f, rfl, hc, R, hf⟩
 · clear hN d1 d2
   go_enter Try.func46, Try.ntmps46
   go_wp2_with fail
   go_loopw [1, 5] (fun o i wr => o = .int .i64 (K : Int) ∧ i = .int .i64 0 ∧ wr = w) (fun _ i _ => 0)
   case atStart => exact ⟨rfl, rfl, rfl⟩
   case round =>
     obtain ⟨rfl, rfl, rfl⟩ := hrel
     go_wp2
     go_ret
     exact ⟨rfl, Below.refl _ _⟩
 have HR : Hid (w.rowIs g 55 (cap * 5) f ∧ (∀ k, k < n * 5 → f k = bkC (bkX K L) s k) ∧ (∀ i, i < n → RwN w 2 1 (s i) (L i) (mqE K L i))) := ⟨R, hf, hN⟩
 have HL : Hid (∀ i, i < n → L i ≤ 1048576) := hL
 have HK : Hid (∀ c, c ≤ n → mkB K L c ≤ 1103816294400) := fun c hc => by have := mkB_le (K := K) hL c hc; have : c * 1048580 ≤ 1048576 * 1048580 := Nat.mul_le_mul_right _ (by omega); omega
 clear R hf hN d1 d2 hL
 have hnI : (n : Int) ≤ 1048576 := by omega
 go_enter Try.func46, Try.ntmps46
 go_wp2_with fail
 go_loopw [1, 5] (fun o i wr => ∃ c : Nat, c ≤ n ∧ o = .int .i64 (mkB K L c : Int) ∧ i = .int .i64 c ∧ Below w.heap.size w wr) (fun _ i _ => n - (intOf i).toNat)
 case atStart => exact ⟨0, by omega, rfl, rfl, Below.refl _ _⟩
 case round =>
   obtain ⟨c, hcn, rfl, rfl, HB⟩ := hrel
   have hkb := HK.out c hcn
   obtain ⟨kk, hkk⟩ : ∃ kk, mkB K L c = kk := ⟨_, rfl⟩
   have HKK : Hid (mkB K L c = kk) := hkk
   rw [hkk] at hkb ⊢
   have hkI : (kk : Int) ≤ 1103816294400 := by omega
   clear hkk
   by_cases hlt : c < n
   · have hcI : (c : Int) < n := by omega
     obtain ⟨so, sc, hs⟩ := (HR.out.2.2 c hlt).slice
     have RW := rowI_step HR.out.1 (HB.mono (Nat.le_refl _))
     have NI : RwN wr 2 1 (.slice so (L c) sc) (L c) (nuK (kk + 4)) := by
       have h := HR.out.2.2 c hlt
       have h2 := h.heap (w' := wr) (fun b e => HB.block b (h.lt e))
       unfold mqE at h2
       rw [hs, HKK.out] at h2
       exact h2
     have hk9 := HKK.out
     have o0 : wr.cell? ⟨g, c * 5, none⟩ = some (.int .i64 ((kk : Int))) := (RW.cell (i := c * 5) (by omega)).trans (by rw [HR.out.2.1 _ (by omega), show c * 5 = c * 5 + 0 from rfl, bkC_at _ _ _ 0 (by omega), bkX_at _ _ _ 0 (by omega), hk9]; congr 2)
     have o1 : wr.cell? ⟨g, c * 5 + 1, none⟩ = some (.int .i64 ((kk : Int) + 1)) := (RW.cell (i := c * 5 + 1) (by omega)).trans (by rw [HR.out.2.1 _ (by omega), show c * 5 + 1 = c * 5 + 1 from rfl, bkC_at _ _ _ 1 (by omega), bkX_at _ _ _ 1 (by omega), hk9]; congr 2)
     have o2 : wr.cell? ⟨g, c * 5 + 2, none⟩ = some (.int .i64 ((kk : Int) + 1 + 1)) := (RW.cell (i := c * 5 + 2) (by omega)).trans (by rw [HR.out.2.1 _ (by omega), show c * 5 + 2 = c * 5 + 2 from rfl, bkC_at _ _ _ 2 (by omega), bkX_at _ _ _ 2 (by omega), hk9]; congr 2)
     have o3 : wr.cell? ⟨g, c * 5 + 3, none⟩ = some (.bool (flB kk)) := (RW.cell (i := c * 5 + 3) (by omega)).trans (by rw [HR.out.2.1 _ (by omega), bkC_at _ _ _ 3 (by omega), bkX_3, hk9])
     have o4 : wr.cell? ⟨g, c * 5 + 4, none⟩ = some (.slice so (L c) sc) := (RW.cell (i := c * 5 + 4) (by omega)).trans (by rw [HR.out.2.1 _ (by omega), bkC_4, hs])
     obtain ⟨tm, htm⟩ : ∃ tm : Int, ((kk : Int) + 1 + 1 + 1).tmod 3 = tm := ⟨_, rfl⟩
     have hfl : (tm == 0) = flB kk := by rw [← htm]; exact flB_val kk
     generalize flB kk = fl at hfl o3
     have CM := heldNoQ_any (.slice so (L c) sc) (L c) (kk + 4) (HL.out c hlt) (by omega) wr NI
     rw [show ((kk + 4 : Nat) : Int) = (kk : Int) + 1 + 1 + 1 + 1 by omega] at CM
     have HKN : Hid ((kk : Int) + 1 + 1 + 1 + 1 + (L c : Int) = (mkB K L (c + 1) : Int)) := by
       show _ = ((mkB K L c + 4 + L c : Nat) : Int)
       omega
     have hLI : (L c : Int) ≤ 1048576 := by have := HL.out c hlt; omega
     clear NI hs RW hk9
     go_wp2_with fail
     refine CM.mono ?_
     rintro r w1 ⟨rfl, hV⟩
     replace HB := HB.trans (hV.mono HB.size)
     clear CM hV o0 o1 o2 o3 o4
     go_wp2
     go_roundw
     case rel => exact ⟨c + 1, by omega, congrArg (Value.int .i64) HKN.out, by go_num, HB⟩
     case measure => simp [intOf]; omega
   · obtain rfl : c = n := by omega
     go_wp2
     go_ret
     exact ⟨congrArg (fun z : Nat => Ending.returned (.int .i64 (z : Int))) HKK.out.symm, HB⟩
structure QuN (w : World) (iv bv : Value) (n N : Nat) (ci x s : Nat → Value) (L : Nat → Nat) (E : Nat → Nat → Value) : Prop where
 its : RwN w 59 5 iv n ci
 bls : BkN w bv N x s L E
 d : ∀ b, iv.ownBlock = some b → ¬ bkN bv N s b
def quN (iv bv : Value) (N : Nat) (s : Nat → Value) (b : Nat) : Prop := iv.ownBlock = some b ∨ bkN bv N s b
theorem QuN.step {w w' : World} {iv bv : Value} {n N : Nat} {ci x s : Nat → Value} {L : Nat → Nat} {E : Nat → Nat → Value} (h : QuN w iv bv n N ci x s L E) (hB : Below w.heap.size w w') : QuN w' iv bv n N ci x s L E :=
 ⟨h.its.heap (fun b e => hB.block b (h.its.lt e)), h.bls.step hB, h.d⟩
theorem Frm.mono {ok ok' : Nat → Prop} {w w' : World} (h : Frm ok w w') (ho : ∀ b, ok b → ok' b) : Frm ok' w w' := ⟨h.os, h.tape, h.output, h.size, fun b hb hn => h.block b hb (fun e => hn (ho b e))⟩
theorem Frm.andThen {ok : Nat → Prop} {w w1 w2 : World} (h : Frm ok w w1) (k : Frm ok w1 w2) : Frm ok w w2 :=
 ⟨k.os.trans h.os, k.tape.trans h.tape, k.output.trans h.output, Nat.le_trans h.size k.size, fun b hb hn => (k.block b (Nat.lt_of_lt_of_le hb h.size) hn).trans (h.block b hb hn)⟩
theorem Frm.of {ok : Nat → Prop} {w w' : World} (h : Below w.heap.size w w') : Frm ok w w' := ⟨h.os, h.tape, h.output, h.size, fun b hb _ => h.block b hb⟩
set_option maxRecDepth 100000 in
set_option maxHeartbeats 4000000 in
theorem markQu_any (io bo : Option Addr) (ic bc n N : Nat) (m d : Int) (ci x s : Nat → Value) (L : Nat → Nat) (E : Nat → Nat → Value) (hn : n ≤ 1048576) (hN : N ≤ 1048576) (hL : ∀ i, i < N → L i ≤ 1048576) (w : World) (hO : QuN w (.slice io n ic) (.slice bo N bc) n N ci x s L E) : Calls Try.prog 13 #[.agg #[.int .i64 m, .int .i64 d, .slice io n ic, .slice bo N bc], .int .i64 1] w (fun r w' => r = .returned (.int .i64 (mkB (1 + n * 5) L N : Int)) ∧ QuN w' (.slice io n ic) (.slice bo N bc) n N (nuK 1) (bkX (1 + n * 5) L) s L (mqE (1 + n * 5) L) ∧ Frm (quN (.slice io n ic) (.slice bo N bc) N s) w w') := by
 have B0 : Blk (w.alloc (.cells #[.int .i64 m, .int .i64 d, .slice io n ic, .slice bo N bc] 34)) w.heap.size [.int .i64 m, .int .i64 d, .slice io n ic, .slice bo N bc] := Blk.new w [.int .i64 m, .int .i64 d, .slice io n ic, .slice bo N bc] 34 rfl
 have HB : Below w.heap.size w (w.alloc (.cells #[.int .i64 m, .int .i64 d, .slice io n ic, .slice bo N bc] 34)) := (Below.refl _ w).alloc (Nat.le_refl _) _
 have hlt : ∀ b, quN (.slice io n ic) (.slice bo N bc) N s b → b < w.heap.size := fun b hb => by
   rcases hb with h | h | ⟨i, hi, h⟩
   · exact hO.its.lt h
   · exact hO.bls.row.lt h
   · exact (hO.bls.ids i hi).lt h
 have hO1 := hO.step HB
 have hdd := hO.d
 clear hO
 go_enter Try.func13, Try.ntmps13
 go_upto_region 1 with fail
 generalize (w.alloc (.cells #[.int .i64 m, .int .i64 d, .slice io n ic, .slice bo N bc] 34)) = W1 at *
 have C1 := markItQ_any (.slice io n ic) n 1 ci hn (by omega) W1 hO1.its
 have c2 := B0.c 2 rfl
 go_wp2_with fail
 refine C1.mono ?_
 rintro r w1 ⟨rfl, hI, hG⟩
 clear C1 c2
 have hF1 : Frm (quN (.slice io n ic) (.slice bo N bc) N s) W1 w1 := (Frm.refl _ _).grownO hG (fun b e => .inl e)
 have B1 := B0.grown hG (fun e => absurd (hlt _ (.inl e.symm)) (by omega))
 have hBl : BkN w1 (.slice bo N bc) N x s L E := hO1.bls.frm ((Frm.refl (fun b => (Value.slice io n ic).ownBlock = some b) _).grownO hG (fun b e => e)) (fun b hb e => hdd b e hb)
 have C2 := markBlQ_any (.slice bo N bc) N (1 + n * 5) x s L E hN hL (by omega) w1 hBl
 have c3 := B1.c 3 rfl
 obtain ⟨k1, hk1⟩ : ∃ k1, 1 + n * 5 = k1 := ⟨_, rfl⟩
 have HK1 : Hid (1 + n * 5 = k1) := hk1
 rw [hk1] at C2 ⊢
 clear hG hO1 hBl B0 hk1
 go_wp2_with fail
 refine C2.mono ?_
 rintro r w2 ⟨rfl, hBl, hF2⟩
 have hF := hF1.andThen (hF2.mono (fun b e => .inr e))
 have hI2 := hI.heap (w' := w2) (fun b e => hF2.block b (hI.lt e) (hdd b e))
 have hFF : Frm (quN (.slice io n ic) (.slice bo N bc) N s) w w2 := (Frm.of HB).andThen hF
 obtain ⟨kz, hkz⟩ : ∃ kz, mkB k1 L N = kz := ⟨_, rfl⟩
 have HKZ : Hid (mkB k1 L N = kz) := hkz
 rw [hkz]
 clear hkz
 clear C2 c3 hF1 hF2 hF hI B1
 go_wp2
 go_ret
 exact ⟨by show Ending.returned (.int .i64 (kz : Int)) = _; rw [HK1.out, HKZ.out], ⟨hI2, by rw [HK1.out]; exact hBl, hdd⟩, hFF⟩
set_option maxRecDepth 100000 in
set_option maxHeartbeats 4000000 in
theorem heldQu_any (io bo : Option Addr) (ic bc n N : Nat) (m d : Int) (s : Nat → Value) (L : Nat → Nat) (hn : n ≤ 1048576) (hN : N ≤ 1048576) (hL : ∀ i, i < N → L i ≤ 1048576) (w : World) (hO : QuN w (.slice io n ic) (.slice bo N bc) n N (nuK 1) (bkX (1 + n * 5) L) s L (mqE (1 + n * 5) L)) : Calls Try.prog 14 #[.agg #[.int .i64 m, .int .i64 d, .slice io n ic, .slice bo N bc], .int .i64 1] w (VP (.int .i64 (mkB (1 + n * 5) L N : Int)) w) := by
 have B0 : Blk (w.alloc (.cells #[.int .i64 m, .int .i64 d, .slice io n ic, .slice bo N bc] 34)) w.heap.size [.int .i64 m, .int .i64 d, .slice io n ic, .slice bo N bc] := Blk.new w [.int .i64 m, .int .i64 d, .slice io n ic, .slice bo N bc] 34 rfl
 have HB : Below w.heap.size w (w.alloc (.cells #[.int .i64 m, .int .i64 d, .slice io n ic, .slice bo N bc] 34)) := (Below.refl _ w).alloc (Nat.le_refl _) _
 have hO1 := hO.step HB
 clear hO
 go_enter Try.func14, Try.ntmps14
 go_upto_region 1 with fail
 generalize (w.alloc (.cells #[.int .i64 m, .int .i64 d, .slice io n ic, .slice bo N bc] 34)) = W1 at *
 have C1 := heldItQ_any (.slice io n ic) n 1 hn (by omega) W1 hO1.its
 have c2 := B0.c 2 rfl
 go_wp2_with fail
 refine C1.mono ?_
 rintro r w1 ⟨rfl, hB1⟩
 clear C1 c2
 replace B0 := B0.step hB1
 replace HB := HB.trans (hB1.mono HB.size)
 have C2 := heldBlQ_any (.slice bo N bc) N (1 + n * 5) s L hN hL (by omega) w1 (hO1.bls.step hB1)
 have c3 := B0.c 3 rfl
 obtain ⟨k1, hk1⟩ : ∃ k1, 1 + n * 5 = k1 := ⟨_, rfl⟩
 have HK1 : Hid (1 + n * 5 = k1) := hk1
 rw [hk1] at C2 ⊢
 clear hB1 hO1 hk1
 go_wp2_with fail
 refine C2.mono ?_
 rintro r w2 ⟨rfl, hB2⟩
 replace HB := HB.trans (hB2.mono HB.size)
 obtain ⟨kz, hkz⟩ : ∃ kz, mkB k1 L N = kz := ⟨_, rfl⟩
 have HKZ : Hid (mkB k1 L N = kz) := hkz
 rw [hkz]
 clear hkz
 clear C2 c3 hB2 B0
 go_wp2
 go_ret
 exact ⟨by show Ending.returned (.int .i64 (kz : Int)) = _; rw [HK1.out, HKZ.out], HB⟩
end Go.Proofs.Ytjhapeidafbncaa
