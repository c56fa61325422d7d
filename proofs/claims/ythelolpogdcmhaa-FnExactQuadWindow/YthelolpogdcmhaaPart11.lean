/- Part 11 of the walks that the proof leans on. -/
import Derived.Test.YthelolpogdcmhaaPart10
import Derived.Test.YthelolpogdcmhaaPart8
import Derived.Test.YthelolpogdcmhaaPart9
import Derived.Test.YthelolpogdcmhaaPart7
import Derived.Test.YthelolpogdcmhaaPart2
import Derived.Test.YthelolpogdcmhaaPart6
namespace Go.Proofs.Ythelolpogdcmhaa
open Go.RowKit
theorem qOk_item {Q : QD} {m d : Int} {c : Nat} (hc : c < Q.m) (h : itB Q c = false) : qOk Q m d = false := by
 unfold qOk
 rw [show itsB Q = false from decide_eq_false (fun k => by have := k.2 c hc; rw [h] at this; cases this)]
 simp
theorem mrd_kids {Q : QD} {d at_ : Nat} {x y s : Int} {e : Nat} (h : mrd Q (d + 1) at_ x y s = some e) (hT : Q.T at_ = true) : Q.L at_ = 0 ∧ ∀ k, k < 4 → ∃ a b, kp (fun a x y => mrd Q d a x y (s / 2)) (at_ + 1) x y (s / 2) k = some a ∧ mrd Q d a (kX x (s / 2) k) (kY y (s / 2) k) (s / 2) = some b := by
 have hb : baseB Q at_ x y s = true := by
   cases hb : baseB Q at_ x y s with
   | true => rfl
   | false => rw [mrd_no hb] at h; cases h
 have hL : Q.L at_ = 0 := by
   apply Classical.byContradiction
   intro hL
   rw [mrd_full hT hL] at h
   cases h
 refine ⟨hL, ?_⟩
 rw [mrd_split hb hT hL] at h
 have step : ∀ k b, kp (fun a x y => mrd Q d a x y (s / 2)) (at_ + 1) x y (s / 2) (k + 1) = some b → ∃ a, kp (fun a x y => mrd Q d a x y (s / 2)) (at_ + 1) x y (s / 2) k = some a ∧ mrd Q d a (kX x (s / 2) k) (kY y (s / 2) k) (s / 2) = some b := fun k b hk => Option.bind_eq_some_iff.1 hk
 obtain ⟨a3, h3, g3⟩ := step 3 e h
 obtain ⟨a2, h2, g2⟩ := step 2 a3 h3
 obtain ⟨a1, h1, g1⟩ := step 1 a2 h2
 obtain ⟨a0, h0, g0⟩ := step 0 a1 h1
 intro k hk
 rcases (show k = 0 ∨ k = 1 ∨ k = 2 ∨ k = 3 by omega) with h | h | h | h <;> subst h
 · exact ⟨_, _, h0, g0⟩
 · exact ⟨_, _, h1, g1⟩
 · exact ⟨_, _, h2, g2⟩
 · exact ⟨_, _, h3, g3⟩
theorem lenT_tr {Q : QD} (hL : ∀ i, i < Q.N → Q.L i ≤ 1048576) : ∀ {d at_ : Nat} {x y s : Int} {e : Nat}, mrd Q d at_ x y s = some e → lenT (trQ Q d at_ x y s)
 | d, at_, x, y, s, e, h => by
   have hle := mrd_le h
   cases hT : Q.T at_ with
   | false =>
     rw [trQ_leaf hT]
     show (blL Q at_).length ≤ 1048576
     rw [blL_len]
     exact hL at_ (by omega)
   | true =>
     cases d with
     | zero => rw [mrd_zero hT] at h; cases h
     | succ d =>
       unfold trQ
       rw [if_pos hT]
       intro k hk
       obtain ⟨a, b, h1, h2⟩ := (mrd_kids h hT).2 k hk
       dsimp only
       rw [h1]
       exact lenT_tr hL h2
def RtP (Q : QD) (m d : Int) (w : World) (r : Ending) (w' : World) : Prop :=
 Below w.heap.size w w' ∧ ((qOk Q m d = false ∧ r = .returned (.tuple #[.agg #[.int .i64 0, .int .i64 0, .int .i64 0, .slice none 0 0, .slice none 0 0], .bool false])) ∨ (qOk Q m d = true ∧ ∃ kv ev, r = .returned (.tuple #[.agg #[.int .i64 (-1048576), .int .i64 (-1048576), .int .i64 2097152, kv, ev], .bool true]) ∧ MTr (fun b => w.heap.size ≤ b) w' (trQ Q d.toNat 0 (-1048576) (-1048576) 2097152) (-1048576) (-1048576) 2097152 kv ev))
theorem root_sq : Sq (-1048576) (-1048576) 2097152 := ⟨by omega, by omega, by omega, by omega, by omega⟩
set_option maxRecDepth 100000 in
set_option maxHeartbeats 16000000 in
theorem l13Root_any (w : World) (Q : QD) (ao bo : Option Addr) (cap bcap A off : Nat) (so : Nat → Option Addr × Nat) (m d : Int) (hm : Q.m ≤ 1048576) (hN : Q.N ≤ 1048576) (hL : ∀ i, i < Q.N → Q.L i ≤ 1048576) (hbo : 0 < Q.N → bo = some ⟨A, off, none⟩) (hso : ∀ i, i < Q.N → (so i).1 = none → (so i).2 = 0) (hS : ItIn Q w ao (List.range Q.m)) (hBl : BlIn Q w A off so) : Calls Try.prog 16 #[.agg #[.int .i64 m, .int .i64 d, .slice ao Q.m cap, .slice bo Q.N bcap]] w (RtP Q m d w) := by
 have BP : Blk ((w.alloc (.cells #[.int .i64 m, .int .i64 d, .slice ao Q.m cap, .slice bo Q.N bcap] 35)).alloc (.cells #[.int .i64 0, .int .i64 0, .int .i64 0, .slice none 0 0, .slice none 0 0] 48)) w.heap.size [.int .i64 m, .int .i64 d, .slice ao Q.m cap, .slice bo Q.N bcap] := (Blk.new w [.int .i64 m, .int .i64 d, .slice ao Q.m cap, .slice bo Q.N bcap] 35 rfl).alloc _
 have BR : Blk ((w.alloc (.cells #[.int .i64 m, .int .i64 d, .slice ao Q.m cap, .slice bo Q.N bcap] 35)).alloc (.cells #[.int .i64 0, .int .i64 0, .int .i64 0, .slice none 0 0, .slice none 0 0] 48)) (w.heap.size + 1) [.int .i64 0, .int .i64 0, .int .i64 0, .slice none 0 0, .slice none 0 0] := Blk.new (w.alloc (.cells #[.int .i64 m, .int .i64 d, .slice ao Q.m cap, .slice bo Q.N bcap] 35)) [.int .i64 0, .int .i64 0, .int .i64 0, .slice none 0 0, .slice none 0 0] 48 (by simp)
 have HB : Below w.heap.size w ((w.alloc (.cells #[.int .i64 m, .int .i64 d, .slice ao Q.m cap, .slice bo Q.N bcap] 35)).alloc (.cells #[.int .i64 0, .int .i64 0, .int .i64 0, .slice none 0 0, .slice none 0 0] 48)) := ((Below.refl _ w).alloc (Nat.le_refl _) _).alloc (by simp) _
 have CL := l13Limits_any m d
 have HBl : Hid (BlIn Q w A off so) := hBl
 have HS0 : Hid (ItIn Q w ao (List.range Q.m)) := hS
 clear hS hBl
 obtain ⟨b1, hb1⟩ : ∃ b, limB m d = b := ⟨_, rfl⟩
 rw [hb1] at CL
 have HLIM : Hid (limB m d = b1) := hb1
 clear hb1
 have hmI : (Q.m : Int) ≤ 1048576 := by omega
 have hNI : (Q.N : Int) ≤ 1048576 := by omega
 go_enter Try.func16, Try.ntmps16
 go_upto_region 1 with fail
 generalize ((w.alloc (.cells #[.int .i64 m, .int .i64 d, .slice ao Q.m cap, .slice bo Q.N bcap] 35)).alloc (.cells #[.int .i64 0, .int .i64 0, .int .i64 0, .slice none 0 0, .slice none 0 0] 48)) = W1 at *
 have c0 := BP.c 0 rfl; have c1 := BP.c 1 rfl; have c2 := BP.c 2 rfl; have c3 := BP.c 3 rfl
 go_wp2_with fail
 refine (CL _).mono ?_
 rintro r w1 ⟨rfl, hB1⟩
 replace BP := BP.step hB1
 replace BR := BR.step hB1
 replace HB := HB.trans (hB1.mono HB.size)
 clear hB1 CL c0 c1 c2 c3
 have c0 := BP.c 0 rfl; have c1 := BP.c 1 rfl; have c2 := BP.c 2 rfl; have c3 := BP.c 3 rfl
 cases b1 with
 | false =>
   have z0 := BR.c 0 rfl; have y0 := BR.f 0 rfl; have z1 := BR.c 1 rfl; have y1 := BR.f 1 rfl; have z2 := BR.c 2 rfl; have y2 := BR.f 2 rfl; have z3 := BR.c 3 rfl; have y3 := BR.f 3 rfl; have z4 := BR.c 4 rfl; have y4 := BR.f 4 rfl
   have BF := z5_set BR
   clear BR
   go_wp2
   have r0 := BF.out.c 0 rfl; have r1 := BF.out.c 1 rfl; have r2 := BF.out.c 2 rfl; have r3 := BF.out.c 3 rfl; have r4 := BF.out.c 4 rfl
   refine bodyPost_ret (v := .tuple #[.agg #[.int .i64 0, .int .i64 0, .int .i64 0, .slice none 0 0, .slice none 0 0], .bool false]) (by simp [results, Try.results16, go_sem, r0, r1, r2, r3, r4]) rfl ?_
   exact ⟨(Below.setCell (Below.setCell (Below.setCell (Below.setCell (Below.setCell HB (Nat.le_succ _) _) (Nat.le_succ _) _) (Nat.le_succ _) _) (Nat.le_succ _) _) (Nat.le_succ _) _), .inl ⟨(by unfold qOk; rw [HLIM.out]; rfl), rfl⟩⟩
 | true =>
   by_cases h40 : 40 < Q.m
   · have h40I : (40 : Int) < Q.m := by omega
     have z0 := BR.c 0 rfl; have y0 := BR.f 0 rfl; have z1 := BR.c 1 rfl; have y1 := BR.f 1 rfl; have z2 := BR.c 2 rfl; have y2 := BR.f 2 rfl; have z3 := BR.c 3 rfl; have y3 := BR.f 3 rfl; have z4 := BR.c 4 rfl; have y4 := BR.f 4 rfl
     have BF := z5_set BR
     clear BR
     go_wp2
     have r0 := BF.out.c 0 rfl; have r1 := BF.out.c 1 rfl; have r2 := BF.out.c 2 rfl; have r3 := BF.out.c 3 rfl; have r4 := BF.out.c 4 rfl
     refine bodyPost_ret (v := .tuple #[.agg #[.int .i64 0, .int .i64 0, .int .i64 0, .slice none 0 0, .slice none 0 0], .bool false]) (by simp [results, Try.results16, go_sem, r0, r1, r2, r3, r4]) rfl ?_
     exact ⟨(Below.setCell (Below.setCell (Below.setCell (Below.setCell (Below.setCell HB (Nat.le_succ _) _) (Nat.le_succ _) _) (Nat.le_succ _) _) (Nat.le_succ _) _) (Nat.le_succ _) _), .inl ⟨(by unfold qOk; rw [show itsB Q = false from decide_eq_false (fun k => by have := k.1; omega)]; simp), rfl⟩⟩
   by_cases h2k : 2000 < Q.N
   · have h2kI : (2000 : Int) < Q.N := by omega
     have h40I : (Q.m : Int) ≤ 40 := by omega
     have z0 := BR.c 0 rfl; have y0 := BR.f 0 rfl; have z1 := BR.c 1 rfl; have y1 := BR.f 1 rfl; have z2 := BR.c 2 rfl; have y2 := BR.f 2 rfl; have z3 := BR.c 3 rfl; have y3 := BR.f 3 rfl; have z4 := BR.c 4 rfl; have y4 := BR.f 4 rfl
     have BF := z5_set BR
     clear BR
     go_wp2
     have r0 := BF.out.c 0 rfl; have r1 := BF.out.c 1 rfl; have r2 := BF.out.c 2 rfl; have r3 := BF.out.c 3 rfl; have r4 := BF.out.c 4 rfl
     refine bodyPost_ret (v := .tuple #[.agg #[.int .i64 0, .int .i64 0, .int .i64 0, .slice none 0 0, .slice none 0 0], .bool false]) (by simp [results, Try.results16, go_sem, r0, r1, r2, r3, r4]) rfl ?_
     exact ⟨(Below.setCell (Below.setCell (Below.setCell (Below.setCell (Below.setCell HB (Nat.le_succ _) _) (Nat.le_succ _) _) (Nat.le_succ _) _) (Nat.le_succ _) _) (Nat.le_succ _) _), .inl ⟨(by unfold qOk; rw [decide_eq_false (show ¬ Q.N ≤ 2000 by omega)]; simp), rfl⟩⟩
   have h40I : (Q.m : Int) ≤ 40 := by omega
   have h2kI : (Q.N : Int) ≤ 2000 := by omega
   have h40n : Q.m ≤ 40 := by omega
   go_wp2_with fail
   clear c0 c1 c2 c3
   go_loopw [4] (fun i wr => ∃ c : Nat, c ≤ Q.m ∧ i = .int .i64 c ∧ (∀ j, j < c → itB Q j = true) ∧ Blk wr w.heap.size [.int .i64 m, .int .i64 d, .slice ao Q.m cap, .slice bo Q.N bcap] ∧ Blk wr (w.heap.size + 1) [.int .i64 0, .int .i64 0, .int .i64 0, .slice none 0 0, .slice none 0 0] ∧ ItIn Q wr ao (List.range Q.m) ∧ Below w.heap.size w wr) (fun i _ => Q.m - (intOf i).toNat)
   case atStart => exact ⟨0, by omega, rfl, fun j hj => absurd hj (by omega), BP, BR, HS0.out.step HB, HB⟩
   case round =>
     clear BP BR HB
     obtain ⟨c, hc, rfl, hall, BP, BR, hS, HB⟩ := hrel
     have HALL : Hid (∀ j, j < c → itB Q j = true) := hall
     clear hall
     have p2 := BP.c 2 rfl
     have hpl := BP.lt
     by_cases hcm : c < Q.m
     · have hcI : (c : Int) < Q.m := by omega
       obtain ⟨A, off, rfl, hA, c0, c1, c2, c3, c4⟩ := hS c c (by simp [hcm])
       have HS : Hid (ItIn Q wr (some ⟨A, off, none⟩) (List.range Q.m)) := hS
       clear hS
       go_upto_region 6 with fail
       clear p2
       by_cases hid : 1 ≤ Q.I c ∧ Q.I c ≤ 1000
       rotate_left
       · have HIT : itB Q c = false := decide_eq_false (fun h => hid h.1)
         refine rrA (P := w.heap.size) (A := A) (off := off) (n := Q.m) (cap := cap) (k_ := c) (id := Q.I c) (decide_eq_false hid) hcm h40n rfl rfl (BP.c 2 rfl) hpl c0 hA c1 hA c2 hA c3 hA c4 hA rfl ?_
         rintro ⟨tm, df⟩ Wz hz hdf hoff hx hBz
         simp only at hz hdf hoff hx
         change tm.getD 71 undef = .bool true at hx
         subst hdf
         have htm := tmps_fold [34, 35, 36, 37, 38, 39, 40, 41, 42, 43, 44, 45, 46, 47, 48, 49, 50, 51, 52, 53, 54, 55, 56, 57, 58, 59, 60, 61, 62, 63, 64, 65, 66, 67, 68, 69, 70, 71] tm _ hz hoff
         simp only [List.foldl, List.setIfInBounds_toArray, List.set_cons_zero, List.set_cons_succ, hx] at htm
         clear hz hoff
         generalize tm.getD 34 undef = pz0, tm.getD 35 undef = pz1, tm.getD 36 undef = pz2, tm.getD 37 undef = pz3, tm.getD 38 undef = pz4, tm.getD 39 undef = pz5, tm.getD 40 undef = pz6, tm.getD 41 undef = pz7, tm.getD 42 undef = pz8, tm.getD 43 undef = pz9, tm.getD 44 undef = pz10, tm.getD 45 undef = pz11, tm.getD 46 undef = pz12, tm.getD 47 undef = pz13, tm.getD 48 undef = pz14, tm.getD 49 undef = pz15, tm.getD 50 undef = pz16, tm.getD 51 undef = pz17, tm.getD 52 undef = pz18, tm.getD 53 undef = pz19, tm.getD 54 undef = pz20, tm.getD 55 undef = pz21, tm.getD 56 undef = pz22, tm.getD 57 undef = pz23, tm.getD 58 undef = pz24, tm.getD 59 undef = pz25, tm.getD 60 undef = pz26, tm.getD 61 undef = pz27, tm.getD 62 undef = pz28, tm.getD 63 undef = pz29, tm.getD 64 undef = pz30, tm.getD 65 undef = pz31, tm.getD 66 undef = pz32, tm.getD 67 undef = pz33, tm.getD 68 undef = pz34, tm.getD 69 undef = pz35, tm.getD 70 undef = pz36 at htm
         clear hx
         subst htm
         replace BP := BP.step hBz
         replace BR := BR.step hBz
         replace HB := HB.trans (hBz.mono HB.size)
         replace HS : Hid (ItIn Q Wz (some ⟨A, off, none⟩) (List.range Q.m)) := HS.out.step hBz
         clear hBz c0 c1 c2 c3 c4
         have z0 := BR.c 0 rfl; have y0 := BR.f 0 rfl; have z1 := BR.c 1 rfl; have y1 := BR.f 1 rfl; have z2 := BR.c 2 rfl; have y2 := BR.f 2 rfl; have z3 := BR.c 3 rfl; have y3 := BR.f 3 rfl; have z4 := BR.c 4 rfl; have y4 := BR.f 4 rfl
         have BF := z5_set BR
         clear BR
         go_wp2
         have r0 := BF.out.c 0 rfl; have r1 := BF.out.c 1 rfl; have r2 := BF.out.c 2 rfl; have r3 := BF.out.c 3 rfl; have r4 := BF.out.c 4 rfl
         refine bodyPost_ret (v := .tuple #[.agg #[.int .i64 0, .int .i64 0, .int .i64 0, .slice none 0 0, .slice none 0 0], .bool false]) (by simp [results, Try.results16, go_sem, r0, r1, r2, r3, r4]) rfl ?_
         exact ⟨(Below.setCell (Below.setCell (Below.setCell (Below.setCell (Below.setCell HB (Nat.le_succ _) _) (Nat.le_succ _) _) (Nat.le_succ _) _) (Nat.le_succ _) _) (Nat.le_succ _) _), .inl ⟨(qOk_item hcm HIT), rfl⟩⟩
       cases hsg : segOk (Q.S c).1 (Q.S c).2.1 (Q.S c).2.2.1 (Q.S c).2.2.2 with
       | false =>
         have HIT : itB Q c = false := decide_eq_false (fun h => by rw [hsg] at h; cases h.2.1)
         refine rrB (P := w.heap.size) (A := A) (off := off) (n := Q.m) (cap := cap) (k_ := c) (id := Q.I c) (a := (Q.S c).1) (bb := (Q.S c).2.1) (c := (Q.S c).2.2.1) (d := (Q.S c).2.2.2) (decide_eq_true hid) hcm h40n hsg rfl rfl (BP.c 2 rfl) hpl c0 hA c1 hA c2 hA c3 hA c4 hA rfl ?_
         rintro ⟨tm, df⟩ Wz hz hdf hoff hx hBz
         simp only at hz hdf hoff hx
         change tm.getD 71 undef = .bool true at hx
         subst hdf
         have htm := tmps_fold [34, 35, 36, 37, 38, 39, 40, 41, 42, 43, 44, 45, 46, 47, 48, 49, 50, 51, 52, 53, 54, 55, 56, 57, 58, 59, 60, 61, 62, 63, 64, 65, 66, 67, 68, 69, 70, 71] tm _ hz hoff
         simp only [List.foldl, List.setIfInBounds_toArray, List.set_cons_zero, List.set_cons_succ, hx] at htm
         clear hz hoff
         generalize tm.getD 34 undef = pz0, tm.getD 35 undef = pz1, tm.getD 36 undef = pz2, tm.getD 37 undef = pz3, tm.getD 38 undef = pz4, tm.getD 39 undef = pz5, tm.getD 40 undef = pz6, tm.getD 41 undef = pz7, tm.getD 42 undef = pz8, tm.getD 43 undef = pz9, tm.getD 44 undef = pz10, tm.getD 45 undef = pz11, tm.getD 46 undef = pz12, tm.getD 47 undef = pz13, tm.getD 48 undef = pz14, tm.getD 49 undef = pz15, tm.getD 50 undef = pz16, tm.getD 51 undef = pz17, tm.getD 52 undef = pz18, tm.getD 53 undef = pz19, tm.getD 54 undef = pz20, tm.getD 55 undef = pz21, tm.getD 56 undef = pz22, tm.getD 57 undef = pz23, tm.getD 58 undef = pz24, tm.getD 59 undef = pz25, tm.getD 60 undef = pz26, tm.getD 61 undef = pz27, tm.getD 62 undef = pz28, tm.getD 63 undef = pz29, tm.getD 64 undef = pz30, tm.getD 65 undef = pz31, tm.getD 66 undef = pz32, tm.getD 67 undef = pz33, tm.getD 68 undef = pz34, tm.getD 69 undef = pz35, tm.getD 70 undef = pz36 at htm
         clear hx
         subst htm
         replace BP := BP.step hBz
         replace BR := BR.step hBz
         replace HB := HB.trans (hBz.mono HB.size)
         replace HS : Hid (ItIn Q Wz (some ⟨A, off, none⟩) (List.range Q.m)) := HS.out.step hBz
         clear hBz c0 c1 c2 c3 c4
         have z0 := BR.c 0 rfl; have y0 := BR.f 0 rfl; have z1 := BR.c 1 rfl; have y1 := BR.f 1 rfl; have z2 := BR.c 2 rfl; have y2 := BR.f 2 rfl; have z3 := BR.c 3 rfl; have y3 := BR.f 3 rfl; have z4 := BR.c 4 rfl; have y4 := BR.f 4 rfl
         have BF := z5_set BR
         clear BR
         go_wp2
         have r0 := BF.out.c 0 rfl; have r1 := BF.out.c 1 rfl; have r2 := BF.out.c 2 rfl; have r3 := BF.out.c 3 rfl; have r4 := BF.out.c 4 rfl
         refine bodyPost_ret (v := .tuple #[.agg #[.int .i64 0, .int .i64 0, .int .i64 0, .slice none 0 0, .slice none 0 0], .bool false]) (by simp [results, Try.results16, go_sem, r0, r1, r2, r3, r4]) rfl ?_
         exact ⟨(Below.setCell (Below.setCell (Below.setCell (Below.setCell (Below.setCell HB (Nat.le_succ _) _) (Nat.le_succ _) _) (Nat.le_succ _) _) (Nat.le_succ _) _) (Nat.le_succ _) _), .inl ⟨(qOk_item hcm HIT), rfl⟩⟩
       | true =>
         rcases Nat.eq_zero_or_pos c with hc0 | hc0
         · have HIT : itB Q c = true := decide_eq_true ⟨hid, hsg, fun h => absurd h (by omega)⟩
           have HC0 : Hid (c = 0) := hc0
           clear hc0
           refine rrC (P := w.heap.size) (A := A) (off := off) (n := Q.m) (cap := cap) (k_ := c) (id := Q.I c) (a := (Q.S c).1) (bb := (Q.S c).2.1) (c := (Q.S c).2.2.1) (d := (Q.S c).2.2.2) (decide_eq_true hid) hcm h40n hsg HC0 rfl rfl (BP.c 2 rfl) hpl c0 hA c1 hA c2 hA c3 hA c4 hA rfl ?_
           rintro ⟨tm, df⟩ Wz hz hdf hoff hx hBz
           simp only at hz hdf hoff hx
           change tm.getD 71 undef = .bool false at hx
           subst hdf
           have htm := tmps_fold [34, 35, 36, 37, 38, 39, 40, 41, 42, 43, 44, 45, 46, 47, 48, 49, 50, 51, 52, 53, 54, 55, 56, 57, 58, 59, 60, 61, 62, 63, 64, 65, 66, 67, 68, 69, 70, 71] tm _ hz hoff
           simp only [List.foldl, List.setIfInBounds_toArray, List.set_cons_zero, List.set_cons_succ, hx] at htm
           clear hz hoff
           generalize tm.getD 34 undef = pz0, tm.getD 35 undef = pz1, tm.getD 36 undef = pz2, tm.getD 37 undef = pz3, tm.getD 38 undef = pz4, tm.getD 39 undef = pz5, tm.getD 40 undef = pz6, tm.getD 41 undef = pz7, tm.getD 42 undef = pz8, tm.getD 43 undef = pz9, tm.getD 44 undef = pz10, tm.getD 45 undef = pz11, tm.getD 46 undef = pz12, tm.getD 47 undef = pz13, tm.getD 48 undef = pz14, tm.getD 49 undef = pz15, tm.getD 50 undef = pz16, tm.getD 51 undef = pz17, tm.getD 52 undef = pz18, tm.getD 53 undef = pz19, tm.getD 54 undef = pz20, tm.getD 55 undef = pz21, tm.getD 56 undef = pz22, tm.getD 57 undef = pz23, tm.getD 58 undef = pz24, tm.getD 59 undef = pz25, tm.getD 60 undef = pz26, tm.getD 61 undef = pz27, tm.getD 62 undef = pz28, tm.getD 63 undef = pz29, tm.getD 64 undef = pz30, tm.getD 65 undef = pz31, tm.getD 66 undef = pz32, tm.getD 67 undef = pz33, tm.getD 68 undef = pz34, tm.getD 69 undef = pz35, tm.getD 70 undef = pz36 at htm
           clear hx
           subst htm
           replace BP := BP.step hBz
           replace BR := BR.step hBz
           replace HB := HB.trans (hBz.mono HB.size)
           replace HS : Hid (ItIn Q Wz (some ⟨A, off, none⟩) (List.range Q.m)) := HS.out.step hBz
           clear hBz c0 c1 c2 c3 c4
           have HN : Hid (∀ j, j < c + 1 → itB Q j = true) := fun j hj => by
             by_cases e : j = c
             · subst e; exact HIT
             · exact HALL.out j (by omega)
           clear HIT
           go_wp2
           go_roundw
           case rel => exact ⟨c + 1, by omega, by go_num, HN.out, BP, BR, HS.out, HB⟩
           case measure => simp [intOf]; omega
         · obtain ⟨jj, hjj⟩ : ∃ jj, c = jj + 1 := ⟨c - 1, by omega⟩
           have HJ : Hid (c = jj + 1) := hjj
           obtain ⟨A2, o2, e2, hA2, d0, _⟩ := HS.out jj jj (by simp [show jj < Q.m by omega])
           cases e2
           have hj1 : c - 1 = jj := by omega
           clear hjj
           refine rrD (P := w.heap.size) (A := A) (off := off) (n := Q.m) (cap := cap) (k_ := c) (id := Q.I c) (jj := jj) (ie := Q.I jj) (a := (Q.S c).1) (bb := (Q.S c).2.1) (c := (Q.S c).2.2.1) (d := (Q.S c).2.2.2) (decide_eq_true hid) hcm h40n hsg HJ rfl rfl (BP.c 2 rfl) hpl c0 hA c1 hA c2 hA c3 hA c4 hA d0 hA rfl ?_
           rintro ⟨tm, df⟩ Wz hz hdf hoff hx hBz
           simp only at hz hdf hoff hx
           change tm.getD 71 undef = .bool (decide (Q.I c ≤ Q.I jj)) at hx
           subst hdf
           have htm := tmps_fold [34, 35, 36, 37, 38, 39, 40, 41, 42, 43, 44, 45, 46, 47, 48, 49, 50, 51, 52, 53, 54, 55, 56, 57, 58, 59, 60, 61, 62, 63, 64, 65, 66, 67, 68, 69, 70, 71] tm _ hz hoff
           simp only [List.foldl, List.setIfInBounds_toArray, List.set_cons_zero, List.set_cons_succ, hx] at htm
           clear hz hoff
           generalize tm.getD 34 undef = pz0, tm.getD 35 undef = pz1, tm.getD 36 undef = pz2, tm.getD 37 undef = pz3, tm.getD 38 undef = pz4, tm.getD 39 undef = pz5, tm.getD 40 undef = pz6, tm.getD 41 undef = pz7, tm.getD 42 undef = pz8, tm.getD 43 undef = pz9, tm.getD 44 undef = pz10, tm.getD 45 undef = pz11, tm.getD 46 undef = pz12, tm.getD 47 undef = pz13, tm.getD 48 undef = pz14, tm.getD 49 undef = pz15, tm.getD 50 undef = pz16, tm.getD 51 undef = pz17, tm.getD 52 undef = pz18, tm.getD 53 undef = pz19, tm.getD 54 undef = pz20, tm.getD 55 undef = pz21, tm.getD 56 undef = pz22, tm.getD 57 undef = pz23, tm.getD 58 undef = pz24, tm.getD 59 undef = pz25, tm.getD 60 undef = pz26, tm.getD 61 undef = pz27, tm.getD 62 undef = pz28, tm.getD 63 undef = pz29, tm.getD 64 undef = pz30, tm.getD 65 undef = pz31, tm.getD 66 undef = pz32, tm.getD 67 undef = pz33, tm.getD 68 undef = pz34, tm.getD 69 undef = pz35, tm.getD 70 undef = pz36 at htm
           clear hx
           subst htm
           replace BP := BP.step hBz
           replace BR := BR.step hBz
           replace HB := HB.trans (hBz.mono HB.size)
           replace HS : Hid (ItIn Q Wz (some ⟨A, off, none⟩) (List.range Q.m)) := HS.out.step hBz
           clear hBz c0 c1 c2 c3 c4
           clear d0
           by_cases hle : Q.I c ≤ Q.I jj
           · rw [decide_eq_true hle]
             have HIT : itB Q c = false := decide_eq_false (fun h => by have := h.2.2 hc0; rw [hj1] at this; omega)
             clear hle hj1
             have z0 := BR.c 0 rfl; have y0 := BR.f 0 rfl; have z1 := BR.c 1 rfl; have y1 := BR.f 1 rfl; have z2 := BR.c 2 rfl; have y2 := BR.f 2 rfl; have z3 := BR.c 3 rfl; have y3 := BR.f 3 rfl; have z4 := BR.c 4 rfl; have y4 := BR.f 4 rfl
             have BF := z5_set BR
             clear BR
             go_wp2
             have r0 := BF.out.c 0 rfl; have r1 := BF.out.c 1 rfl; have r2 := BF.out.c 2 rfl; have r3 := BF.out.c 3 rfl; have r4 := BF.out.c 4 rfl
             refine bodyPost_ret (v := .tuple #[.agg #[.int .i64 0, .int .i64 0, .int .i64 0, .slice none 0 0, .slice none 0 0], .bool false]) (by simp [results, Try.results16, go_sem, r0, r1, r2, r3, r4]) rfl ?_
             exact ⟨(Below.setCell (Below.setCell (Below.setCell (Below.setCell (Below.setCell HB (Nat.le_succ _) _) (Nat.le_succ _) _) (Nat.le_succ _) _) (Nat.le_succ _) _) (Nat.le_succ _) _), .inl ⟨(qOk_item hcm HIT), rfl⟩⟩
           · rw [decide_eq_false hle]
             have HIT : itB Q c = true := decide_eq_true ⟨hid, hsg, fun _ => by rw [hj1]; omega⟩
             clear hle hj1
             have HN : Hid (∀ j, j < c + 1 → itB Q j = true) := fun j hj => by
               by_cases e : j = c
               · subst e; exact HIT
               · exact HALL.out j (by omega)
             clear HIT
             go_wp2
             go_roundw
             case rel => exact ⟨c + 1, by omega, by go_num, HN.out, BP, BR, HS.out, HB⟩
             case measure => simp [intOf]; omega
     · obtain rfl : c = Q.m := by omega
       have HIT : Hid (itsB Q = true) := decide_eq_true ⟨h40n, HALL.out⟩
       have hd8 : 0 ≤ d ∧ d ≤ 8 := by
         have h := HLIM.out
         unfold limB at h
         simp at h
         omega
       obtain ⟨D, hDd⟩ : ∃ D : Nat, (D : Int) = d := ⟨d.toNat, by omega⟩
       have hDn : Hid (d.toNat = D) := by show d.toNat = D; omega
       have HQ : Hid (qOk Q m d = true ↔ mrd Q D 0 (-1048576) (-1048576) 2097152 = some Q.N ∧ rtB Q D 0 (-1048576) (-1048576) 2097152 = true) := by
         show _ ↔ _
         rw [← qrd_both]
         unfold qOk
         rw [HLIM.out, HIT.out, hDn.out, decide_eq_true (show Q.N ≤ 2000 by omega)]
         simp
       have RD := l13Read_any Q bo bcap A off so w hN hL hbo hso HBl.out D 0 (-1048576) (-1048576) 2097152 wr (by omega) (by omega) root_sq HB
       rw [hDd, show ((0 : Nat) : Int) = 0 from rfl] at RD
       have HL' : Hid (∀ i, i < Q.N → Q.L i ≤ 1048576) := hL
       have p1 := BP.c 1 rfl; have p3 := BP.c 3 rfl
       have HS : Hid (ItIn Q wr ao (List.range Q.m)) := hS
       clear HALL hS hd8 hDd
       go_wp2_with fail
       refine RD.mono ?_
       rintro r w5 ⟨hB5, hC⟩
       have BR0lt := BR.lt
       replace BP := BP.step hB5
       replace BR := BR.step hB5
       replace HB := HB.trans (hB5.mono HB.size)
       have HG6 : Hid (w.heap.size + 1 < wr.heap.size) := BR0lt
       replace HS : Hid (ItIn Q w5 ao (List.range Q.m)) := HS.out.step hB5
       clear RD p1 p2 p3 hB5 hpl
       rcases hC with ⟨hn, rfl⟩ | ⟨e, kv, ev, he, rfl, hM⟩
       · have hno : Hid (qOk Q m d = false) := Bool.eq_false_iff.2 (fun h => by have := (HQ.out.1 h).1; rw [hn] at this; cases this)
         replace BR := BR.alloc (.cells #[.int .i64 0, .int .i64 0, .int .i64 0, .slice none 0 0, .slice none 0 0] 48)
         replace HB := HB.alloc HB.size (.cells #[.int .i64 0, .int .i64 0, .int .i64 0, .slice none 0 0, .slice none 0 0] 48)
         clear hn BP
         go_upto_region 9 with fail
         generalize (w5.alloc (.cells #[.int .i64 0, .int .i64 0, .int .i64 0, .slice none 0 0, .slice none 0 0] 48)) = w6 at *
         have z0 := BR.c 0 rfl; have y0 := BR.f 0 rfl; have z1 := BR.c 1 rfl; have y1 := BR.f 1 rfl; have z2 := BR.c 2 rfl; have y2 := BR.f 2 rfl; have z3 := BR.c 3 rfl; have y3 := BR.f 3 rfl; have z4 := BR.c 4 rfl; have y4 := BR.f 4 rfl
         have BF := z5_set BR
         clear BR
         go_wp2
         have r0 := BF.out.c 0 rfl; have r1 := BF.out.c 1 rfl; have r2 := BF.out.c 2 rfl; have r3 := BF.out.c 3 rfl; have r4 := BF.out.c 4 rfl
         refine bodyPost_ret (v := .tuple #[.agg #[.int .i64 0, .int .i64 0, .int .i64 0, .slice none 0 0, .slice none 0 0], .bool false]) (by simp [results, Try.results16, go_sem, r0, r1, r2, r3, r4]) rfl ?_
         exact ⟨(Below.setCell (Below.setCell (Below.setCell (Below.setCell (Below.setCell HB (Nat.le_succ _) _) (Nat.le_succ _) _) (Nat.le_succ _) _) (Nat.le_succ _) _) (Nat.le_succ _) _), .inl ⟨hno.out, rfl⟩⟩
       · obtain ⟨ko, kn, kc, eo, en, ec, rfl, rfl⟩ := hM.vals
         have HE : Hid (mrd Q D 0 (-1048576) (-1048576) 2097152 = some e) := he
         have B5 : Blk (w5.alloc (.cells #[.int .i64 (-1048576), .int .i64 (-1048576), .int .i64 2097152, .slice ko kn kc, .slice eo en ec] 48)) w5.heap.size [.int .i64 (-1048576), .int .i64 (-1048576), .int .i64 2097152, .slice ko kn kc, .slice eo en ec] := Blk.new w5 [.int .i64 (-1048576), .int .i64 (-1048576), .int .i64 2097152, .slice ko kn kc, .slice eo en ec] 48 rfl
         have hB6 : Below w5.heap.size w5 (w5.alloc (.cells #[.int .i64 (-1048576), .int .i64 (-1048576), .int .i64 2097152, .slice ko kn kc, .slice eo en ec] 48)) := (Below.refl _ _).alloc (Nat.le_refl _) _
         replace BP := BP.step hB6
         replace BR := BR.step hB6
         replace HB := HB.trans (hB6.mono HB.size)
         replace HS : Hid (ItIn Q (w5.alloc (.cells #[.int .i64 (-1048576), .int .i64 (-1048576), .int .i64 2097152, .slice ko kn kc, .slice eo en ec] 48)) ao (List.range Q.m)) := HS.out.step hB6
         replace hM := hM.step hB6
         clear he hB6
         go_upto_region 9 with fail
         generalize (w5.alloc (.cells #[.int .i64 (-1048576), .int .i64 (-1048576), .int .i64 2097152, .slice ko kn kc, .slice eo en ec] 48)) = w6 at *
         have p3 := BP.c 3 rfl; have p2 := BP.c 2 rfl
         have k0 := B5.c 0 rfl; have k1 := B5.c 1 rfl; have k2 := B5.c 2 rfl; have k3 := B5.c 3 rfl; have k4 := B5.c 4 rfl
         by_cases hen : e = Q.N
         · subst hen
           have RT := treeRight_any Q ao cap (its6_of HIT.out) hm (trQ Q D 0 (-1048576) (-1048576) 2097152) (-1048576) (-1048576) 2097152 _ _ _ w6 root_sq (lenT_tr HL'.out HE.out) hM HS.out
           obtain ⟨b2, hb2⟩ : ∃ b, rtT Q (trQ Q D 0 (-1048576) (-1048576) 2097152) (-1048576) (-1048576) 2097152 = b := ⟨_, rfl⟩
           have HB2 : Hid (rtB Q D 0 (-1048576) (-1048576) 2097152 = b2) := (rt_tr Q D 0 _ _ _ (by rw [HE.out]; rfl)).trans hb2
           rw [hb2] at RT
           clear hb2
           go_wp2_with fail
           refine RT.mono ?_
           rintro r w7 ⟨rfl, hB7⟩
           replace BR := BR.step hB7
           replace B5 := B5.step hB7
           replace HB := HB.trans (hB7.mono HB.size)
           replace hM := hM.step hB7
           clear RT BP hB7 p2 p3 k0 k1 k2 k3 k4 HS
           cases b2 with
           | false =>
             have hno : Hid (qOk Q m d = false) := Bool.eq_false_iff.2 (fun h => by have := (HQ.out.1 h).2; rw [HB2.out] at this; cases this)
             have z0 := BR.c 0 rfl; have y0 := BR.f 0 rfl; have z1 := BR.c 1 rfl; have y1 := BR.f 1 rfl; have z2 := BR.c 2 rfl; have y2 := BR.f 2 rfl; have z3 := BR.c 3 rfl; have y3 := BR.f 3 rfl; have z4 := BR.c 4 rfl; have y4 := BR.f 4 rfl
             have BF := z5_set BR
             clear BR
             go_wp2
             have r0 := BF.out.c 0 rfl; have r1 := BF.out.c 1 rfl; have r2 := BF.out.c 2 rfl; have r3 := BF.out.c 3 rfl; have r4 := BF.out.c 4 rfl
             refine bodyPost_ret (v := .tuple #[.agg #[.int .i64 0, .int .i64 0, .int .i64 0, .slice none 0 0, .slice none 0 0], .bool false]) (by simp [results, Try.results16, go_sem, r0, r1, r2, r3, r4]) rfl ?_
             exact ⟨(Below.setCell (Below.setCell (Below.setCell (Below.setCell (Below.setCell HB (Nat.le_succ _) _) (Nat.le_succ _) _) (Nat.le_succ _) _) (Nat.le_succ _) _) (Nat.le_succ _) _), .inl ⟨hno.out, rfl⟩⟩
           | true =>
             have hyes : Hid (qOk Q m d = true) := HQ.out.2 ⟨HE.out, HB2.out⟩
             have HM : Hid (MTr (fun b => w.heap.size + 1 < b) w7 (trQ Q D 0 (-1048576) (-1048576) 2097152) (-1048576) (-1048576) 2097152 (.slice ko kn kc) (.slice eo en ec)) := MTr.keep (Nat.le_refl _) (fun _ _ _ => rfl) (fun b hb _ => Nat.lt_of_lt_of_le HG6.out hb) hM
             have z0 := BR.c 0 rfl; have z1 := BR.c 1 rfl; have z2 := BR.c 2 rfl; have z3 := BR.c 3 rfl; have z4 := BR.c 4 rfl; have y0 := BR.f 0 rfl; have y1 := BR.f 1 rfl; have y2 := BR.f 2 rfl; have y3 := BR.f 3 rfl; have y4 := BR.f 4 rfl
             have k0 := B5.c 0 rfl; have k1 := B5.c 1 rfl; have k2 := B5.c 2 rfl; have k3 := B5.c 3 rfl; have k4 := B5.c 4 rfl
             have BF : Hid (Blk (((((w7.setCell ⟨(w.heap.size + 1), 0, none⟩ (.int .i64 (-1048576))).setCell ⟨(w.heap.size + 1), 1, none⟩ (.int .i64 (-1048576))).setCell ⟨(w.heap.size + 1), 2, none⟩ (.int .i64 2097152)).setCell ⟨(w.heap.size + 1), 3, none⟩ (.slice ko kn kc)).setCell ⟨(w.heap.size + 1), 4, none⟩ (.slice eo en ec)) (w.heap.size + 1) [.int .i64 (-1048576), .int .i64 (-1048576), .int .i64 2097152, .slice ko kn kc, .slice eo en ec]) := ((((BR.setI 0 (by decide) _).setI 1 (by simp) _).setI 2 (by simp) _).setI 3 (by simp) _).setI 4 (by simp) _
             clear BR B5 hM
             go_wp2
             have r0 := BF.out.c 0 rfl; have r1 := BF.out.c 1 rfl; have r2 := BF.out.c 2 rfl; have r3 := BF.out.c 3 rfl; have r4 := BF.out.c 4 rfl
             refine bodyPost_ret (v := .tuple #[.agg #[.int .i64 (-1048576), .int .i64 (-1048576), .int .i64 2097152, .slice ko kn kc, .slice eo en ec], .bool true]) (by simp [results, Try.results16, go_sem, r0, r1, r2, r3, r4]) rfl ?_
             refine ⟨(Below.setCell (Below.setCell (Below.setCell (Below.setCell (Below.setCell HB (Nat.le_succ _) _) (Nat.le_succ _) _) (Nat.le_succ _) _) (Nat.le_succ _) _) (Nat.le_succ _) _), .inr ⟨hyes.out, _, _, rfl, ?_⟩⟩
             rw [hDn.out]
             exact MTr.keep (by simp [World.setCell]) (fun b hb _ => z5_other (by omega)) (fun b hb _ => by omega) HM.out
         · have hneI : ((e : Int) == (Q.N : Int)) = false := by simp; omega
           have hno : Hid (qOk Q m d = false) := Bool.eq_false_iff.2 (fun h => by have := (HQ.out.1 h).1; rw [HE.out] at this; exact hen (Option.some.inj this))
           clear BP B5 hM HS
           have z0 := BR.c 0 rfl; have y0 := BR.f 0 rfl; have z1 := BR.c 1 rfl; have y1 := BR.f 1 rfl; have z2 := BR.c 2 rfl; have y2 := BR.f 2 rfl; have z3 := BR.c 3 rfl; have y3 := BR.f 3 rfl; have z4 := BR.c 4 rfl; have y4 := BR.f 4 rfl
           have BF := z5_set BR
           clear BR
           go_wp2
           have r0 := BF.out.c 0 rfl; have r1 := BF.out.c 1 rfl; have r2 := BF.out.c 2 rfl; have r3 := BF.out.c 3 rfl; have r4 := BF.out.c 4 rfl
           refine bodyPost_ret (v := .tuple #[.agg #[.int .i64 0, .int .i64 0, .int .i64 0, .slice none 0 0, .slice none 0 0], .bool false]) (by simp [results, Try.results16, go_sem, r0, r1, r2, r3, r4]) rfl ?_
           exact ⟨(Below.setCell (Below.setCell (Below.setCell (Below.setCell (Below.setCell HB (Nat.le_succ _) _) (Nat.le_succ _) _) (Nat.le_succ _) _) (Nat.le_succ _) _) (Nat.le_succ _) _), .inl ⟨hno.out, rfl⟩⟩
theorem qOk_all {Q : QD} {m d : Int} (h : qOk Q m d = true) : (1 ≤ m ∧ m ≤ 8) ∧ (0 ≤ d ∧ d ≤ 8) ∧ itsB Q = true ∧ rtT Q (trQ Q d.toNat 0 (-1048576) (-1048576) 2097152) (-1048576) (-1048576) 2097152 = true := by
 unfold qOk limB at h
 simp only [Bool.and_eq_true, decide_eq_true_eq] at h
 obtain ⟨⟨⟨⟨⟨⟨h1, h2⟩, h3⟩, h4⟩, h5⟩, _⟩, h6⟩ := h
 obtain ⟨h7, h8⟩ := (qrd_both Q d.toNat 0 (-1048576) (-1048576) 2097152 Q.N).1 h6
 exact ⟨⟨h1, h2⟩, ⟨h3, h4⟩, h5, (rt_tr Q d.toNat 0 (-1048576) (-1048576) 2097152 (by rw [h7]; rfl)).symm.trans h8⟩
def evT : QT → Int → Prop
 | .leaf _, _ => True
 | .node K, s => s = 2 * (s / 2) ∧ ∀ k, k < 4 → evT (K k) (s / 2)
theorem ev_of : ∀ (d : Nat) (t : QT) (e : Int), dpB d t → evT t (2 ^ d * e)
 | _, .leaf _, _, _ => trivial
 | 0, .node _, _, h => by cases h
 | d + 1, .node K, e, h => by
   have h1 : (2 : Int) ^ (d + 1) * e = 2 * (2 ^ d * e) := by rw [Int.pow_succ]; grind
   refine ⟨by omega, fun k hk => ?_⟩
   rw [show (2 : Int) ^ (d + 1) * e / 2 = 2 ^ d * e by omega]
   exact ev_of d (K k) e (h k hk)
def besB (x y s p q u v : Int) : Bool := decide (u < x ∨ x + s < p ∨ v < y ∨ y + s < q)
def hitW (Q : QD) (p q u v : Int) (i : Nat) : Bool := hitB (Q.S i).1 (Q.S i).2.1 (Q.S i).2.2.1 (Q.S i).2.2.2 p q u v
def wnK (f : Nat → List Nat) : Nat → List Nat
 | 0 => []
 | k + 1 => wnK f k ++ f k
def wnT (Q : QD) (p q u v : Int) : QT → Int → Int → Int → List Nat
 | .leaf _, x, y, s => if besB x y s p q u v = true then [] else (flQ Q (List.range Q.m) x y s).filter (hitW Q p q u v)
 | .node K, x, y, s => if besB x y s p q u v = true then [] else wnK (fun k => wnT Q p q u v (K k) (kX x (s / 2) k) (kY y (s / 2) k) (s / 2)) 4
theorem wnK_mem {f : Nat → List Nat} {i : Nat} : ∀ n, i ∈ wnK f n ↔ ∃ k, k < n ∧ i ∈ f k
 | 0 => by simp [wnK]
 | n + 1 => by
   rw [wnK, List.mem_append, wnK_mem n]
   constructor
   · rintro (⟨k, h1, h2⟩ | h)
     · exact ⟨k, by omega, h2⟩
     · exact ⟨n, by omega, h⟩
   · rintro ⟨k, h1, h2⟩
     rcases Nat.lt_or_ge k n with h | h
     · exact .inl ⟨k, h, h2⟩
     · obtain rfl : k = n := by omega
       exact .inr h2
theorem wnT_hit {Q : QD} {p q u v : Int} {i : Nat} : ∀ (t : QT) (x y s : Int), i ∈ wnT Q p q u v t x y s → i < Q.m ∧ hitW Q p q u v i = true
 | .leaf _, x, y, s, h => by
   unfold wnT at h
   split at h
   · cases h
   · obtain ⟨h1, h2⟩ := List.mem_filter.1 h
     exact ⟨List.mem_range.1 (List.mem_filter.1 h1).1, h2⟩
 | .node K, x, y, s, h => by
   unfold wnT at h
   split at h
   · cases h
   · obtain ⟨k, _, h2⟩ := (wnK_mem 4).1 h
     exact wnT_hit (K k) _ _ _ h2
theorem part_some {a b c d x y X Y f p q u v : Int} (hac : a ≤ c) (hf : 0 ≤ f) (hX : X = x + f) (hY : Y = y + f) (h1 : max x p ≤ min (X + f) u) (h2 : max y q ≤ min (Y + f) v) (h : hitB a b c d (max x p) (max y q) (min (X + f) u) (min (Y + f) v) = true) :
   ∃ x' y', (x' = x ∨ x' = X) ∧ (y' = y ∨ y' = Y) ∧ max x' p ≤ min (x' + f) u ∧ max y' q ≤ min (y' + f) v ∧ hitB a b c d (max x' p) (max y' q) (min (x' + f) u) (min (y' + f) v) = true := by
 have hx : ∃ x', (x' = x ∨ x' = X) ∧ max x' p ≤ min (x' + f) u ∧ hitB a b c d (max x' p) (max y q) (min (x' + f) u) (min (Y + f) v) = true := by
   rcases Int.lt_or_le X (max x p) with e | e
   · refine ⟨X, .inr rfl, by omega, ?_⟩
     rw [show max X p = max x p by omega]
     exact h
   · rcases Int.lt_or_le (min (X + f) u) X with e2 | e2
     · refine ⟨x, .inl rfl, by omega, ?_⟩
       rw [show min (x + f) u = min (X + f) u by omega]
       exact h
     · rcases hit_partX (X := X) hac e e2 h2 h with h3 | h3
       · refine ⟨x, .inl rfl, by omega, ?_⟩
         rw [show min (x + f) u = X by omega]
         exact h3
       · refine ⟨X, .inr rfl, by omega, ?_⟩
         rw [show max X p = X by omega]
         exact h3
 obtain ⟨x', e1, e2, h3⟩ := hx
 rcases Int.lt_or_le Y (max y q) with e | e
 · refine ⟨x', Y, e1, .inr rfl, e2, by omega, ?_⟩
   rw [show max Y q = max y q by omega]
   exact h3
 · rcases Int.lt_or_le (min (Y + f) v) Y with e4 | e4
   · refine ⟨x', y, e1, .inl rfl, e2, by omega, ?_⟩
     rw [show min (y + f) v = min (Y + f) v by omega]
     exact h3
   · rcases hit_partY (Y := Y) hac e2 e e4 h3 with h5 | h5
     · refine ⟨x', y, e1, .inl rfl, e2, by omega, ?_⟩
       rw [show min (y + f) v = Y by omega]
       exact h5
     · refine ⟨x', Y, e1, .inr rfl, e2, by omega, ?_⟩
       rw [show max Y q = Y by omega]
       exact h5
theorem wnT_all {Q : QD} {p q u v : Int} {i : Nat} (hi : i < Q.m) (hac : (Q.S i).1 ≤ (Q.S i).2.2.1) (hpu : p ≤ u) (hqv : q ≤ v) : ∀ (t : QT) (x y s : Int), 0 ≤ s → evT t s → max x p ≤ min (x + s) u → max y q ≤ min (y + s) v → hitB (Q.S i).1 (Q.S i).2.1 (Q.S i).2.2.1 (Q.S i).2.2.2 (max x p) (max y q) (min (x + s) u) (min (y + s) v) = true → i ∈ wnT Q p q u v t x y s
 | .leaf _, x, y, s, hs, _, h1, h2, h => by
   unfold wnT
   rw [if_neg (by unfold besB; rw [decide_eq_true_eq]; omega)]
   refine List.mem_filter.2 ⟨List.mem_filter.2 ⟨List.mem_range.2 hi, ?_⟩, ?_⟩
   · exact hit_wider (by omega) (by omega) (by omega) (by omega) h1 h2 h
   · exact hit_wider (by omega) (by omega) (by omega) (by omega) h1 h2 h
 | .node K, x, y, s, hs, he, h1, h2, h => by
   unfold wnT
   rw [if_neg (by unfold besB; rw [decide_eq_true_eq]; omega), wnK_mem]
   obtain ⟨e1, e2⟩ := he
   obtain ⟨f, hf⟩ : ∃ f, s / 2 = f := ⟨_, rfl⟩
   rw [hf] at e1 e2 ⊢
   obtain ⟨x', y', hx, hy, h3, h4, h5⟩ := part_some (x := x) (y := y) (f := f) hac (by omega) rfl rfl (by rw [show x + f + f = x + s by omega]; exact h1) (by rw [show y + f + f = y + s by omega]; exact h2) (by rw [show x + f + f = x + s by omega, show y + f + f = y + s by omega]; exact h)
   have k0 : ∀ k, kX x f k = x + ((k % 2 : Nat) : Int) * f := fun _ => rfl
   have k1 : ∀ k, kY y f k = y + ((k / 2 : Nat) : Int) * f := fun _ => rfl
   have hk : ∃ k, k < 4 ∧ kX x f k = x' ∧ kY y f k = y' := by
     rcases hx with rfl | rfl <;> rcases hy with rfl | rfl
     · exact ⟨0, by omega, by rw [k0]; simp, by rw [k1]; simp⟩
     · exact ⟨2, by omega, by rw [k0]; simp, by rw [k1]; simp⟩
     · exact ⟨1, by omega, by rw [k0]; simp, by rw [k1]; simp⟩
     · exact ⟨3, by omega, by rw [k0]; simp, by rw [k1]; simp⟩
   obtain ⟨k, hk4, rfl, rfl⟩ := hk
   exact ⟨k, hk4, wnT_all hi hac hpu hqv (K k) _ _ f (by omega) (e2 k hk4) h3 h4 h5⟩
def incL (l : List Int) : Prop := l.Pairwise (· < ·)
theorem inc_ext : ∀ {l r : List Int}, incL l → incL r → (∀ z, z ∈ l ↔ z ∈ r) → l = r
 | [], [], _, _, _ => rfl
 | [], b :: r, _, _, h => by have := (h b).2 (by simp); cases this
 | a :: l, [], _, _, h => by have := (h a).1 (by simp); cases this
 | a :: l, b :: r, hl, hr, h => by
   have hl1 := List.pairwise_cons.1 hl
   have hr1 := List.pairwise_cons.1 hr
   have hab : a = b := by
     have h1 := (h a).1 (by simp)
     have h2 := (h b).2 (by simp)
     rcases List.mem_cons.1 h1 with e | e
     · exact e
     · rcases List.mem_cons.1 h2 with e2 | e2
       · exact e2.symm
       · have := hr1.1 a e
         have := hl1.1 b e2
         omega
   subst hab
   congr 1
   refine inc_ext hl1.2 hr1.2 fun z => ⟨fun hz => ?_, fun hz => ?_⟩
   · rcases List.mem_cons.1 ((h z).1 (List.mem_cons_of_mem _ hz)) with e | e
     · have := hl1.1 z hz; omega
     · exact e
   · rcases List.mem_cons.1 ((h z).2 (List.mem_cons_of_mem _ hz)) with e | e
     · have := hr1.1 z hz; omega
     · exact e
def winQ (Q : QD) (p q u v : Int) : List Int := idL Q ((List.range Q.m).filter (hitW Q p q u v))
theorem rise_inc {Q : QD} (h : riseI Q) (f : Nat → Bool) : ∀ n, n ≤ Q.m → incL (idL Q ((List.range n).filter f))
 | 0, _ => List.Pairwise.nil
 | n + 1, hn => by
   unfold idL
   rw [List.range_succ, List.filter_append, List.map_append]
   refine List.pairwise_append.2 ⟨rise_inc h f n (by omega), ?_, ?_⟩
   · by_cases hf : f n = true
     · simp [hf]
     · simp [hf]
   · intro a ha b hb
     obtain ⟨i, hi, rfl⟩ := List.mem_map.1 ha
     obtain ⟨j, hj, rfl⟩ := List.mem_map.1 hb
     have hi2 := List.mem_range.1 (List.mem_filter.1 hi).1
     have hj2 : j = n := by
       have := (List.mem_filter.1 hj).1
       simpa using this
     subst hj2
     have h3 := rise_lt h (j - i - 1) i (by omega)
     rwa [show i + (j - i - 1) + 1 = j by omega] at h3
theorem win_same {Q : QD} {p q u v : Int} {t : QT} {cs : List Int} (hr : riseI Q) (hac : ∀ i, i < Q.m → (Q.S i).1 ≤ (Q.S i).2.2.1) (he : evT t 2097152) (h1 : -1048576 ≤ p) (h2 : -1048576 ≤ q) (h3 : u ≤ 1048576) (h4 : v ≤ 1048576) (hpu : p ≤ u) (hqv : q ≤ v) (hc : incL cs) (hp : ∀ z, z ∈ cs ↔ z ∈ idL Q (wnT Q p q u v t (-1048576) (-1048576) 2097152)) : cs = winQ Q p q u v := by
 refine inc_ext hc (rise_inc hr _ Q.m (Nat.le_refl _)) fun z => ?_
 rw [hp]
 unfold winQ idL
 simp only [List.mem_map, List.mem_filter, List.mem_range]
 constructor
 · rintro ⟨i, hi, rfl⟩
   exact ⟨i, wnT_hit t _ _ _ hi, rfl⟩
 · rintro ⟨i, ⟨hi, hh⟩, rfl⟩
   refine ⟨i, wnT_all hi (hac i hi) hpu hqv t _ _ _ (by omega) he (by omega) (by omega) ?_, rfl⟩
   rw [show max (-1048576) p = p by omega, show max (-1048576) q = q by omega, show min (-1048576 + 2097152) u = u by omega, show min (-1048576 + 2097152) v = v by omega]
   exact hh
def ordN (x y : Int) : Int := if x < y then -1 else if y < x then 1 else 0
set_option maxRecDepth 100000 in
set_option maxHeartbeats 4000000 in
theorem cmpNo_any (x y : Int) (w : World) : Calls Try.prog 91 #[.int .i64 x, .int .i64 y] w (VP (.int .i64 (ordN x y)) w) := by
 unfold ordN
 by_cases h1 : x < y
 · rw [if_pos h1]
   go_enter Try.func91, Try.ntmps91
   go_wp2
   go_ret
   exact ⟨rfl, Below.refl _ _⟩
 · rw [if_neg h1]
   by_cases h2 : y < x
   · rw [if_pos h2]
     go_enter Try.func91, Try.ntmps91
     go_wp2
     go_ret
     exact ⟨rfl, Below.refl _ _⟩
   · rw [if_neg h2]
     go_enter Try.func91, Try.ntmps91
     go_wp2
     go_ret
     exact ⟨rfl, Below.refl _ _⟩
set_option maxRecDepth 100000 in
set_option maxHeartbeats 4000000 in
theorem orderItem_any (x a bb cc d y : Int) (w : World) : Calls Try.prog 82 #[.agg #[.int .i64 x, .int .i64 a, .int .i64 bb, .int .i64 cc, .int .i64 d], .int .i64 y] w (VP (.int .i64 (ordN x y)) w) := by
 have B0 : Blk (w.alloc (.cells #[.int .i64 x, .int .i64 a, .int .i64 bb, .int .i64 cc, .int .i64 d] 56)) w.heap.size [.int .i64 x, .int .i64 a, .int .i64 bb, .int .i64 cc, .int .i64 d] := Blk.new w [.int .i64 x, .int .i64 a, .int .i64 bb, .int .i64 cc, .int .i64 d] 56 rfl
 have HB : Below w.heap.size w (w.alloc (.cells #[.int .i64 x, .int .i64 a, .int .i64 bb, .int .i64 cc, .int .i64 d] 56)) := (Below.refl _ w).alloc (Nat.le_refl _) _
 go_enter Try.func82, Try.ntmps82
 go_upto_region 1 with fail
 generalize (w.alloc (.cells #[.int .i64 x, .int .i64 a, .int .i64 bb, .int .i64 cc, .int .i64 d] 56)) = W1 at *
 have m0 := B0.c 0 rfl
 go_wp2_with fail
 refine (cmpNo_any x y W1).mono ?_
 rintro r w1 ⟨rfl, hB⟩
 have HB2 := HB.trans (hB.mono HB.size)
 clear hB HB m0 B0
 go_wp2
 go_ret
 exact ⟨rfl, HB2⟩
theorem ordN_lt (x y : Int) : (ordN x y < 0) ↔ x < y := by
 unfold ordN
 split
 · exact ⟨fun _ => by assumption, fun _ => by omega⟩
 · split <;> exact ⟨fun h => absurd h (by omega), fun h => absurd h (by assumption)⟩
theorem ordN_zero (x y : Int) : (ordN x y = 0) ↔ x = y := by
 unfold ordN
 split
 · exact ⟨fun h => absurd h (by omega), fun h => by omega⟩
 · split
   · exact ⟨fun h => absurd h (by omega), fun h => by omega⟩
   · exact ⟨fun _ => by omega, fun _ => rfl⟩
set_option maxRecDepth 100000 in
set_option maxHeartbeats 8000000 in
theorem bsfItem_any (Q : QD) (ao : Option Addr) (n cap : Nat) (id : Int) (j : Nat) (th : Bool) (hn : n ≤ 1048576) (hj : j ≤ n) (hlo : ∀ i, i < j → Q.I i < id) (hhi : ∀ i, j ≤ i → i < n → id ≤ Q.I i) (hth : th = true ↔ (j < n ∧ Q.I j = id)) (w : World) (hS : ItIn Q w ao (List.range n)) : Calls Try.prog 81 #[.slice ao n cap, .int .i64 id, .func (.func 82) #[] #[]] w (VP (.tuple #[.int .i64 (j : Int), .bool th]) w) := by
 have HS : Hid (ItIn Q w ao (List.range n)) := hS
 have HLO : Hid (∀ i, i < j → Q.I i < id) := hlo
 have HHI : Hid (∀ i, j ≤ i → i < n → id ≤ Q.I i) := hhi
 have HTH : Hid (th = true ↔ (j < n ∧ Q.I j = id)) := hth
 clear hS hlo hhi hth
 have hnI : (n : Int) ≤ 1048576 := by omega
 go_enter Try.func81, Try.ntmps81
 go_wp2_with fail
 go_loopw [9, 10] (fun a b wr => ∃ l r : Nat, a = .int .i64 l ∧ b = .int .i64 r ∧ l ≤ j ∧ j ≤ r ∧ r ≤ n ∧ Below w.heap.size w wr) (fun a b _ => (intOf b).toNat - (intOf a).toNat)
 case atStart => exact ⟨0, n, rfl, rfl, by omega, hj, by omega, Below.refl _ _⟩
 case round =>
   obtain ⟨l, r, rfl, rfl, hl, hr, hrm, HB⟩ := hrel
   by_cases hlr : l < r
   · have hlI : (l : Int) < r := by omega
     have hrI : (r : Int) ≤ 1048576 := by omega
     obtain ⟨hf, hh0⟩ : ∃ h : Nat, h = (l + r) / 2 := ⟨_, rfl⟩
     have hhI : ((l : Int) + (r : Int)) / 2 = (hf : Int) := by omega
     have hh : l ≤ hf ∧ hf < r := by omega
     clear hh0
     obtain ⟨A, off, rfl, hA, q0, q1, q2, q3, q4⟩ := HS.out.step HB hf hf (by simp [show hf < n by omega])
     obtain ⟨ov, hov⟩ : ∃ ov, ordN (Q.I hf) id = ov := ⟨_, rfl⟩
     have HOV : Hid (ordN (Q.I hf) id = ov) := hov
     have C := orderItem_any (Q.I hf) (Q.S hf).1 (Q.S hf).2.1 (Q.S hf).2.2.1 (Q.S hf).2.2.2 id wr
     rw [hov] at C
     clear hov
     go_wp2_with fail
     refine C.mono ?_
     rintro e w1 ⟨rfl, hBz⟩
     replace HB := HB.trans (hBz.mono HB.size)
     clear C hBz hA q0 q1 q2 q3 q4
     by_cases hx : ov < 0
     · have hfj : Hid (hf < j) := Nat.lt_of_not_le fun hle => by have := HHI.out hf hle (by omega); have := (ordN_lt _ _).1 (by rw [HOV.out]; exact hx); omega
       go_wp2
       go_roundw
       case rel => exact ⟨hf + 1, r, by go_num, rfl, hfj.out, hr, hrm, HB⟩
       case measure => simp [intOf]; omega
     · have hfj : Hid (j ≤ hf) := Nat.le_of_not_lt fun hlt => hx (by rw [← HOV.out]; exact (ordN_lt _ _).2 (HLO.out hf hlt))
       go_wp2
       go_roundw
       case rel => exact ⟨l, hf, rfl, rfl, hl, hfj.out, by omega, HB⟩
       case measure => simp [intOf]; omega
   · obtain rfl : l = j := by omega
     obtain rfl : r = l := by omega
     by_cases hlm : r < n
     · have hlI : (r : Int) < n := by omega
       obtain ⟨A, off, rfl, hA, q0, q1, q2, q3, q4⟩ := HS.out.step HB r r (by simp [hlm])
       obtain ⟨ov, hov⟩ : ∃ ov, ordN (Q.I r) id = ov := ⟨_, rfl⟩
       have hth : (ov == 0) = th := by
         cases th with
         | true => exact beq_iff_eq.2 (hov.symm.trans ((ordN_zero _ _).2 (HTH.out.1 rfl).2))
         | false => exact Bool.eq_false_iff.2 (fun h => by have := HTH.out.2 ⟨hlm, (ordN_zero _ _).1 (hov.trans (beq_iff_eq.1 h))⟩; cases this)
       have C := orderItem_any (Q.I r) (Q.S r).1 (Q.S r).2.1 (Q.S r).2.2.1 (Q.S r).2.2.2 id wr
       rw [hov] at C
       clear hov
       go_wp2_with fail
       refine C.mono ?_
       rintro e w1 ⟨rfl, hBz⟩
       replace HB := HB.trans (hBz.mono HB.size)
       clear C hBz hA q0 q1 q2 q3 q4
       go_wp2
       refine bodyPost_ret (v := .tuple #[.int .i64 (r : Int), .bool th]) (by simp [results, Try.results81, go_sem]) rfl ?_
       exact ⟨rfl, HB⟩
     · obtain rfl : r = n := by omega
       have htf : th = false := by cases th with | false => rfl | true => have := (HTH.out.1 rfl).1; omega
       subst htf
       go_wp2
       refine bodyPost_ret (v := .tuple #[.int .i64 (r : Int), .bool false]) (by simp [results, Try.results81, go_sem]) rfl ?_
       exact ⟨rfl, HB⟩
set_option maxRecDepth 100000 in
set_option maxHeartbeats 4000000 in
theorem place_any (Q : QD) (gq ic : Nat) (io : Option Addr) (m d id : Int) (pv : Value) (j : Nat) (th : Bool) (hn : Q.m ≤ 1048576) (hj : j ≤ Q.m) (hlo : ∀ i, i < j → Q.I i < id) (hhi : ∀ i, j ≤ i → i < Q.m → id ≤ Q.I i) (hth : th = true ↔ (j < Q.m ∧ Q.I j = id)) (w : World) (BQ : Blk w gq [.int .i64 m, .int .i64 d, .slice io Q.m ic, pv]) (hS : ItIn Q w io (List.range Q.m)) : Calls Try.prog 64 #[.pointer (some ⟨gq, 0, none⟩), .int .i64 id] w (VP (.tuple #[.int .i64 (j : Int), .bool th]) w) := by
 have C := bsfItem_any Q io Q.m ic id j th hn hj hlo hhi hth w hS
 have q2 := BQ.c 2 rfl
 clear hlo hhi hth hS BQ
 go_enter Try.func64, Try.ntmps64
 go_wp2_with fail
 refine C.mono ?_
 rintro r w1 ⟨rfl, hB⟩
 clear C q2
 go_wp2
 refine bodyPost_ret (v := .tuple #[.int .i64 (j : Int), .bool th]) (by simp [results, Try.results64, go_sem]) rfl ?_
 exact ⟨rfl, hB⟩
theorem tr_small {Q : QD} {m d : Int} (h : qOk Q m d = true) : d.toNat ≤ 8 ∧ nlT (trQ Q d.toNat 0 (-1048576) (-1048576) 2097152) ≤ 65536 ∧ dpT (trQ Q d.toNat 0 (-1048576) (-1048576) 2097152) ≤ 8 := by
 have h8 : d.toNat ≤ 8 := by
   unfold qOk limB at h
   simp at h
   omega
 exact ⟨h8, nl_small h8 (dp_tr Q _ _ _ _ _), Nat.le_trans (dp_le _ _ (dp_tr Q _ _ _ _ _)) h8⟩
end Go.Proofs.Ythelolpogdcmhaa
