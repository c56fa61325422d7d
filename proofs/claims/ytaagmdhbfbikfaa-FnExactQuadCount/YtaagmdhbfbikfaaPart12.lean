/- Part 12 of the walks that the proof leans on. -/
import Derived.Test.YtaagmdhbfbikfaaPart11
import Derived.Test.YtaagmdhbfbikfaaPart8
import Derived.Test.YtaagmdhbfbikfaaPart6
import Derived.Test.YtaagmdhbfbikfaaPart5
import Derived.Test.YtaagmdhbfbikfaaPart4
import Derived.Test.YtaagmdhbfbikfaaPart1
/- A tree that is right: the model. -/
namespace Go.Proofs.Ytaagmdhbfbikfaa
open Go.RowKit
theorem qOk_item {Q : QD} {m d : Int} {c : Nat} (hc : c < Q.m) (h : itB Q c = false) : qOk Q m d = false := by
  unfold qOk
  rw [show itsB Q = false from decide_eq_false (fun k => by have := k.2 c hc; rw [h] at this; cases this)]
  simp
theorem mrd_kids {Q : QD} {d at_ : Nat} {x y s : Int} {e : Nat} (h : mrd Q (d + 1) at_ x y s = some e) (hT : Q.T at_ = true) : Q.L at_ = 0 ∧ ∀ k, k < 4 → ∃ a b, kp (fun a x y => mrd Q d a x y (s / 2)) (at_ + 1) x y (s / 2) k = some a ∧ mrd Q d a (kX x (s / 2) k) (kY y (s / 2) k) (s / 2) = some b := by
  have hb : baseB Q at_ x y s = true := by
    cases hb : baseB Q at_ x y s with
    | true => rfl
    | false => rw [mrd_no hb] at h; cases h
  have hL : Q.L at_ = 0 := by
    apply Classical.byContradiction
    intro hL
    rw [mrd_full hT hL] at h
    cases h
  refine ⟨hL, ?_⟩
  rw [mrd_split hb hT hL] at h
  have step : ∀ k b, kp (fun a x y => mrd Q d a x y (s / 2)) (at_ + 1) x y (s / 2) (k + 1) = some b → ∃ a, kp (fun a x y => mrd Q d a x y (s / 2)) (at_ + 1) x y (s / 2) k = some a ∧ mrd Q d a (kX x (s / 2) k) (kY y (s / 2) k) (s / 2) = some b := fun k b hk => Option.bind_eq_some_iff.1 hk
  obtain ⟨a3, h3, g3⟩ := step 3 e h
  obtain ⟨a2, h2, g2⟩ := step 2 a3 h3
  obtain ⟨a1, h1, g1⟩ := step 1 a2 h2
  obtain ⟨a0, h0, g0⟩ := step 0 a1 h1
  intro k hk
  rcases (show k = 0 ∨ k = 1 ∨ k = 2 ∨ k = 3 by omega) with h | h | h | h <;> subst h
  · exact ⟨_, _, h0, g0⟩
  · exact ⟨_, _, h1, g1⟩
  · exact ⟨_, _, h2, g2⟩
  · exact ⟨_, _, h3, g3⟩
theorem lenT_tr {Q : QD} (hL : ∀ i, i < Q.N → Q.L i ≤ 1048576) : ∀ {d at_ : Nat} {x y s : Int} {e : Nat}, mrd Q d at_ x y s = some e → lenT (trQ Q d at_ x y s)
  | d, at_, x, y, s, e, h => by
    have hle := mrd_le h
    cases hT : Q.T at_ with
    | false =>
      rw [trQ_leaf hT]
      show (blL Q at_).length ≤ 1048576
      rw [blL_len]
      exact hL at_ (by omega)
    | true =>
      cases d with
      | zero => rw [mrd_zero hT] at h; cases h
      | succ d =>
        unfold trQ
        rw [if_pos hT]
        intro k hk
        obtain ⟨a, b, h1, h2⟩ := (mrd_kids h hT).2 k hk
        dsimp only
        rw [h1]
        exact lenT_tr hL h2
/-- What the model's root tells. -/
def RtP (Q : QD) (m d : Int) (w : World) (r : Ending) (w' : World) : Prop :=
  Below w.heap.size w w' ∧ ((qOk Q m d = false ∧ r = .returned (.tuple #[.agg #[.int .i64 0, .int .i64 0, .int .i64 0, .slice none 0 0, .slice none 0 0], .bool false])) ∨ (qOk Q m d = true ∧ ∃ kv ev, r = .returned (.tuple #[.agg #[.int .i64 (-1048576), .int .i64 (-1048576), .int .i64 2097152, kv, ev], .bool true]) ∧ MTr (fun b => w.heap.size ≤ b) w' (trQ Q d.toNat 0 (-1048576) (-1048576) 2097152) (-1048576) (-1048576) 2097152 kv ev))
theorem root_sq : Sq (-1048576) (-1048576) 2097152 := ⟨by omega, by omega, by omega, by omega, by omega⟩
set_option maxRecDepth 100000 in
set_option maxHeartbeats 16000000 in
theorem l13Root_any (w : World) (Q : QD) (ao bo : Option Addr) (cap bcap A off : Nat) (so : Nat → Option Addr × Nat) (m d : Int) (hm : Q.m ≤ 1048576) (hN : Q.N ≤ 1048576) (hL : ∀ i, i < Q.N → Q.L i ≤ 1048576) (hbo : 0 < Q.N → bo = some ⟨A, off, none⟩) (hso : ∀ i, i < Q.N → (so i).1 = none → (so i).2 = 0) (hS : ItIn Q w ao (List.range Q.m)) (hBl : BlIn Q w A off so) : Calls Try.prog 22 #[.agg #[.int .i64 m, .int .i64 d, .slice ao Q.m cap, .slice bo Q.N bcap]] w (RtP Q m d w) := by
  have BP : Blk ((w.alloc (.cells #[.int .i64 m, .int .i64 d, .slice ao Q.m cap, .slice bo Q.N bcap] 31)).alloc (.cells #[.int .i64 0, .int .i64 0, .int .i64 0, .slice none 0 0, .slice none 0 0] 52)) w.heap.size [.int .i64 m, .int .i64 d, .slice ao Q.m cap, .slice bo Q.N bcap] := (Blk.new w [.int .i64 m, .int .i64 d, .slice ao Q.m cap, .slice bo Q.N bcap] 31 rfl).alloc _
  have BR : Blk ((w.alloc (.cells #[.int .i64 m, .int .i64 d, .slice ao Q.m cap, .slice bo Q.N bcap] 31)).alloc (.cells #[.int .i64 0, .int .i64 0, .int .i64 0, .slice none 0 0, .slice none 0 0] 52)) (w.heap.size + 1) [.int .i64 0, .int .i64 0, .int .i64 0, .slice none 0 0, .slice none 0 0] := Blk.new (w.alloc (.cells #[.int .i64 m, .int .i64 d, .slice ao Q.m cap, .slice bo Q.N bcap] 31)) [.int .i64 0, .int .i64 0, .int .i64 0, .slice none 0 0, .slice none 0 0] 52 (by simp)
  have HB : Below w.heap.size w ((w.alloc (.cells #[.int .i64 m, .int .i64 d, .slice ao Q.m cap, .slice bo Q.N bcap] 31)).alloc (.cells #[.int .i64 0, .int .i64 0, .int .i64 0, .slice none 0 0, .slice none 0 0] 52)) := ((Below.refl _ w).alloc (Nat.le_refl _) _).alloc (by simp) _
  have CL := l13Limits_any m d
  have HBl : Hid (BlIn Q w A off so) := hBl
  have HS0 : Hid (ItIn Q w ao (List.range Q.m)) := hS
  clear hS hBl
  obtain ⟨b1, hb1⟩ : ∃ b, limB m d = b := ⟨_, rfl⟩
  rw [hb1] at CL
  have HLIM : Hid (limB m d = b1) := hb1
  clear hb1
  have hmI : (Q.m : Int) ≤ 1048576 := by omega
  have hNI : (Q.N : Int) ≤ 1048576 := by omega
  go_enter Try.func22, Try.ntmps22
  go_upto_region 1 with fail
  generalize ((w.alloc (.cells #[.int .i64 m, .int .i64 d, .slice ao Q.m cap, .slice bo Q.N bcap] 31)).alloc (.cells #[.int .i64 0, .int .i64 0, .int .i64 0, .slice none 0 0, .slice none 0 0] 52)) = W1 at *
  have c0 := BP.c 0 rfl; have c1 := BP.c 1 rfl; have c2 := BP.c 2 rfl; have c3 := BP.c 3 rfl
  go_wp2_with fail
  refine (CL _).mono ?_
  rintro r w1 ⟨rfl, hB1⟩
  replace BP := BP.step hB1
  replace BR := BR.step hB1
  replace HB := HB.trans (hB1.mono HB.size)
  clear hB1 CL c0 c1 c2 c3
  have c0 := BP.c 0 rfl; have c1 := BP.c 1 rfl; have c2 := BP.c 2 rfl; have c3 := BP.c 3 rfl
  cases b1 with
  | false =>
    have z0 := BR.c 0 rfl; have y0 := BR.f 0 rfl; have z1 := BR.c 1 rfl; have y1 := BR.f 1 rfl; have z2 := BR.c 2 rfl; have y2 := BR.f 2 rfl; have z3 := BR.c 3 rfl; have y3 := BR.f 3 rfl; have z4 := BR.c 4 rfl; have y4 := BR.f 4 rfl
    have BF := z5_set BR
    clear BR
    go_wp2
    have r0 := BF.out.c 0 rfl; have r1 := BF.out.c 1 rfl; have r2 := BF.out.c 2 rfl; have r3 := BF.out.c 3 rfl; have r4 := BF.out.c 4 rfl
    refine bodyPost_ret (v := .tuple #[.agg #[.int .i64 0, .int .i64 0, .int .i64 0, .slice none 0 0, .slice none 0 0], .bool false]) (by simp [results, Try.results22, go_sem, r0, r1, r2, r3, r4]) rfl ?_
    exact ⟨(Below.setCell (Below.setCell (Below.setCell (Below.setCell (Below.setCell HB (Nat.le_succ _) _) (Nat.le_succ _) _) (Nat.le_succ _) _) (Nat.le_succ _) _) (Nat.le_succ _) _), .inl ⟨(by unfold qOk; rw [HLIM.out]; rfl), rfl⟩⟩
  | true =>
    by_cases h40 : 40 < Q.m
    · have h40I : (40 : Int) < Q.m := by omega
      have z0 := BR.c 0 rfl; have y0 := BR.f 0 rfl; have z1 := BR.c 1 rfl; have y1 := BR.f 1 rfl; have z2 := BR.c 2 rfl; have y2 := BR.f 2 rfl; have z3 := BR.c 3 rfl; have y3 := BR.f 3 rfl; have z4 := BR.c 4 rfl; have y4 := BR.f 4 rfl
      have BF := z5_set BR
      clear BR
      go_wp2
      have r0 := BF.out.c 0 rfl; have r1 := BF.out.c 1 rfl; have r2 := BF.out.c 2 rfl; have r3 := BF.out.c 3 rfl; have r4 := BF.out.c 4 rfl
      refine bodyPost_ret (v := .tuple #[.agg #[.int .i64 0, .int .i64 0, .int .i64 0, .slice none 0 0, .slice none 0 0], .bool false]) (by simp [results, Try.results22, go_sem, r0, r1, r2, r3, r4]) rfl ?_
      exact ⟨(Below.setCell (Below.setCell (Below.setCell (Below.setCell (Below.setCell HB (Nat.le_succ _) _) (Nat.le_succ _) _) (Nat.le_succ _) _) (Nat.le_succ _) _) (Nat.le_succ _) _), .inl ⟨(by unfold qOk; rw [show itsB Q = false from decide_eq_false (fun k => by have := k.1; omega)]; simp), rfl⟩⟩
    by_cases h2k : 2000 < Q.N
    · have h2kI : (2000 : Int) < Q.N := by omega
      have h40I : (Q.m : Int) ≤ 40 := by omega
      have z0 := BR.c 0 rfl; have y0 := BR.f 0 rfl; have z1 := BR.c 1 rfl; have y1 := BR.f 1 rfl; have z2 := BR.c 2 rfl; have y2 := BR.f 2 rfl; have z3 := BR.c 3 rfl; have y3 := BR.f 3 rfl; have z4 := BR.c 4 rfl; have y4 := BR.f 4 rfl
      have BF := z5_set BR
      clear BR
      go_wp2
      have r0 := BF.out.c 0 rfl; have r1 := BF.out.c 1 rfl; have r2 := BF.out.c 2 rfl; have r3 := BF.out.c 3 rfl; have r4 := BF.out.c 4 rfl
      refine bodyPost_ret (v := .tuple #[.agg #[.int .i64 0, .int .i64 0, .int .i64 0, .slice none 0 0, .slice none 0 0], .bool false]) (by simp [results, Try.results22, go_sem, r0, r1, r2, r3, r4]) rfl ?_
      exact ⟨(Below.setCell (Below.setCell (Below.setCell (Below.setCell (Below.setCell HB (Nat.le_succ _) _) (Nat.le_succ _) _) (Nat.le_succ _) _) (Nat.le_succ _) _) (Nat.le_succ _) _), .inl ⟨(by unfold qOk; rw [decide_eq_false (show ¬ Q.N ≤ 2000 by omega)]; simp), rfl⟩⟩
    have h40I : (Q.m : Int) ≤ 40 := by omega
    have h2kI : (Q.N : Int) ≤ 2000 := by omega
    have h40n : Q.m ≤ 40 := by omega
    go_wp2_with fail
    clear c0 c1 c2 c3
    go_loopw [4] (fun i wr => ∃ c : Nat, c ≤ Q.m ∧ i = .int .i64 c ∧ (∀ j, j < c → itB Q j = true) ∧ Blk wr w.heap.size [.int .i64 m, .int .i64 d, .slice ao Q.m cap, .slice bo Q.N bcap] ∧ Blk wr (w.heap.size + 1) [.int .i64 0, .int .i64 0, .int .i64 0, .slice none 0 0, .slice none 0 0] ∧ ItIn Q wr ao (List.range Q.m) ∧ Below w.heap.size w wr) (fun i _ => Q.m - (intOf i).toNat)
    case atStart => exact ⟨0, by omega, rfl, fun j hj => absurd hj (by omega), BP, BR, HS0.out.step HB, HB⟩
    case round =>
      clear BP BR HB
      obtain ⟨c, hc, rfl, hall, BP, BR, hS, HB⟩ := hrel
      have HALL : Hid (∀ j, j < c → itB Q j = true) := hall
      clear hall
      have p2 := BP.c 2 rfl
      have hpl := BP.lt
      by_cases hcm : c < Q.m
      · have hcI : (c : Int) < Q.m := by omega
        obtain ⟨A, off, rfl, hA, c0, c1, c2, c3, c4⟩ := hS c c (by simp [hcm])
        have HS : Hid (ItIn Q wr (some ⟨A, off, none⟩) (List.range Q.m)) := hS
        clear hS
        go_upto_region 6 with fail
        clear p2
        by_cases hid : 1 ≤ Q.I c ∧ Q.I c ≤ 1000
        rotate_left
        · have HIT : itB Q c = false := decide_eq_false (fun h => hid h.1)
          refine rrA (P := w.heap.size) (A := A) (off := off) (n := Q.m) (cap := cap) (k_ := c) (id := Q.I c) (decide_eq_false hid) hcm h40n rfl rfl (BP.c 2 rfl) hpl c0 hA c1 hA c2 hA c3 hA c4 hA rfl ?_
          rintro ⟨tm, df⟩ Wz hz hdf hoff hx hBz
          simp only at hz hdf hoff hx
          change tm.getD 71 undef = .bool true at hx
          subst hdf
          have htm := tmps_fold [34, 35, 36, 37, 38, 39, 40, 41, 42, 43, 44, 45, 46, 47, 48, 49, 50, 51, 52, 53, 54, 55, 56, 57, 58, 59, 60, 61, 62, 63, 64, 65, 66, 67, 68, 69, 70, 71] tm _ hz hoff
          simp only [List.foldl, List.setIfInBounds_toArray, List.set_cons_zero, List.set_cons_succ, hx] at htm
          clear hz hoff
          generalize tm.getD 34 undef = pz0, tm.getD 35 undef = pz1, tm.getD 36 undef = pz2, tm.getD 37 undef = pz3, tm.getD 38 undef = pz4, tm.getD 39 undef = pz5, tm.getD 40 undef = pz6, tm.getD 41 undef = pz7, tm.getD 42 undef = pz8, tm.getD 43 undef = pz9, tm.getD 44 undef = pz10, tm.getD 45 undef = pz11, tm.getD 46 undef = pz12, tm.getD 47 undef = pz13, tm.getD 48 undef = pz14, tm.getD 49 undef = pz15, tm.getD 50 undef = pz16, tm.getD 51 undef = pz17, tm.getD 52 undef = pz18, tm.getD 53 undef = pz19, tm.getD 54 undef = pz20, tm.getD 55 undef = pz21, tm.getD 56 undef = pz22, tm.getD 57 undef = pz23, tm.getD 58 undef = pz24, tm.getD 59 undef = pz25, tm.getD 60 undef = pz26, tm.getD 61 undef = pz27, tm.getD 62 undef = pz28, tm.getD 63 undef = pz29, tm.getD 64 undef = pz30, tm.getD 65 undef = pz31, tm.getD 66 undef = pz32, tm.getD 67 undef = pz33, tm.getD 68 undef = pz34, tm.getD 69 undef = pz35, tm.getD 70 undef = pz36 at htm
          clear hx
          subst htm
          replace BP := BP.step hBz
          replace BR := BR.step hBz
          replace HB := HB.trans (hBz.mono HB.size)
          replace HS : Hid (ItIn Q Wz (some ⟨A, off, none⟩) (List.range Q.m)) := HS.out.step hBz
          clear hBz c0 c1 c2 c3 c4
          have z0 := BR.c 0 rfl; have y0 := BR.f 0 rfl; have z1 := BR.c 1 rfl; have y1 := BR.f 1 rfl; have z2 := BR.c 2 rfl; have y2 := BR.f 2 rfl; have z3 := BR.c 3 rfl; have y3 := BR.f 3 rfl; have z4 := BR.c 4 rfl; have y4 := BR.f 4 rfl
          have BF := z5_set BR
          clear BR
          go_wp2
          have r0 := BF.out.c 0 rfl; have r1 := BF.out.c 1 rfl; have r2 := BF.out.c 2 rfl; have r3 := BF.out.c 3 rfl; have r4 := BF.out.c 4 rfl
          refine bodyPost_ret (v := .tuple #[.agg #[.int .i64 0, .int .i64 0, .int .i64 0, .slice none 0 0, .slice none 0 0], .bool false]) (by simp [results, Try.results22, go_sem, r0, r1, r2, r3, r4]) rfl ?_
          exact ⟨(Below.setCell (Below.setCell (Below.setCell (Below.setCell (Below.setCell HB (Nat.le_succ _) _) (Nat.le_succ _) _) (Nat.le_succ _) _) (Nat.le_succ _) _) (Nat.le_succ _) _), .inl ⟨(qOk_item hcm HIT), rfl⟩⟩
        cases hsg : segOk (Q.S c).1 (Q.S c).2.1 (Q.S c).2.2.1 (Q.S c).2.2.2 with
        | false =>
          have HIT : itB Q c = false := decide_eq_false (fun h => by rw [hsg] at h; cases h.2.1)
          refine rrB (P := w.heap.size) (A := A) (off := off) (n := Q.m) (cap := cap) (k_ := c) (id := Q.I c) (a := (Q.S c).1) (bb := (Q.S c).2.1) (c := (Q.S c).2.2.1) (d := (Q.S c).2.2.2) (decide_eq_true hid) hcm h40n hsg rfl rfl (BP.c 2 rfl) hpl c0 hA c1 hA c2 hA c3 hA c4 hA rfl ?_
          rintro ⟨tm, df⟩ Wz hz hdf hoff hx hBz
          simp only at hz hdf hoff hx
          change tm.getD 71 undef = .bool true at hx
          subst hdf
          have htm := tmps_fold [34, 35, 36, 37, 38, 39, 40, 41, 42, 43, 44, 45, 46, 47, 48, 49, 50, 51, 52, 53, 54, 55, 56, 57, 58, 59, 60, 61, 62, 63, 64, 65, 66, 67, 68, 69, 70, 71] tm _ hz hoff
          simp only [List.foldl, List.setIfInBounds_toArray, List.set_cons_zero, List.set_cons_succ, hx] at htm
          clear hz hoff
          generalize tm.getD 34 undef = pz0, tm.getD 35 undef = pz1, tm.getD 36 undef = pz2, tm.getD 37 undef = pz3, tm.getD 38 undef = pz4, tm.getD 39 undef = pz5, tm.getD 40 undef = pz6, tm.getD 41 undef = pz7, tm.getD 42 undef = pz8, tm.getD 43 undef = pz9, tm.getD 44 undef = pz10, tm.getD 45 undef = pz11, tm.getD 46 undef = pz12, tm.getD 47 undef = pz13, tm.getD 48 undef = pz14, tm.getD 49 undef = pz15, tm.getD 50 undef = pz16, tm.getD 51 undef = pz17, tm.getD 52 undef = pz18, tm.getD 53 undef = pz19, tm.getD 54 undef = pz20, tm.getD 55 undef = pz21, tm.getD 56 undef = pz22, tm.getD 57 undef = pz23, tm.getD 58 undef = pz24, tm.getD 59 undef = pz25, tm.getD 60 undef = pz26, tm.getD 61 undef = pz27, tm.getD 62 undef = pz28, tm.getD 63 undef = pz29, tm.getD 64 undef = pz30, tm.getD 65 undef = pz31, tm.getD 66 undef = pz32, tm.getD 67 undef = pz33, tm.getD 68 undef = pz34, tm.getD 69 undef = pz35, tm.getD 70 undef = pz36 at htm
          clear hx
          subst htm
          replace BP := BP.step hBz
          replace BR := BR.step hBz
          replace HB := HB.trans (hBz.mono HB.size)
          replace HS : Hid (ItIn Q Wz (some ⟨A, off, none⟩) (List.range Q.m)) := HS.out.step hBz
          clear hBz c0 c1 c2 c3 c4
          have z0 := BR.c 0 rfl; have y0 := BR.f 0 rfl; have z1 := BR.c 1 rfl; have y1 := BR.f 1 rfl; have z2 := BR.c 2 rfl; have y2 := BR.f 2 rfl; have z3 := BR.c 3 rfl; have y3 := BR.f 3 rfl; have z4 := BR.c 4 rfl; have y4 := BR.f 4 rfl
          have BF := z5_set BR
          clear BR
          go_wp2
          have r0 := BF.out.c 0 rfl; have r1 := BF.out.c 1 rfl; have r2 := BF.out.c 2 rfl; have r3 := BF.out.c 3 rfl; have r4 := BF.out.c 4 rfl
          refine bodyPost_ret (v := .tuple #[.agg #[.int .i64 0, .int .i64 0, .int .i64 0, .slice none 0 0, .slice none 0 0], .bool false]) (by simp [results, Try.results22, go_sem, r0, r1, r2, r3, r4]) rfl ?_
          exact ⟨(Below.setCell (Below.setCell (Below.setCell (Below.setCell (Below.setCell HB (Nat.le_succ _) _) (Nat.le_succ _) _) (Nat.le_succ _) _) (Nat.le_succ _) _) (Nat.le_succ _) _), .inl ⟨(qOk_item hcm HIT), rfl⟩⟩
        | true =>
          rcases Nat.eq_zero_or_pos c with hc0 | hc0
          · have HIT : itB Q c = true := decide_eq_true ⟨hid, hsg, fun h => absurd h (by omega)⟩
            have HC0 : Hid (c = 0) := hc0
            clear hc0
            refine rrC (P := w.heap.size) (A := A) (off := off) (n := Q.m) (cap := cap) (k_ := c) (id := Q.I c) (a := (Q.S c).1) (bb := (Q.S c).2.1) (c := (Q.S c).2.2.1) (d := (Q.S c).2.2.2) (decide_eq_true hid) hcm h40n hsg HC0 rfl rfl (BP.c 2 rfl) hpl c0 hA c1 hA c2 hA c3 hA c4 hA rfl ?_
            rintro ⟨tm, df⟩ Wz hz hdf hoff hx hBz
            simp only at hz hdf hoff hx
            change tm.getD 71 undef = .bool false at hx
            subst hdf
            have htm := tmps_fold [34, 35, 36, 37, 38, 39, 40, 41, 42, 43, 44, 45, 46, 47, 48, 49, 50, 51, 52, 53, 54, 55, 56, 57, 58, 59, 60, 61, 62, 63, 64, 65, 66, 67, 68, 69, 70, 71] tm _ hz hoff
            simp only [List.foldl, List.setIfInBounds_toArray, List.set_cons_zero, List.set_cons_succ, hx] at htm
            clear hz hoff
            generalize tm.getD 34 undef = pz0, tm.getD 35 undef = pz1, tm.getD 36 undef = pz2, tm.getD 37 undef = pz3, tm.getD 38 undef = pz4, tm.getD 39 undef = pz5, tm.getD 40 undef = pz6, tm.getD 41 undef = pz7, tm.getD 42 undef = pz8, tm.getD 43 undef = pz9, tm.getD 44 undef = pz10, tm.getD 45 undef = pz11, tm.getD 46 undef = pz12, tm.getD 47 undef = pz13, tm.getD 48 undef = pz14, tm.getD 49 undef = pz15, tm.getD 50 undef = pz16, tm.getD 51 undef = pz17, tm.getD 52 undef = pz18, tm.getD 53 undef = pz19, tm.getD 54 undef = pz20, tm.getD 55 undef = pz21, tm.getD 56 undef = pz22, tm.getD 57 undef = pz23, tm.getD 58 undef = pz24, tm.getD 59 undef = pz25, tm.getD 60 undef = pz26, tm.getD 61 undef = pz27, tm.getD 62 undef = pz28, tm.getD 63 undef = pz29, tm.getD 64 undef = pz30, tm.getD 65 undef = pz31, tm.getD 66 undef = pz32, tm.getD 67 undef = pz33, tm.getD 68 undef = pz34, tm.getD 69 undef = pz35, tm.getD 70 undef = pz36 at htm
            clear hx
            subst htm
            replace BP := BP.step hBz
            replace BR := BR.step hBz
            replace HB := HB.trans (hBz.mono HB.size)
            replace HS : Hid (ItIn Q Wz (some ⟨A, off, none⟩) (List.range Q.m)) := HS.out.step hBz
            clear hBz c0 c1 c2 c3 c4
            have HN : Hid (∀ j, j < c + 1 → itB Q j = true) := fun j hj => by
              by_cases e : j = c
              · subst e; exact HIT
              · exact HALL.out j (by omega)
            clear HIT
            go_wp2
            go_roundw
            case rel => exact ⟨c + 1, by omega, by go_num, HN.out, BP, BR, HS.out, HB⟩
            case measure => simp [intOf]; omega
          · obtain ⟨jj, hjj⟩ : ∃ jj, c = jj + 1 := ⟨c - 1, by omega⟩
            have HJ : Hid (c = jj + 1) := hjj
            obtain ⟨A2, o2, e2, hA2, d0, _⟩ := HS.out jj jj (by simp [show jj < Q.m by omega])
            cases e2
            have hj1 : c - 1 = jj := by omega
            clear hjj
            refine rrD (P := w.heap.size) (A := A) (off := off) (n := Q.m) (cap := cap) (k_ := c) (id := Q.I c) (jj := jj) (ie := Q.I jj) (a := (Q.S c).1) (bb := (Q.S c).2.1) (c := (Q.S c).2.2.1) (d := (Q.S c).2.2.2) (decide_eq_true hid) hcm h40n hsg HJ rfl rfl (BP.c 2 rfl) hpl c0 hA c1 hA c2 hA c3 hA c4 hA d0 hA rfl ?_
            rintro ⟨tm, df⟩ Wz hz hdf hoff hx hBz
            simp only at hz hdf hoff hx
            change tm.getD 71 undef = .bool (decide (Q.I c ≤ Q.I jj)) at hx
            subst hdf
            have htm := tmps_fold [34, 35, 36, 37, 38, 39, 40, 41, 42, 43, 44, 45, 46, 47, 48, 49, 50, 51, 52, 53, 54, 55, 56, 57, 58, 59, 60, 61, 62, 63, 64, 65, 66, 67, 68, 69, 70, 71] tm _ hz hoff
            simp only [List.foldl, List.setIfInBounds_toArray, List.set_cons_zero, List.set_cons_succ, hx] at htm
            clear hz hoff
            generalize tm.getD 34 undef = pz0, tm.getD 35 undef = pz1, tm.getD 36 undef = pz2, tm.getD 37 undef = pz3, tm.getD 38 undef = pz4, tm.getD 39 undef = pz5, tm.getD 40 undef = pz6, tm.getD 41 undef = pz7, tm.getD 42 undef = pz8, tm.getD 43 undef = pz9, tm.getD 44 undef = pz10, tm.getD 45 undef = pz11, tm.getD 46 undef = pz12, tm.getD 47 undef = pz13, tm.getD 48 undef = pz14, tm.getD 49 undef = pz15, tm.getD 50 undef = pz16, tm.getD 51 undef = pz17, tm.getD 52 undef = pz18, tm.getD 53 undef = pz19, tm.getD 54 undef = pz20, tm.getD 55 undef = pz21, tm.getD 56 undef = pz22, tm.getD 57 undef = pz23, tm.getD 58 undef = pz24, tm.getD 59 undef = pz25, tm.getD 60 undef = pz26, tm.getD 61 undef = pz27, tm.getD 62 undef = pz28, tm.getD 63 undef = pz29, tm.getD 64 undef = pz30, tm.getD 65 undef = pz31, tm.getD 66 undef = pz32, tm.getD 67 undef = pz33, tm.getD 68 undef = pz34, tm.getD 69 undef = pz35, tm.getD 70 undef = pz36 at htm
            clear hx
            subst htm
            replace BP := BP.step hBz
            replace BR := BR.step hBz
            replace HB := HB.trans (hBz.mono HB.size)
            replace HS : Hid (ItIn Q Wz (some ⟨A, off, none⟩) (List.range Q.m)) := HS.out.step hBz
            clear hBz c0 c1 c2 c3 c4
            clear d0
            by_cases hle : Q.I c ≤ Q.I jj
            · rw [decide_eq_true hle]
              have HIT : itB Q c = false := decide_eq_false (fun h => by have := h.2.2 hc0; rw [hj1] at this; omega)
              clear hle hj1
              have z0 := BR.c 0 rfl; have y0 := BR.f 0 rfl; have z1 := BR.c 1 rfl; have y1 := BR.f 1 rfl; have z2 := BR.c 2 rfl; have y2 := BR.f 2 rfl; have z3 := BR.c 3 rfl; have y3 := BR.f 3 rfl; have z4 := BR.c 4 rfl; have y4 := BR.f 4 rfl
              have BF := z5_set BR
              clear BR
              go_wp2
              have r0 := BF.out.c 0 rfl; have r1 := BF.out.c 1 rfl; have r2 := BF.out.c 2 rfl; have r3 := BF.out.c 3 rfl; have r4 := BF.out.c 4 rfl
              refine bodyPost_ret (v := .tuple #[.agg #[.int .i64 0, .int .i64 0, .int .i64 0, .slice none 0 0, .slice none 0 0], .bool false]) (by simp [results, Try.results22, go_sem, r0, r1, r2, r3, r4]) rfl ?_
              exact ⟨(Below.setCell (Below.setCell (Below.setCell (Below.setCell (Below.setCell HB (Nat.le_succ _) _) (Nat.le_succ _) _) (Nat.le_succ _) _) (Nat.le_succ _) _) (Nat.le_succ _) _), .inl ⟨(qOk_item hcm HIT), rfl⟩⟩
            · rw [decide_eq_false hle]
              have HIT : itB Q c = true := decide_eq_true ⟨hid, hsg, fun _ => by rw [hj1]; omega⟩
              clear hle hj1
              have HN : Hid (∀ j, j < c + 1 → itB Q j = true) := fun j hj => by
                by_cases e : j = c
                · subst e; exact HIT
                · exact HALL.out j (by omega)
              clear HIT
              go_wp2
              go_roundw
              case rel => exact ⟨c + 1, by omega, by go_num, HN.out, BP, BR, HS.out, HB⟩
              case measure => simp [intOf]; omega
      · obtain rfl : c = Q.m := by omega
        have HIT : Hid (itsB Q = true) := decide_eq_true ⟨h40n, HALL.out⟩
        have hd8 : 0 ≤ d ∧ d ≤ 8 := by
          have h := HLIM.out
          unfold limB at h
          simp at h
          omega
        obtain ⟨D, hDd⟩ : ∃ D : Nat, (D : Int) = d := ⟨d.toNat, by omega⟩
        have hDn : Hid (d.toNat = D) := by show d.toNat = D; omega
        have HQ : Hid (qOk Q m d = true ↔ mrd Q D 0 (-1048576) (-1048576) 2097152 = some Q.N ∧ rtB Q D 0 (-1048576) (-1048576) 2097152 = true) := by
          show _ ↔ _
          rw [← qrd_both]
          unfold qOk
          rw [HLIM.out, HIT.out, hDn.out, decide_eq_true (show Q.N ≤ 2000 by omega)]
          simp
        have RD := l13Read_any Q bo bcap A off so w hN hL hbo hso HBl.out D 0 (-1048576) (-1048576) 2097152 wr (by omega) (by omega) root_sq HB
        rw [hDd, show ((0 : Nat) : Int) = 0 from rfl] at RD
        have HL' : Hid (∀ i, i < Q.N → Q.L i ≤ 1048576) := hL
        have p1 := BP.c 1 rfl; have p3 := BP.c 3 rfl
        have HS : Hid (ItIn Q wr ao (List.range Q.m)) := hS
        clear HALL hS hd8 hDd
        go_wp2_with fail
        refine RD.mono ?_
        rintro r w5 ⟨hB5, hC⟩
        have BR0lt := BR.lt
        replace BP := BP.step hB5
        replace BR := BR.step hB5
        replace HB := HB.trans (hB5.mono HB.size)
        have HG6 : Hid (w.heap.size + 1 < wr.heap.size) := BR0lt
        replace HS : Hid (ItIn Q w5 ao (List.range Q.m)) := HS.out.step hB5
        clear RD p1 p2 p3 hB5 hpl
        rcases hC with ⟨hn, rfl⟩ | ⟨e, kv, ev, he, rfl, hM⟩
        · have hno : Hid (qOk Q m d = false) := Bool.eq_false_iff.2 (fun h => by have := (HQ.out.1 h).1; rw [hn] at this; cases this)
          replace BR := BR.alloc (.cells #[.int .i64 0, .int .i64 0, .int .i64 0, .slice none 0 0, .slice none 0 0] 52)
          replace HB := HB.alloc HB.size (.cells #[.int .i64 0, .int .i64 0, .int .i64 0, .slice none 0 0, .slice none 0 0] 52)
          clear hn BP
          go_upto_region 9 with fail
          generalize (w5.alloc (.cells #[.int .i64 0, .int .i64 0, .int .i64 0, .slice none 0 0, .slice none 0 0] 52)) = w6 at *
          have z0 := BR.c 0 rfl; have y0 := BR.f 0 rfl; have z1 := BR.c 1 rfl; have y1 := BR.f 1 rfl; have z2 := BR.c 2 rfl; have y2 := BR.f 2 rfl; have z3 := BR.c 3 rfl; have y3 := BR.f 3 rfl; have z4 := BR.c 4 rfl; have y4 := BR.f 4 rfl
          have BF := z5_set BR
          clear BR
          go_wp2
          have r0 := BF.out.c 0 rfl; have r1 := BF.out.c 1 rfl; have r2 := BF.out.c 2 rfl; have r3 := BF.out.c 3 rfl; have r4 := BF.out.c 4 rfl
          refine bodyPost_ret (v := .tuple #[.agg #[.int .i64 0, .int .i64 0, .int .i64 0, .slice none 0 0, .slice none 0 0], .bool false]) (by simp [results, Try.results22, go_sem, r0, r1, r2, r3, r4]) rfl ?_
          exact ⟨(Below.setCell (Below.setCell (Below.setCell (Below.setCell (Below.setCell HB (Nat.le_succ _) _) (Nat.le_succ _) _) (Nat.le_succ _) _) (Nat.le_succ _) _) (Nat.le_succ _) _), .inl ⟨hno.out, rfl⟩⟩
        · obtain ⟨ko, kn, kc, eo, en, ec, rfl, rfl⟩ := hM.vals
          have HE : Hid (mrd Q D 0 (-1048576) (-1048576) 2097152 = some e) := he
          have B5 : Blk (w5.alloc (.cells #[.int .i64 (-1048576), .int .i64 (-1048576), .int .i64 2097152, .slice ko kn kc, .slice eo en ec] 52)) w5.heap.size [.int .i64 (-1048576), .int .i64 (-1048576), .int .i64 2097152, .slice ko kn kc, .slice eo en ec] := Blk.new w5 [.int .i64 (-1048576), .int .i64 (-1048576), .int .i64 2097152, .slice ko kn kc, .slice eo en ec] 52 rfl
          have hB6 : Below w5.heap.size w5 (w5.alloc (.cells #[.int .i64 (-1048576), .int .i64 (-1048576), .int .i64 2097152, .slice ko kn kc, .slice eo en ec] 52)) := (Below.refl _ _).alloc (Nat.le_refl _) _
          replace BP := BP.step hB6
          replace BR := BR.step hB6
          replace HB := HB.trans (hB6.mono HB.size)
          replace HS : Hid (ItIn Q (w5.alloc (.cells #[.int .i64 (-1048576), .int .i64 (-1048576), .int .i64 2097152, .slice ko kn kc, .slice eo en ec] 52)) ao (List.range Q.m)) := HS.out.step hB6
          replace hM := hM.step hB6
          clear he hB6
          go_upto_region 9 with fail
          generalize (w5.alloc (.cells #[.int .i64 (-1048576), .int .i64 (-1048576), .int .i64 2097152, .slice ko kn kc, .slice eo en ec] 52)) = w6 at *
          have p3 := BP.c 3 rfl; have p2 := BP.c 2 rfl
          have k0 := B5.c 0 rfl; have k1 := B5.c 1 rfl; have k2 := B5.c 2 rfl; have k3 := B5.c 3 rfl; have k4 := B5.c 4 rfl
          by_cases hen : e = Q.N
          · subst hen
            have RT := treeRight_any Q ao cap (its6_of HIT.out) hm (trQ Q D 0 (-1048576) (-1048576) 2097152) (-1048576) (-1048576) 2097152 _ _ _ w6 root_sq (lenT_tr HL'.out HE.out) hM HS.out
            obtain ⟨b2, hb2⟩ : ∃ b, rtT Q (trQ Q D 0 (-1048576) (-1048576) 2097152) (-1048576) (-1048576) 2097152 = b := ⟨_, rfl⟩
            have HB2 : Hid (rtB Q D 0 (-1048576) (-1048576) 2097152 = b2) := (rt_tr Q D 0 _ _ _ (by rw [HE.out]; rfl)).trans hb2
            rw [hb2] at RT
            clear hb2
            go_wp2_with fail
            refine RT.mono ?_
            rintro r w7 ⟨rfl, hB7⟩
            replace BR := BR.step hB7
            replace B5 := B5.step hB7
            replace HB := HB.trans (hB7.mono HB.size)
            replace hM := hM.step hB7
            clear RT BP hB7 p2 p3 k0 k1 k2 k3 k4 HS
            cases b2 with
            | false =>
              have hno : Hid (qOk Q m d = false) := Bool.eq_false_iff.2 (fun h => by have := (HQ.out.1 h).2; rw [HB2.out] at this; cases this)
              have z0 := BR.c 0 rfl; have y0 := BR.f 0 rfl; have z1 := BR.c 1 rfl; have y1 := BR.f 1 rfl; have z2 := BR.c 2 rfl; have y2 := BR.f 2 rfl; have z3 := BR.c 3 rfl; have y3 := BR.f 3 rfl; have z4 := BR.c 4 rfl; have y4 := BR.f 4 rfl
              have BF := z5_set BR
              clear BR
              go_wp2
              have r0 := BF.out.c 0 rfl; have r1 := BF.out.c 1 rfl; have r2 := BF.out.c 2 rfl; have r3 := BF.out.c 3 rfl; have r4 := BF.out.c 4 rfl
              refine bodyPost_ret (v := .tuple #[.agg #[.int .i64 0, .int .i64 0, .int .i64 0, .slice none 0 0, .slice none 0 0], .bool false]) (by simp [results, Try.results22, go_sem, r0, r1, r2, r3, r4]) rfl ?_
              exact ⟨(Below.setCell (Below.setCell (Below.setCell (Below.setCell (Below.setCell HB (Nat.le_succ _) _) (Nat.le_succ _) _) (Nat.le_succ _) _) (Nat.le_succ _) _) (Nat.le_succ _) _), .inl ⟨hno.out, rfl⟩⟩
            | true =>
              have hyes : Hid (qOk Q m d = true) := HQ.out.2 ⟨HE.out, HB2.out⟩
              have HM : Hid (MTr (fun b => w.heap.size + 1 < b) w7 (trQ Q D 0 (-1048576) (-1048576) 2097152) (-1048576) (-1048576) 2097152 (.slice ko kn kc) (.slice eo en ec)) := MTr.keep (Nat.le_refl _) (fun _ _ _ => rfl) (fun b hb _ => Nat.lt_of_lt_of_le HG6.out hb) hM
              have z0 := BR.c 0 rfl; have z1 := BR.c 1 rfl; have z2 := BR.c 2 rfl; have z3 := BR.c 3 rfl; have z4 := BR.c 4 rfl; have y0 := BR.f 0 rfl; have y1 := BR.f 1 rfl; have y2 := BR.f 2 rfl; have y3 := BR.f 3 rfl; have y4 := BR.f 4 rfl
              have k0 := B5.c 0 rfl; have k1 := B5.c 1 rfl; have k2 := B5.c 2 rfl; have k3 := B5.c 3 rfl; have k4 := B5.c 4 rfl
              have BF : Hid (Blk (((((w7.setCell ⟨(w.heap.size + 1), 0, none⟩ (.int .i64 (-1048576))).setCell ⟨(w.heap.size + 1), 1, none⟩ (.int .i64 (-1048576))).setCell ⟨(w.heap.size + 1), 2, none⟩ (.int .i64 2097152)).setCell ⟨(w.heap.size + 1), 3, none⟩ (.slice ko kn kc)).setCell ⟨(w.heap.size + 1), 4, none⟩ (.slice eo en ec)) (w.heap.size + 1) [.int .i64 (-1048576), .int .i64 (-1048576), .int .i64 2097152, .slice ko kn kc, .slice eo en ec]) := ((((BR.setI 0 (by decide) _).setI 1 (by simp) _).setI 2 (by simp) _).setI 3 (by simp) _).setI 4 (by simp) _
              clear BR B5 hM
              go_wp2
              have r0 := BF.out.c 0 rfl; have r1 := BF.out.c 1 rfl; have r2 := BF.out.c 2 rfl; have r3 := BF.out.c 3 rfl; have r4 := BF.out.c 4 rfl
              refine bodyPost_ret (v := .tuple #[.agg #[.int .i64 (-1048576), .int .i64 (-1048576), .int .i64 2097152, .slice ko kn kc, .slice eo en ec], .bool true]) (by simp [results, Try.results22, go_sem, r0, r1, r2, r3, r4]) rfl ?_
              refine ⟨(Below.setCell (Below.setCell (Below.setCell (Below.setCell (Below.setCell HB (Nat.le_succ _) _) (Nat.le_succ _) _) (Nat.le_succ _) _) (Nat.le_succ _) _) (Nat.le_succ _) _), .inr ⟨hyes.out, _, _, rfl, ?_⟩⟩
              rw [hDn.out]
              exact MTr.keep (by simp [World.setCell]) (fun b hb _ => z5_other (by omega)) (fun b hb _ => by omega) HM.out
          · have hneI : ((e : Int) == (Q.N : Int)) = false := by simp; omega
            have hno : Hid (qOk Q m d = false) := Bool.eq_false_iff.2 (fun h => by have := (HQ.out.1 h).1; rw [HE.out] at this; exact hen (Option.some.inj this))
            clear BP B5 hM HS
            have z0 := BR.c 0 rfl; have y0 := BR.f 0 rfl; have z1 := BR.c 1 rfl; have y1 := BR.f 1 rfl; have z2 := BR.c 2 rfl; have y2 := BR.f 2 rfl; have z3 := BR.c 3 rfl; have y3 := BR.f 3 rfl; have z4 := BR.c 4 rfl; have y4 := BR.f 4 rfl
            have BF := z5_set BR
            clear BR
            go_wp2
            have r0 := BF.out.c 0 rfl; have r1 := BF.out.c 1 rfl; have r2 := BF.out.c 2 rfl; have r3 := BF.out.c 3 rfl; have r4 := BF.out.c 4 rfl
            refine bodyPost_ret (v := .tuple #[.agg #[.int .i64 0, .int .i64 0, .int .i64 0, .slice none 0 0, .slice none 0 0], .bool false]) (by simp [results, Try.results22, go_sem, r0, r1, r2, r3, r4]) rfl ?_
            exact ⟨(Below.setCell (Below.setCell (Below.setCell (Below.setCell (Below.setCell HB (Nat.le_succ _) _) (Nat.le_succ _) _) (Nat.le_succ _) _) (Nat.le_succ _) _) (Nat.le_succ _) _), .inl ⟨hno.out, rfl⟩⟩
end Go.Proofs.Ytaagmdhbfbikfaa

/- Trees held against one another, counted; the law of a right tree. -/
namespace Go.Proofs.Ytaagmdhbfbikfaa
open Go.RowKit
set_option maxRecDepth 100000 in
set_option maxHeartbeats 2000000 in
theorem eqQuad_any (Q : QD) (m d : Int) (ao bo co do_ : Option Addr) (ca cb cc cd A off D od : Nat) (so ro : Nat → Option Addr × Nat) (hm : Q.m ≤ 1048576) (hN : Q.N ≤ 1048576) (hL : ∀ i, i < Q.N → Q.L i ≤ 1048576) (w : World) (hbo : 0 < Q.N → bo = some ⟨A, off, none⟩) (hdo : 0 < Q.N → do_ = some ⟨D, od, none⟩) (hI : ItIn Q w ao (List.range Q.m)) (hJ : ItIn Q w co (List.range Q.m)) (hA : BlIn Q w A off so) (hC : BlIn Q w D od ro) : Calls Try.prog 10 #[.agg #[.int .i64 m, .int .i64 d, .slice ao Q.m ca, .slice bo Q.N cb], .agg #[.int .i64 m, .int .i64 d, .slice co Q.m cc, .slice do_ Q.N cd]] w (VP (.bool true) w) := by
  have B0 := (Blk.new w [.int .i64 m, .int .i64 d, .slice ao Q.m ca, .slice bo Q.N cb] 31 rfl).alloc (.cells #[.int .i64 m, .int .i64 d, .slice co Q.m cc, .slice do_ Q.N cd] 31)
  have B1 := Blk.new (w.alloc (.cells #[.int .i64 m, .int .i64 d, .slice ao Q.m ca, .slice bo Q.N cb] 31)) [.int .i64 m, .int .i64 d, .slice co Q.m cc, .slice do_ Q.N cd] 31 (g := w.heap.size + 1) (by simp)
  have HB := ((Below.refl _ w).alloc (Nat.le_refl _) (.cells #[.int .i64 m, .int .i64 d, .slice ao Q.m ca, .slice bo Q.N cb] 31)).alloc (by simp) (.cells #[.int .i64 m, .int .i64 d, .slice co Q.m cc, .slice do_ Q.N cd] 31)
  have HI : Hid (ItIn Q w ao (List.range Q.m)) := hI
  have HJ : Hid (ItIn Q w co (List.range Q.m)) := hJ
  have HA : Hid (BlIn Q w A off so) := hA
  have HC : Hid (BlIn Q w D od ro) := hC
  have E1 := fun w h h' => eqItemS_any Q ao co ca cc hm w h h'
  have E2 := fun w h h' => eqBlockS_any Q bo do_ cb cd A off D od so ro hN hL w hbo hdo h h'
  clear hI hJ hA hC
  go_enter Try.func10, Try.ntmps10
  go_upto_region 1 with fail
  generalize ((w.alloc (.cells #[.int .i64 m, .int .i64 d, .slice ao Q.m ca, .slice bo Q.N cb] 31)).alloc (.cells #[.int .i64 m, .int .i64 d, .slice co Q.m cc, .slice do_ Q.N cd] 31)) = W1 at *
  have p0 := B0.c 0 rfl; have p1 := B0.c 1 rfl; have p2 := B0.c 2 rfl
  have q0 := B1.c 0 rfl; have q1 := B1.c 1 rfl; have q2 := B1.c 2 rfl
  go_wp2_with fail
  refine (E1 _ (HI.out.step HB) (HJ.out.step HB)).mono ?_
  rintro r w1 ⟨rfl, hB⟩
  replace B0 := B0.step hB; replace B1 := B1.step hB
  have HB2 := HB.trans (hB.mono HB.size)
  clear hB HB p0 p1 p2 q0 q1 q2 E1
  have p3 := B0.c 3 rfl; have q3 := B1.c 3 rfl
  go_wp2_with fail
  refine (E2 _ (HA.out.below HB2) (HC.out.below HB2)).mono ?_
  rintro r w2 ⟨rfl, hB⟩
  have HB3 := HB2.trans (hB.mono HB2.size)
  clear hB HB2 p3 q3 E2
  go_wp2
  go_ret
  exact ⟨rfl, HB3⟩
theorem szIdQ_any (ao : Option Addr) (m cap : Nat) (l : Int) (h0 : 0 ≤ l) (h1 : l ≤ 1048576) (hm : m ≤ 9223372036854775807) (w : World) : Calls Try.prog 61 #[.slice ao m cap, .int .i64 l] w (VP (.int .i64 (if (m : Int) ≤ l then l - m else -1)) w) := by
  have hmI : (m : Int) ≤ 9223372036854775807 := by omega
  by_cases h : (m : Int) ≤ l
  · rw [if_pos h]
    go_enter Try.func61, Try.ntmps61
    go_wp2
    go_ret
    exact ⟨rfl, Below.refl _ _⟩
  · rw [if_neg h]
    have h' : l < (m : Int) := by omega
    go_enter Try.func61, Try.ntmps61
    go_wp2
    go_ret
    exact ⟨rfl, Below.refl _ _⟩
theorem szItQ_any (ao : Option Addr) (m cap : Nat) (l : Int) (h0 : 0 ≤ l) (h1 : l ≤ 1048576) (hm : m ≤ 9223372036854775807) (w : World) : Calls Try.prog 20 #[.slice ao m cap, .int .i64 l] w (VP (.int .i64 (if (m : Int) ≤ l then l - m else -1)) w) := by
  have hmI : (m : Int) ≤ 9223372036854775807 := by omega
  by_cases h : (m : Int) ≤ l
  · rw [if_pos h]
    go_enter Try.func20, Try.ntmps20
    go_wp2
    go_ret
    exact ⟨rfl, Below.refl _ _⟩
  · rw [if_neg h]
    have h' : l < (m : Int) := by omega
    go_enter Try.func20, Try.ntmps20
    go_wp2
    go_ret
    exact ⟨rfl, Below.refl _ _⟩
theorem szBlockQ_any (ao : Option Addr) (m cap : Nat) (x y z : Int) (t : Bool) (l : Int) (h0 : 0 ≤ l) (h1 : l ≤ 1048576) (hm : m ≤ 9223372036854775807) (w : World) : Calls Try.prog 38 #[.agg #[.int .i64 x, .int .i64 y, .int .i64 z, .bool t, .slice ao m cap], .int .i64 l] w (VP (.int .i64 (if (m : Int) ≤ l then l - m else -1)) w) := by
  have HB : Below w.heap.size w (w.alloc (.cells #[.int .i64 x, .int .i64 y, .int .i64 z, .bool t, .slice ao m cap] 83)) := (Below.refl _ w).alloc (Nat.le_refl _) _
  have B0 := Blk.new w [.int .i64 x, .int .i64 y, .int .i64 z, .bool t, .slice ao m cap] 83 rfl
  have SP := szIdQ_any ao m cap l h0 h1 hm
  go_enter Try.func38, Try.ntmps38
  have b0 := B0.c 4 rfl
  by_cases h : (m : Int) ≤ l
  · rw [if_pos h] at SP ⊢
    go_wp2_with fail
    refine (SP _).mono ?_
    rintro e w1 ⟨rfl, hB⟩
    replace HB := HB.trans (hB.mono HB.size)
    clear hB SP B0 b0
    have h2 : 0 ≤ l - (m : Int) := by omega
    go_wp2
    go_ret
    exact ⟨rfl, HB⟩
  · rw [if_neg h] at SP ⊢
    go_wp2_with fail
    refine (SP _).mono ?_
    rintro e w1 ⟨rfl, hB⟩
    replace HB := HB.trans (hB.mono HB.size)
    clear hB SP B0 b0
    go_wp2
    go_ret
    exact ⟨rfl, HB⟩
/-- What is left of the count, if it is not below 0. -/
def SzQ (n : Nat) (L : Nat → Nat) (w : World) (e : Ending) (w' : World) : Prop := ∃ z : Int, e = .returned (.int .i64 z) ∧ -1 ≤ z ∧ z ≤ 1048576 ∧ (0 ≤ z → n ≤ 1048576 ∧ ∀ i, i < n → L i ≤ 1048576) ∧ Below w.heap.size w w'
set_option maxRecDepth 100000 in
set_option maxHeartbeats 2000000 in
theorem szBlockS_any (Q : QD) (bo : Option Addr) (cap A off : Nat) (so : Nat → Option Addr × Nat) (l0 : Int) (k0 : 0 ≤ l0) (k1 : l0 ≤ 1048576) (hN : Q.N ≤ 9223372036854775807) (hL : ∀ i, i < Q.N → Q.L i ≤ 9223372036854775807) (hbo : 0 < Q.N → bo = some ⟨A, off, none⟩) (w : World) (hBl : BlIn Q w A off so) : Calls Try.prog 21 #[.slice bo Q.N cap, .int .i64 l0] w (SzQ Q.N Q.L w) := by
  obtain ⟨n, hn⟩ : ∃ n, Q.N = n := ⟨_, rfl⟩
  have HN : Hid (Q.N = n) := hn
  have HL : Hid (∀ i, i < n → Q.L i ≤ 9223372036854775807) := by rw [← hn]; exact hL
  have HBO : Hid (0 < n → bo = some ⟨A, off, none⟩) := by rw [← hn]; exact hbo
  have HBL : Hid (BlIn Q w A off so) := hBl
  have hnI : (n : Int) ≤ 9223372036854775807 := by omega
  rw [hn]
  clear hn hL hbo hBl hN
  by_cases h : (n : Int) ≤ l0
  · go_enter Try.func21, Try.ntmps21
    have h9 : ¬ (l0 - (n : Int) < 0) := by omega
    go_wp2_with fail
    go_loopw [1, 5] (fun s i wr => ∃ (c : Nat) (l : Int), c ≤ n ∧ i = .int .i64 c ∧ s = .int .i64 l ∧ 0 ≤ l ∧ l ≤ 1048576 ∧ (∀ j, j < c → Q.L j ≤ 1048576) ∧ Below w.heap.size w wr) (fun _ i _ => n - (intOf i).toNat)
    case atStart => exact ⟨0, _, by omega, rfl, rfl, by omega, by omega, fun j hj => by omega, Below.refl _ _⟩
    case round =>
      obtain ⟨c, l, hc, rfl, rfl, l0, l1, hall, HB⟩ := hrel
      have HA : Hid (∀ j, j < c → Q.L j ≤ 1048576) := hall
      clear hall
      by_cases hcn : c < n
      · obtain rfl := HBO.out (by omega)
        obtain ⟨hA, q0, q1, q2, q3, q4, -⟩ := HBL.out.below HB c (by rw [HN.out]; exact hcn)
        have hcI : (c : Int) < n := by omega
        have SL := szBlockQ_any (so c).1 (Q.L c) (so c).2 (Q.X c) (Q.Y c) (Q.Z c) (Q.T c) l l0 l1 (HL.out c hcn)
        go_wp2_with fail
        refine (SL _).mono ?_
        rintro e w1 ⟨rfl, hB⟩
        replace HB := HB.trans (hB.mono HB.size)
        clear hB SL q0 q1 q2 q3 q4 hA
        by_cases hl : (Q.L c : Int) ≤ l
        · rw [if_pos hl]
          have hl2 : 0 ≤ l - (Q.L c : Int) := by omega
          go_wp2
          go_roundw
          case rel => exact ⟨c + 1, _, by omega, by go_num, rfl, by omega, by omega, fun j hj => by
            rcases Nat.lt_or_ge j c with h | h
            · exact HA.out j h
            · obtain rfl : j = c := by omega
              omega, HB⟩
          case measure => simp [intOf]; omega
        · rw [if_neg hl]
          go_wp2
          go_ret
          exact ⟨-1, rfl, by omega, by omega, fun h => by omega, HB⟩
      · obtain rfl : c = n := by omega
        clear HBL HL
        go_wp2
        go_ret
        exact ⟨l, rfl, by omega, l1, fun _ => ⟨by omega, HA.out⟩, HB⟩
  · have h' : l0 < (n : Int) := by omega
    clear HBL HL
    go_enter Try.func21, Try.ntmps21
    go_wp2
    go_ret
    exact ⟨-1, rfl, by omega, by omega, fun h => by omega, Below.refl _ _⟩
/-- What is left of a tree's count, if it is not below 0. -/
def SzQu (Q : QD) (w : World) (e : Ending) (w' : World) : Prop := ∃ z : Int, e = .returned (.int .i64 z) ∧ -1 ≤ z ∧ (0 ≤ z → Q.m ≤ 1048576 ∧ Q.N ≤ 1048576 ∧ ∀ i, i < Q.N → Q.L i ≤ 1048576) ∧ Below w.heap.size w w'
set_option maxRecDepth 100000 in
set_option maxHeartbeats 2000000 in
theorem szQuad_any (Q : QD) (ao bo : Option Addr) (cap bcap A off : Nat) (so : Nat → Option Addr × Nat) (m d : Int) (hm : Q.m ≤ 9223372036854775807) (hN : Q.N ≤ 9223372036854775807) (hL : ∀ i, i < Q.N → Q.L i ≤ 9223372036854775807) (hbo : 0 < Q.N → bo = some ⟨A, off, none⟩) (w : World) (hBl : BlIn Q w A off so) : Calls Try.prog 6 #[.agg #[.int .i64 m, .int .i64 d, .slice ao Q.m cap, .slice bo Q.N bcap], .int .i64 1048576] w (SzQu Q w) := by
  have B0 := Blk.new w [.int .i64 m, .int .i64 d, .slice ao Q.m cap, .slice bo Q.N bcap] 25 rfl
  have HB : Below w.heap.size w (w.alloc (.cells #[.int .i64 m, .int .i64 d, .slice ao Q.m cap, .slice bo Q.N bcap] 25)) := (Below.refl _ w).alloc (Nat.le_refl _) _
  have S1 := fun w => szItQ_any ao Q.m cap 1048576 (by omega) (by omega) hm w
  have HBL : Hid (BlIn Q w A off so) := hBl
  clear hBl
  go_enter Try.func6, Try.ntmps6
  go_upto_region 1 with fail
  generalize (w.alloc (.cells #[.int .i64 m, .int .i64 d, .slice ao Q.m cap, .slice bo Q.N bcap] 25)) = W1 at *
  have b2 := B0.c 2 rfl
  by_cases h : (Q.m : Int) ≤ 1048576
  · rw [if_pos h] at S1
    have S2 := fun w h => szBlockS_any Q bo bcap A off so (1048576 - (Q.m : Int)) (by omega) (by omega) hN hL hbo w h
    go_wp2_with fail
    refine (S1 _).mono ?_
    rintro e w1 ⟨rfl, hB⟩
    replace HB := HB.trans (hB.mono HB.size)
    replace B0 := B0.step hB
    clear hB S1 b2
    have b3 := B0.c 3 rfl
    have h2 : 0 ≤ 1048576 - (Q.m : Int) := by omega
    have HM : Hid (Q.m ≤ 1048576) := by show Q.m ≤ 1048576; omega
    go_wp2_with fail
    refine (S2 _ (HBL.out.below HB)).mono ?_
    rintro e w2 ⟨z, rfl, z0, z1, hz, hB⟩
    replace HB := HB.trans (hB.mono HB.size)
    have HZ : Hid (0 ≤ z → Q.N ≤ 1048576 ∧ ∀ i, i < Q.N → Q.L i ≤ 1048576) := hz
    clear hB S2 b3 hz B0
    by_cases hz0 : 0 ≤ z
    · go_wp2
      go_ret
      exact ⟨z, rfl, z0, fun h => ⟨HM.out, HZ.out h⟩, HB⟩
    · have hz' : z < 0 := by omega
      go_wp2
      go_ret
      exact ⟨-1, rfl, by omega, fun h => by omega, HB⟩
  · rw [if_neg h] at S1
    go_wp2_with fail
    refine (S1 _).mono ?_
    rintro e w1 ⟨rfl, hB⟩
    replace HB := HB.trans (hB.mono HB.size)
    clear hB S1 b2 B0
    go_wp2
    go_ret
    exact ⟨-1, rfl, by omega, fun h => by omega, HB⟩
theorem QuRow.items {Q : QD} {w : World} {b gi gb : Nat} {S : Nat → Nat} (h : QuRow Q w b gi gb S) : ItIn Q w (some ⟨gi, 0, none⟩) (List.range Q.m) := itIn_row h.its
end Go.Proofs.Ytaagmdhbfbikfaa

/- The law of a right tree. -/
namespace Go.Proofs.Ytaagmdhbfbikfaa
open Go.RowKit
def QuE (Q : QD) (m d : Int) (v : Value) (W : World) : Prop := ∃ gi gb S, v = .agg #[.int .i64 m, .int .i64 d, .slice (some ⟨gi, 0, none⟩) Q.m Q.m, .slice (some ⟨gb, 0, none⟩) Q.N Q.N] ∧ QuRow Q W 0 gi gb S
theorem QuE.step {Q : QD} {m d : Int} {v : Value} {W W2 : World} (h : QuE Q m d v W) (hB : Below W.heap.size W W2) : QuE Q m d v W2 := by
  obtain ⟨gi, gb, S, h1, h2⟩ := h
  exact ⟨gi, gb, S, h1, h2.step hB⟩
theorem QuRow.zero {Q : QD} {w : World} {b gi gb : Nat} {S : Nat → Nat} (h : QuRow Q w b gi gb S) : QuRow Q w 0 gi gb S :=
  ⟨h.its, Nat.zero_le _, ⟨h.bls.row, Nat.zero_le _, fun j hj => ⟨Nat.zero_le _, (h.bls.ids j hj).2⟩⟩, h.d1, h.d2⟩
def VqeO (Qd : QD) (m d : Int) (ao bo : Option Addr) (cap bcap gi gb : Nat) (_B : Nat) : Nat → Value → World → Prop
  | 0, v, _ => v = .agg #[.int .i64 m, .int .i64 d, .slice (some ⟨gi, 0, none⟩) Qd.m Qd.m, .slice (some ⟨gb, 0, none⟩) Qd.N Qd.N]
  | 1, v, _ => v = .agg #[.int .i64 m, .int .i64 d, .slice ao Qd.m cap, .slice bo Qd.N bcap]
  | 2, v, W => QuE Qd m d v W
  | 3, v, _ => v = .bool true
  | 4, v, _ => v = .bool false
  | _, _, _ => True
theorem VqeO.mono {Qd : QD} {m d : Int} {ao bo : Option Addr} {cap bcap gi gb : Nat} {B j : Nat} {v : Value} {W W2 : World} (hB : Below W.heap.size W W2) (h : VqeO Qd m d ao bo cap bcap gi gb B j v W) : VqeO Qd m d ao bo cap bcap gi gb B j v W2 := by
  unfold VqeO at *
  split <;> simp only at h <;> first | exact h | exact h.step hB | trivial
end Go.Proofs.Ytaagmdhbfbikfaa

/- The leaves of a tree, from first to last. -/
namespace Go.Proofs.Ytaagmdhbfbikfaa
open Go.RowKit
/-- A leaf: corner, size, level, numbers. -/
structure LQ where
  x : Int
  y : Int
  s : Int
  lv : Int
  l : List Int
/-- The first k kids' lists, one behind the other. -/
def cat4 (f : Nat → List LQ) : Nat → List LQ
  | 0 => []
  | k + 1 => cat4 f k ++ f k
def lvs : QT → Int → Int → Int → Int → List LQ
  | .leaf l, x, y, s, lv => [⟨x, y, s, lv, l⟩]
  | .node K, x, y, s, lv => cat4 (fun k => lvs (K k) (kX x (s / 2) k) (kY y (s / 2) k) (s / 2) (lv + 1)) 4
/-- How many leaves; how deep the deepest one is. -/
def nlT : QT → Nat
  | .leaf _ => 1
  | .node K => nlT (K 0) + nlT (K 1) + nlT (K 2) + nlT (K 3)
def dpT : QT → Nat
  | .leaf _ => 0
  | .node K => max (max (max (dpT (K 0) + 1) (dpT (K 1) + 1)) (dpT (K 2) + 1)) (dpT (K 3) + 1)
theorem lvs_len : ∀ (t : QT) (x y s lv : Int), (lvs t x y s lv).length = nlT t
  | .leaf _, _, _, _, _ => rfl
  | .node K, x, y, s, lv => by
    simp only [lvs, cat4, List.nil_append, List.length_append]
    rw [lvs_len (K 0), lvs_len (K 1), lvs_len (K 2), lvs_len (K 3)]
    rfl
def mxL (a : Int) (L : List LQ) : Int := L.foldl (fun m q => max m q.lv) a
theorem mxL_app (a : Int) (L M : List LQ) : mxL a (L ++ M) = mxL (mxL a L) M := by simp [mxL]
theorem mxL_lvs : ∀ (t : QT) (x y s lv a : Int), mxL a (lvs t x y s lv) = max a (lv + (dpT t : Int))
  | .leaf _, _, _, _, lv, a => by simp [lvs, mxL, dpT]
  | .node K, x, y, s, lv, a => by
    simp only [lvs, cat4, List.nil_append, mxL_app]
    rw [mxL_lvs (K 0), mxL_lvs (K 1), mxL_lvs (K 2), mxL_lvs (K 3)]
    simp only [dpT]
    omega
theorem nl_pos : ∀ t : QT, 1 ≤ nlT t
  | .leaf _ => Nat.le_refl 1
  | .node K => by
    have := nl_pos (K 0)
    simp only [nlT]
    omega
/-- A tree no deeper than so much. -/
def dpB : Nat → QT → Prop
  | _, .leaf _ => True
  | 0, .node _ => False
  | d + 1, .node K => ∀ k, k < 4 → dpB d (K k)
theorem dp_tr (Q : QD) : ∀ (d at_ : Nat) (x y s : Int), dpB d (trQ Q d at_ x y s)
  | 0, _, _, _, _ => trivial
  | d + 1, at_, x, y, s => by
    unfold trQ
    split
    · exact fun k _ => dp_tr Q d _ _ _ _
    · trivial
theorem nl_le : ∀ (d : Nat) (t : QT), dpB d t → nlT t ≤ 4 ^ d
  | d, .leaf _, _ => Nat.one_le_pow _ _ (by omega)
  | 0, .node _, h => by cases h
  | d + 1, .node K, h => by
    have h0 := nl_le d _ (h 0 (by omega)); have h1 := nl_le d _ (h 1 (by omega)); have h2 := nl_le d _ (h 2 (by omega)); have h3 := nl_le d _ (h 3 (by omega))
    simp only [nlT]
    rw [Nat.pow_succ]
    omega
theorem dp_le : ∀ (d : Nat) (t : QT), dpB d t → dpT t ≤ d
  | d, .leaf _, _ => Nat.zero_le _
  | 0, .node _, h => by cases h
  | d + 1, .node K, h => by
    have h0 := dp_le d _ (h 0 (by omega)); have h1 := dp_le d _ (h 1 (by omega)); have h2 := dp_le d _ (h 2 (by omega)); have h3 := dp_le d _ (h 3 (by omega))
    simp only [dpT]
    omega
theorem nl_small {d : Nat} {t : QT} (hd : d ≤ 8) (h : dpB d t) : nlT t ≤ 65536 :=
  Nat.le_trans (nl_le d t h) (Nat.le_trans (Nat.pow_le_pow_right (by omega) hd) (by decide))
/-- Leaves in the heap, behind their pointers. -/
def LfP (ok : Nat → Prop) (w : World) (p : Nat) (q : LQ) : Prop := ok p ∧ ∃ iv, BkB w p q.x q.y q.s q.lv iv (.slice none 0 0) ∧ IdV ok w iv q.l
def LvP (ok : Nat → Prop) (w : World) : List Nat → List LQ → Prop
  | [], [] => True
  | p :: ps, q :: qs => LfP ok w p q ∧ LvP ok w ps qs
  | _, _ => False
theorem IdV.swap {ok ok' : Nat → Prop} {w w' : World} {v : Value} {l : List Int} (h : IdV ok w v l) (hk : ∀ b, ok b → b < w'.heap.size ∧ w'.heap[b]? = w.heap[b]? ∧ ok' b) : IdV ok' w' v l := by
  obtain ⟨ao, c, h1, h2, h3, h4⟩ := h
  refine ⟨ao, c, h1, fun i hi => ?_, h3, fun A o sp e => ⟨(hk A (h4 A o sp e).1).2.2, (hk A (h4 A o sp e).1).1⟩⟩
  obtain ⟨A, o, e, hA, hc⟩ := h2 i hi
  have h5 := hk A (h4 A o none e).1
  exact ⟨A, o, e, h5.1, (World.cell?_of_block (w := w) (a := ⟨A, o + i, none⟩) h5.2.1).trans hc⟩
theorem LvP.swap {ok ok' : Nat → Prop} {w w' : World} (hk : ∀ b, ok b → b < w'.heap.size ∧ w'.heap[b]? = w.heap[b]? ∧ ok' b) : ∀ {ps : List Nat} {L : List LQ}, LvP ok w ps L → LvP ok' w' ps L
  | [], [], _ => trivial
  | p :: ps, q :: qs, h => by
    obtain ⟨⟨h1, iv, h2, h3⟩, h4⟩ := h
    have h5 := hk p h1
    exact ⟨⟨h5.2.2, iv, ⟨h5.1, fun i v hi => ⟨(World.cell?_of_block (w := w) (a := ⟨p, i, none⟩) h5.2.1).trans (h2.c i hi), (World.frozen?_of_block (w := w) (a := ⟨p, i, none⟩) h5.2.1).trans (h2.f i hi)⟩⟩, h3.swap hk⟩, LvP.swap hk (ps := ps) (L := qs) h4⟩
theorem cat4_len (f : Nat → List LQ) {k : Nat} (hk : k < 4) : (cat4 f k).length + (f k).length ≤ (f 0).length + (f 1).length + (f 2).length + (f 3).length := by
  rcases (show k = 0 ∨ k = 1 ∨ k = 2 ∨ k = 3 by omega) with h | h | h | h <;> subst h <;> simp [cat4] <;> omega
theorem LvP.len {ok : Nat → Prop} {w : World} : ∀ {ps : List Nat} {L : List LQ}, LvP ok w ps L → ps.length = L.length
  | [], [], _ => rfl
  | _ :: ps, _ :: qs, h => congrArg (· + 1) (LvP.len (ps := ps) (L := qs) h.2)
theorem LvP.app {ok : Nat → Prop} {w : World} : ∀ {ps ps' : List Nat} {L L' : List LQ}, LvP ok w ps L → LvP ok w ps' L' → LvP ok w (ps ++ ps') (L ++ L')
  | [], _, [], _, _, h => h
  | _ :: ps, _, _ :: qs, _, h, h' => ⟨h.1, LvP.app (ps := ps) (L := qs) h.2 h'⟩
theorem LvP.at {ok : Nat → Prop} {w : World} : ∀ {ps : List Nat} {L : List LQ} {i : Nat} {q : LQ}, LvP ok w ps L → L[i]? = some q → ∃ p, ps[i]? = some p ∧ LfP ok w p q
  | [], [], i, q, _, h => by simp at h
  | p :: ps, q' :: qs, 0, q, h, hq => by
    simp at hq
    subst hq
    exact ⟨p, rfl, h.1⟩
  | _ :: ps, _ :: qs, i + 1, q, h, hq => by
    simp only [List.getElem?_cons_succ] at hq ⊢
    exact LvP.at (ps := ps) (L := qs) h.2 hq
def ptL (ps : List Nat) : List Value := ps.map fun p => Value.pointer (some ⟨p, 0, none⟩)
theorem ptL_app (a b : List Nat) : ptL (a ++ b) = ptL a ++ ptL b := by simp [ptL]
theorem ptL_len (a : List Nat) : (ptL a).length = a.length := by simp [ptL]
theorem ptL_one (a : List Nat) : ∀ u ∈ ptL a, u.oneCell' = true := by
  intro u hu
  obtain ⟨z, _, rfl⟩ := List.mem_map.1 hu
  rfl
end Go.Proofs.Ytaagmdhbfbikfaa

/- The leaves of a tree: the program. -/
namespace Go.Proofs.Ytaagmdhbfbikfaa
open Go.RowKit
theorem Try.infoPtrQ : (Try.prog.info? 64).map (fun i => (i.zero, i.size, i.bytes)) = some (some (.pointer none), 1, 8) := by kernel_rfl
theorem info_ptrQ : ∃ i0, Try.prog.info? 64 = some i0 ∧ i0.zero = some (.pointer none) ∧ i0.size = 1 ∧ i0.bytes = 8 := by
  obtain ⟨i, hi, hz⟩ := Option.map_eq_some_iff.1 Try.infoPtrQ
  simp only [Prod.mk.injEq] at hz
  exact ⟨i, hi, hz.1, hz.2.1, hz.2.2⟩
def LeavesP (ok : Nat → Prop) (L : List LQ) (w : World) (r : Ending) (w' : World) : Prop := ∃ v ps, r = .returned v ∧ w'.ownsRow w.heap.size 64 1 v ps.length (ptL ps) ∧ LvP ok w ps L ∧ Below w.heap.size w w'
set_option maxRecDepth 100000 in
set_option maxHeartbeats 8000000 in
theorem leaves_any (t : QT) : ∀ (ok : Nat → Prop) (x y s lv : Int) (g : Nat) (w : World), nlT t ≤ 1048576 → PTr ok w t x y s lv g → Calls Try.prog 29 #[.pointer (some ⟨g, 0, none⟩)] w (LeavesP ok (lvs t x y s lv) w) := by
  obtain ⟨i0, hi, hz0, hz1, hz2⟩ := info_ptrQ
  have q := fun (w : World) (a : Option Addr) (n c n' c' : Nat) => Lib.run_eql_slice_nil (P := Try.prog) w _ _ a n c n' c' Try.underlying63
  induction t with
  | leaf l =>
    intro ok x y s lv g w hn hP
    obtain ⟨hg, iv, B0, hI⟩ := hP
    have c5 := B0.c 5 rfl
    have B1 : Blk (w.alloc (.cells #[.pointer (some ⟨g, 0, none⟩)] 64)) w.heap.size [.pointer (some ⟨g, 0, none⟩)] := Blk.new w [.pointer (some ⟨g, 0, none⟩)] 64 rfl
    go_enter Try.func29, Try.ntmps29
    go_wp2
    go_ret
    refine ⟨_, [g], rfl, ?_, ⟨⟨hg, iv, B0, hI⟩, trivial⟩, (Below.refl _ _).alloc (Nat.le_refl _) _⟩
    exact ⟨rfl, .inr ⟨w.heap.size, 1, #[.pointer (some ⟨g, 0, none⟩)], rfl, Nat.le_refl _, heap_alloc_new w _, Nat.le_refl _, by unfold maxLen; omega, rfl, rfl⟩⟩
  | node K ih =>
    intro ok x y s lv g w hn hP
    obtain ⟨hg, A, kc, gs, B0, hA, hoA, hk⟩ := hP
    have HK : Hid (∀ k, k < 4 → w.cell? ⟨A, k, none⟩ = some (.pointer (some ⟨gs k, 0, none⟩)) ∧ PTr ok w (K k) (kX x (s / 2) k) (kY y (s / 2) k) (s / 2) (lv + 1) (gs k)) := hk
    have hnn : nlT (K 0) + nlT (K 1) + nlT (K 2) + nlT (K 3) ≤ 1048576 := hn
    have HLEN : Hid (∀ k, k < 4 → (cat4 (fun k => lvs (K k) (kX x (s / 2) k) (kY y (s / 2) k) (s / 2) (lv + 1)) k).length + nlT (K k) ≤ 1048576) := fun k hk4 => by
      have e := cat4_len (fun k => lvs (K k) (kX x (s / 2) k) (kY y (s / 2) k) (s / 2) (lv + 1)) hk4
      simp only [lvs_len] at e
      omega
    clear hk hnn
    have c5 := B0.c 5 rfl
    go_enter Try.func29, Try.ntmps29
    go_wp2_with fail
    go_loopw [3, 18] (fun out i wr => ∃ (k : Nat) (ps : List Nat), k ≤ 4 ∧ i = .int .i64 k ∧ wr.ownsRow w.heap.size 64 1 out ps.length (ptL ps) ∧ LvP ok w ps (cat4 (fun k => lvs (K k) (kX x (s / 2) k) (kY y (s / 2) k) (s / 2) (lv + 1)) k) ∧ Below w.heap.size w wr) (fun _ i _ => 4 - (intOf i).toNat)
    case atStart => exact ⟨0, [], by omega, rfl, World.ownsRow_nil _ _ _ _, trivial, Below.refl _ _⟩
    case round =>
      obtain ⟨k, ps, hk, rfl, HO, hL, HB⟩ := hrel
      by_cases hk4 : k < 4
      · have hkI : (k : Int) < 4 := by omega
        obtain ⟨ck, hPk⟩ := HK.out k hk4
        have hlen := HLEN.out k hk4
        have C := ih k (fun b => ok b ∧ b < w.heap.size) (kX x (s / 2) k) (kY y (s / 2) k) (s / 2) (lv + 1) (gs k) wr (by omega) (PTr.keep HB.size (fun b _ hb => HB.block b hb) (fun _ h h2 => ⟨h, h2⟩) hPk)
        have cw := (HB.cell (p := ⟨A, k, none⟩) hA).trans ck
        go_wp2_with fail
        refine C.mono ?_
        rintro r w1 ⟨v2, ps2, rfl, HO2, hL2, hB1⟩
        have el2 := hL2.len
        rw [lvs_len] at el2
        have hp2 := nl_pos (K k)
        have ekl := hL.len
        have hpp : ps.length + ps2.length ≤ 1048576 := by omega
        have hp0 : 0 < ps2.length := by omega
        clear el2 ekl hp2
        obtain ⟨g2, c2, rfl, h21, h22, h23, h24⟩ := ownQ_form HO2 (by omega)
        have HO1 := ownA_step HO hB1
        have HB1 := HB.trans (hB1.mono HB.size)
        have hkeep : Hid (LvP ok w ps2 (lvs (K k) (kX x (s / 2) k) (kY y (s / 2) k) (s / 2) (lv + 1))) := hL2.swap (fun b hb => ⟨hb.2, (HB.block b hb.2).symm, hb.1⟩)
        clear HO hB1 HB C cw
        go_wp2_with (at_builtin; go_loud (refine wpList_append_own_at _ rfl _ _ 63 rfl w.heap.size 64 i0 (.pointer none) 1 8 Try.underlying63 hi hz0 hz1 hz2 rfl (by decide) _ _ _ rfl HO1 ⟨g2, 0, none⟩ ps2.length c2 (ptL ps2) rfl (by rw [ptL_len]; omega) (HO2.cells rfl) (ptL_one ps2) (by unfold maxLen; omega) (by omega) HB1.size ?_))
        intro v' w' hown hgrow _ _
        rw [← ptL_app] at hown
        have HBN := HB1.grown hgrow HB1.size (fun k hk => (HO1.lt k hk).1)
        clear HO1 HO2 HB1 hgrow
        go_wp2
        go_roundw
        case rel => exact ⟨k + 1, ps ++ ps2, by omega, by go_num, by rw [List.length_append]; exact hown, hL.app hkeep.out, HBN⟩
        case measure => simp [intOf]; omega
      · obtain rfl : k = 4 := by omega
        go_wp2
        go_ret
        exact ⟨_, ps, rfl, HO, hL, HB⟩
end Go.Proofs.Ytaagmdhbfbikfaa

/- How many leaves a tree has, and how deep they are: both sides. -/
namespace Go.Proofs.Ytaagmdhbfbikfaa
open Go.RowKit
def nlS (K : Nat → QT) : Nat → Nat
  | 0 => 0
  | k + 1 => nlS K k + nlT (K k)
def dpS (K : Nat → QT) : Nat → Nat
  | 0 => 0
  | k + 1 => max (dpS K k) (dpT (K k) + 1)
theorem nlS_four (K : Nat → QT) : nlT (.node K) = nlS K 4 := by simp [nlS, nlT]
theorem dpS_four (K : Nat → QT) : dpT (.node K) = dpS K 4 := by
  simp only [dpS, dpT]
  omega
theorem nlS_le (K : Nat → QT) : ∀ j k, nlS K k ≤ nlS K (k + j)
  | 0, _ => Nat.le_refl _
  | j + 1, k => Nat.le_trans (nlS_le K j k) (Nat.le_add_right _ _)
theorem dpS_le (K : Nat → QT) : ∀ j k, dpS K k ≤ dpS K (k + j)
  | 0, _ => Nat.le_refl _
  | j + 1, k => Nat.le_trans (dpS_le K j k) (Nat.le_max_left _ _)
set_option maxRecDepth 100000 in
set_option maxHeartbeats 8000000 in
theorem l13Count_any (t : QT) : ∀ (ok : Nat → Prop) (x y s : Int) (kv ev : Value) (w : World), nlT t ≤ 1048576 → dpT t ≤ 1048576 → MTr ok w t x y s kv ev → Calls Try.prog 28 #[.agg #[.int .i64 x, .int .i64 y, .int .i64 s, kv, ev]] w (VP (.tuple #[.int .i64 (nlT t : Int), .int .i64 (dpT t : Int)]) w) := by
  induction t with
  | leaf l =>
    intro ok x y s kv ev w _ _ hM
    obtain ⟨rfl, eo, ec, rfl, _⟩ := hM
    obtain ⟨en, hen⟩ : ∃ en, l.length = en := ⟨_, rfl⟩
    rw [hen]
    clear hen
    have B0 : Blk (w.alloc (.cells #[.int .i64 x, .int .i64 y, .int .i64 s, .slice none 0 0, .slice eo en ec] 52)) w.heap.size [.int .i64 x, .int .i64 y, .int .i64 s, .slice none 0 0, .slice eo en ec] := Blk.new w [.int .i64 x, .int .i64 y, .int .i64 s, .slice none 0 0, .slice eo en ec] 52 rfl
    have HB : Below w.heap.size w (w.alloc (.cells #[.int .i64 x, .int .i64 y, .int .i64 s, .slice none 0 0, .slice eo en ec] 52)) := (Below.refl _ w).alloc (Nat.le_refl _) _
    go_enter Try.func28, Try.ntmps28
    have m3 := B0.c 3 rfl
    go_wp2
    go_ret2
    exact ⟨rfl, HB⟩
  | node K ih =>
    intro ok x y s kv ev w hn hd hM
    obtain ⟨eo, en, ec, rfl⟩ : ∃ eo en ec, ev = .slice eo en ec := by obtain ⟨⟨ao, c, h, _⟩, _⟩ := hM; exact ⟨_, _, _, h⟩
    obtain ⟨_, A, kc, rfl, hA, _, hk⟩ := hM
    have B0 : Blk (w.alloc (.cells #[.int .i64 x, .int .i64 y, .int .i64 s, .slice (some ⟨A, 0, none⟩) 4 kc, .slice eo en ec] 52)) w.heap.size [.int .i64 x, .int .i64 y, .int .i64 s, .slice (some ⟨A, 0, none⟩) 4 kc, .slice eo en ec] := Blk.new w [.int .i64 x, .int .i64 y, .int .i64 s, .slice (some ⟨A, 0, none⟩) 4 kc, .slice eo en ec] 52 rfl
    have HB : Below w.heap.size w (w.alloc (.cells #[.int .i64 x, .int .i64 y, .int .i64 s, .slice (some ⟨A, 0, none⟩) 4 kc, .slice eo en ec] 52)) := (Below.refl _ w).alloc (Nat.le_refl _) _
    rw [nlS_four] at hn
    rw [dpS_four] at hd
    have HN4 : Hid (nlS K 4 ≤ 1048576) := hn
    have HD4 : Hid (dpS K 4 ≤ 1048576) := hd
    obtain ⟨hf, hhf⟩ : ∃ hf, s / 2 = hf := ⟨_, rfl⟩
    rw [hhf] at hk
    clear hhf hn hd
    have HK : Hid (∀ k, k < 4 → ∃ kv' ev', w.cell? ⟨A, k * 5, none⟩ = some (.int .i64 (kX x hf k)) ∧ w.cell? ⟨A, k * 5 + 1, none⟩ = some (.int .i64 (kY y hf k)) ∧ w.cell? ⟨A, k * 5 + 2, none⟩ = some (.int .i64 hf) ∧ w.cell? ⟨A, k * 5 + 3, none⟩ = some kv' ∧ w.cell? ⟨A, k * 5 + 4, none⟩ = some ev' ∧ MTr ok w (K k) (kX x hf k) (kY y hf k) hf kv' ev') := hk
    clear hk
    go_enter Try.func28, Try.ntmps28
    go_upto_region 1 with fail
    generalize (w.alloc (.cells #[.int .i64 x, .int .i64 y, .int .i64 s, .slice (some ⟨A, 0, none⟩) 4 kc, .slice eo en ec] 52)) = W1 at *
    have m3 := B0.c 3 rfl
    go_wp2_with fail
    clear m3
    go_loopw [4, 5, 6] (fun n dd i wr => ∃ c : Nat, c ≤ 4 ∧ i = .int .i64 c ∧ n = .int .i64 (nlS K c : Int) ∧ dd = .int .i64 (dpS K c : Int) ∧ Blk wr w.heap.size [.int .i64 x, .int .i64 y, .int .i64 s, .slice (some ⟨A, 0, none⟩) 4 kc, .slice eo en ec] ∧ Below w.heap.size w wr) (fun _ _ i _ => 4 - (intOf i).toNat)
    case atStart => exact ⟨0, by omega, rfl, rfl, rfl, B0, HB⟩
    case round =>
      clear B0 HB
      obtain ⟨c, hc, rfl, rfl, rfl, B0, HB⟩ := hrel
      by_cases hc4 : c < 4
      · have hcI : (c : Int) < 4 := by omega
        obtain ⟨kv', ev', c0, c1, c2, c3, c4, hM⟩ := HK.out c hc4
        obtain ⟨ko, kn, kc', eo', en', ec', rfl, rfl⟩ := hM.vals
        have l1 := nlS_le K (3 - c) (c + 1); have l2 := dpS_le K (3 - c) (c + 1)
        rw [show c + 1 + (3 - c) = 4 by omega] at l1 l2
        have l3 := HN4.out; have l4 := HD4.out
        have l5 : nlS K (c + 1) = nlS K c + nlT (K c) := rfl
        have l6 : dpS K (c + 1) = max (dpS K c) (dpT (K c) + 1) := rfl
        have C := ih c ok (kX x hf c) (kY y hf c) hf _ _ wr (by omega) (by omega) (MTr.keep HB.size (fun b _ hb => HB.block b hb) (fun _ h _ => h) hM)
        have hcc : ∀ j, wr.cell? ⟨A, j, none⟩ = w.cell? ⟨A, j, none⟩ := fun j => HB.cell (p := ⟨A, j, none⟩) hA
        have e0 := (hcc _).trans c0; have e1 := (hcc _).trans c1; have e2 := (hcc _).trans c2; have e3 := (hcc _).trans c3; have e4 := (hcc _).trans c4
        have m3 := B0.c 3 rfl
        obtain ⟨a1, ha1⟩ : ∃ a, nlS K c = a := ⟨_, rfl⟩
        obtain ⟨a2, ha2⟩ : ∃ a, nlT (K c) = a := ⟨_, rfl⟩
        obtain ⟨b1, hb1⟩ : ∃ a, dpS K c = a := ⟨_, rfl⟩
        obtain ⟨b2, hb2⟩ : ∃ a, dpT (K c) = a := ⟨_, rfl⟩
        have E1 : Hid ((nlS K (c + 1) : Int) = (a1 : Int) + a2) := by show _ = _; rw [l5, ha1, ha2, Int.natCast_add]
        have E2 : Hid ((dpS K (c + 1) : Int) = if (b1 : Int) < (b2 : Int) + 1 then (b2 : Int) + 1 else b1) := by
          show _ = _
          rw [l6, hb1, hb2]
          split <;> omega
        rw [ha1, hb1]
        rw [ha2, hb2] at C
        have g1 : (a1 : Int) + a2 ≤ 1048576 := by omega
        have g2 : (b2 : Int) ≤ 1048576 := by omega
        clear hcc c0 c1 c2 c3 c4 hM ih l1 l2 l3 l4 l5 l6 ha1 ha2 hb1 hb2
        go_wp2_with fail
        refine C.mono ?_
        rintro r w1 ⟨rfl, hB1⟩
        replace B0 := B0.step hB1
        replace HB := HB.trans (hB1.mono HB.size)
        clear C hB1 e0 e1 e2 e3 e4 m3
        go_wp2
        go_roundw
        case rel =>
          exact ⟨c + 1, by omega, by go_num, by rw [E1.out], by rw [E2.out], B0, HB⟩
        case measure => simp [intOf]; omega
      · obtain rfl : c = 4 := by omega
        go_wp2
        go_ret2
        exact ⟨by rw [nlS_four, dpS_four]; rfl, HB⟩
/-- What QuadCount answers. -/
def cntV (Q : QD) (m d : Int) : Value := if qOk Q m d = true then .tuple #[.int .i64 (nlT (trQ Q d.toNat 0 (-1048576) (-1048576) 2097152) : Int), .int .i64 (dpT (trQ Q d.toNat 0 (-1048576) (-1048576) 2097152) : Int)] else .tuple #[.int .i64 0, .int .i64 0]
theorem tr_small {Q : QD} {m d : Int} (h : qOk Q m d = true) : d.toNat ≤ 8 ∧ nlT (trQ Q d.toNat 0 (-1048576) (-1048576) 2097152) ≤ 65536 ∧ dpT (trQ Q d.toNat 0 (-1048576) (-1048576) 2097152) ≤ 8 := by
  have h8 : d.toNat ≤ 8 := by
    unfold qOk limB at h
    simp at h
    omega
  exact ⟨h8, nl_small h8 (dp_tr Q _ _ _ _ _), Nat.le_trans (dp_le _ _ (dp_tr Q _ _ _ _ _)) h8⟩
set_option maxRecDepth 100000 in
set_option maxHeartbeats 4000000 in
theorem specQuadCount_any (w : World) (Q : QD) (ao bo : Option Addr) (cap bcap A off : Nat) (so : Nat → Option Addr × Nat) (m d : Int) (hm : Q.m ≤ 1048576) (hN : Q.N ≤ 1048576) (hL : ∀ i, i < Q.N → Q.L i ≤ 1048576) (hbo : 0 < Q.N → bo = some ⟨A, off, none⟩) (hso : ∀ i, i < Q.N → (so i).1 = none → (so i).2 = 0) (hS : ItIn Q w ao (List.range Q.m)) (hBl : BlIn Q w A off so) : Calls Try.prog 11 #[.agg #[.int .i64 m, .int .i64 d, .slice ao Q.m cap, .slice bo Q.N bcap]] w (VP (cntV Q m d) w) := by
  have BP : Blk (w.alloc (.cells #[.int .i64 m, .int .i64 d, .slice ao Q.m cap, .slice bo Q.N bcap] 31)) w.heap.size [.int .i64 m, .int .i64 d, .slice ao Q.m cap, .slice bo Q.N bcap] := Blk.new w [.int .i64 m, .int .i64 d, .slice ao Q.m cap, .slice bo Q.N bcap] 31 rfl
  have HB : Below w.heap.size w (w.alloc (.cells #[.int .i64 m, .int .i64 d, .slice ao Q.m cap, .slice bo Q.N bcap] 31)) := (Below.refl _ w).alloc (Nat.le_refl _) _
  have C := l13Root_any (w.alloc (.cells #[.int .i64 m, .int .i64 d, .slice ao Q.m cap, .slice bo Q.N bcap] 31)) Q ao bo cap bcap A off so m d hm hN hL hbo hso (hS.step HB) (hBl.below HB)
  clear hS hBl
  go_enter Try.func11, Try.ntmps11
  go_upto_region 1 with fail
  generalize (w.alloc (.cells #[.int .i64 m, .int .i64 d, .slice ao Q.m cap, .slice bo Q.N bcap] 31)) = W1 at *
  have c0 := BP.c 0 rfl; have c1 := BP.c 1 rfl; have c2 := BP.c 2 rfl; have c3 := BP.c 3 rfl
  go_wp2_with fail
  refine C.mono ?_
  rintro r w1 ⟨hB1, hC⟩
  replace HB := HB.trans (hB1.mono HB.size)
  clear C c0 c1 c2 c3 BP hB1
  rcases hC with ⟨hq, rfl⟩ | ⟨hq, kv, ev, rfl, hM⟩
  · have HQ : Hid (cntV Q m d = .tuple #[.int .i64 0, .int .i64 0]) := if_neg (by rw [hq]; decide)
    clear hq
    go_wp2
    go_ret2
    exact ⟨by rw [HQ.out]; rfl, HB.alloc HB.size _⟩
  · have HQ : Hid (cntV Q m d = .tuple #[.int .i64 (nlT (trQ Q d.toNat 0 (-1048576) (-1048576) 2097152) : Int), .int .i64 (dpT (trQ Q d.toNat 0 (-1048576) (-1048576) 2097152) : Int)]) := if_pos hq
    have hsm := tr_small hq
    obtain ⟨ko, kn, kc, eo, en, ec, rfl, rfl⟩ := hM.vals
    have B5 : Blk (w1.alloc (.cells #[.int .i64 (-1048576), .int .i64 (-1048576), .int .i64 2097152, .slice ko kn kc, .slice eo en ec] 52)) w1.heap.size [.int .i64 (-1048576), .int .i64 (-1048576), .int .i64 2097152, .slice ko kn kc, .slice eo en ec] := Blk.new w1 [.int .i64 (-1048576), .int .i64 (-1048576), .int .i64 2097152, .slice ko kn kc, .slice eo en ec] 52 rfl
    have hM2 := hM.step ((Below.refl _ w1).alloc (Nat.le_refl _) (.cells #[.int .i64 (-1048576), .int .i64 (-1048576), .int .i64 2097152, .slice ko kn kc, .slice eo en ec] 52))
    replace HB := HB.alloc HB.size (.cells #[.int .i64 (-1048576), .int .i64 (-1048576), .int .i64 2097152, .slice ko kn kc, .slice eo en ec] 52)
    have C2 := l13Count_any (trQ Q d.toNat 0 (-1048576) (-1048576) 2097152) _ _ _ _ _ _ _ (by omega) (by omega) hM2
    clear hq hM hM2
    obtain ⟨n1, hn1⟩ : ∃ n, nlT (trQ Q d.toNat 0 (-1048576) (-1048576) 2097152) = n := ⟨_, rfl⟩
    obtain ⟨n2, hn2⟩ : ∃ n, dpT (trQ Q d.toNat 0 (-1048576) (-1048576) 2097152) = n := ⟨_, rfl⟩
    rw [hn1, hn2] at C2
    have HQ2 : Hid (cntV Q m d = .tuple #[.int .i64 (n1 : Int), .int .i64 (n2 : Int)]) := by show _ = _; rw [HQ.out, hn1, hn2]
    clear hn1 hn2 hsm HQ
    have k0 := B5.c 0 rfl; have k1 := B5.c 1 rfl; have k2 := B5.c 2 rfl; have k3 := B5.c 3 rfl; have k4 := B5.c 4 rfl
    go_wp2_with fail
    refine C2.mono ?_
    rintro r w2 ⟨rfl, hB2⟩
    replace HB := HB.trans (hB2.mono HB.size)
    clear C2 hB2 k0 k1 k2 k3 k4 B5
    go_wp2
    go_ret2
    exact ⟨by rw [HQ2.out]; rfl, HB⟩
set_option maxRecDepth 100000 in
set_option maxHeartbeats 8000000 in
theorem implQuadCount_any (w : World) (Q : QD) (ao bo : Option Addr) (cap bcap A off : Nat) (so : Nat → Option Addr × Nat) (m d : Int) (hm : Q.m ≤ 1048576) (hN : Q.N ≤ 1048576) (hcap : Q.N ≤ bcap) (hL : ∀ i, i < Q.N → Q.L i ≤ 1048576) (hbo : 0 < Q.N → bo = some ⟨A, off, none⟩) (hao : ∀ A o sp, ao = some ⟨A, o, sp⟩ → A < w.heap.size) (hS : ItIn Q w ao (List.range Q.m)) (hBl : BlIn Q w A off so) : Calls Try.prog 12 #[.agg #[.int .i64 m, .int .i64 d, .slice ao Q.m cap, .slice bo Q.N bcap]] w (VP (cntV Q m d) w) := by
  have BP : Blk (w.alloc (.cells #[.int .i64 m, .int .i64 d, .slice ao Q.m cap, .slice bo Q.N bcap] 31)) w.heap.size [.int .i64 m, .int .i64 d, .slice ao Q.m cap, .slice bo Q.N bcap] := Blk.new w [.int .i64 m, .int .i64 d, .slice ao Q.m cap, .slice bo Q.N bcap] 31 rfl
  have HB : Below w.heap.size w (w.alloc (.cells #[.int .i64 m, .int .i64 d, .slice ao Q.m cap, .slice bo Q.N bcap] 31)) := (Below.refl _ w).alloc (Nat.le_refl _) _
  have CQ := quadOf_any (w.alloc (.cells #[.int .i64 m, .int .i64 d, .slice ao Q.m cap, .slice bo Q.N bcap] 31)) Q ao bo cap bcap A off so m d hm hN hcap hL hbo (fun A o sp e => Nat.lt_of_lt_of_le (hao A o sp e) HB.size) (hS.step HB) (hBl.below HB)
  clear hS hBl
  go_enter Try.func12, Try.ntmps12
  go_upto_region 1 with fail
  generalize (w.alloc (.cells #[.int .i64 m, .int .i64 d, .slice ao Q.m cap, .slice bo Q.N bcap] 31)) = W1 at *
  have c0 := BP.c 0 rfl; have c1 := BP.c 1 rfl; have c2 := BP.c 2 rfl; have c3 := BP.c 3 rfl
  go_wp2_with fail
  refine CQ.mono ?_
  rintro r w1 ⟨pv, rfl, hB1, hT⟩
  replace HB := HB.trans (hB1.mono HB.size)
  clear CQ c0 c1 c2 c3 BP hB1
  cases hq : qOk Q m d with
  | false =>
    have HQ : Hid (cntV Q m d = .tuple #[.int .i64 0, .int .i64 0]) := if_neg (by rw [hq]; decide)
    clear hq hT
    go_wp2
    go_ret2
    exact ⟨by rw [HQ.out]; rfl, HB⟩
  | true =>
    have HQ : Hid (cntV Q m d = .tuple #[.int .i64 (nlT (trQ Q d.toNat 0 (-1048576) (-1048576) 2097152) : Int), .int .i64 (dpT (trQ Q d.toNat 0 (-1048576) (-1048576) 2097152) : Int)]) := if_pos hq
    obtain ⟨gq, io, ic, gr, rfl, Bq, _, _, hPT⟩ := hT hq
    have hsm := tr_small hq
    have C := leaves_any (trQ Q d.toNat 0 (-1048576) (-1048576) 2097152) _ _ _ _ _ _ w1 (by omega) hPT
    have MX := mxL_lvs (trQ Q d.toNat 0 (-1048576) (-1048576) 2097152) (-1048576) (-1048576) 2097152 0 0
    have LN := lvs_len (trQ Q d.toNat 0 (-1048576) (-1048576) 2097152) (-1048576) (-1048576) 2097152 0
    obtain ⟨t, ht⟩ : ∃ t, trQ Q d.toNat 0 (-1048576) (-1048576) 2097152 = t := ⟨_, rfl⟩
    rw [ht] at C MX LN hsm
    have HQ2 : Hid (cntV Q m d = .tuple #[.int .i64 (nlT t : Int), .int .i64 (dpT t : Int)]) := by show _ = _; rw [HQ.out, ht]
    have HMX : Hid (mxL 0 (lvs t (-1048576) (-1048576) 2097152 0) = (dpT t : Int)) := by show _ = _; rw [MX]; omega
    have HLN : Hid ((lvs t (-1048576) (-1048576) 2097152 0).length = nlT t) := LN
    obtain ⟨LL, hLL⟩ : ∃ LL, lvs t (-1048576) (-1048576) 2097152 0 = LL := ⟨_, rfl⟩
    have q3 := Bq.c 3 rfl
    rw [hLL] at C
    clear hq hT HQ ht MX LN hPT
    go_wp2_with fail
    refine C.mono ?_
    rintro r w2 ⟨v, ps, rfl, HO, hLv, hB2⟩
    have hlen := hLv.len
    have hps : ps.length ≤ 65536 := by have := HLN.out; rw [hLL] at this; omega
    have hps0 : 0 < ps.length := by have := HLN.out; rw [hLL] at this; have := nl_pos t; omega
    have HPL : Hid (ps.length = nlT t) := by show _ = _; have := HLN.out; rw [hLL] at this; omega
    have HLP : Hid (ps.length = LL.length) := hlen
    have HLV : Hid (LvP _ w1 ps LL) := hLv
    obtain ⟨g2, cc, rfl, hg1, hg2, hg3, _⟩ := ownQ_form HO hps0
    have HCL : Hid (∀ i p, ps[i]? = some p → w2.cell? ⟨g2, i, none⟩ = some (.pointer (some ⟨p, 0, none⟩))) := fun i p hi => by
      have h := HO.cells rfl i (.pointer (some ⟨p, 0, none⟩)) (by unfold ptL; rw [List.getElem?_map, hi]; rfl)
      rw [Addr.add_lit, Nat.zero_add] at h
      exact h
    have hpsI : (ps.length : Int) ≤ 65536 := by omega
    replace HB := HB.trans (hB2.mono HB.size)
    have HB2 : Hid (Below w1.heap.size w1 w2) := hB2
    clear C q3 hlen hLv HO hB2 Bq
    obtain ⟨n, hn⟩ : ∃ n, ps.length = n := ⟨_, rfl⟩
    have HNN : Hid (ps.length = n) := hn
    rw [hn] at hps hps0 hpsI hg3 ⊢
    clear hn
    go_wp2_with fail
    go_loopw [6, 24] (fun dm i wr => ∃ c : Nat, c ≤ n ∧ i = .int .i64 c ∧ dm = .int .i64 (mxL 0 (LL.take c)) ∧ Below w2.heap.size w2 wr) (fun _ i _ => n - (intOf i).toNat)
    case atStart => exact ⟨0, by omega, rfl, rfl, Below.refl _ _⟩
    case round =>
      obtain ⟨c, hc, rfl, rfl, HBr⟩ := hrel
      by_cases hcn : c < n
      · have hcI : (c : Int) < n := by omega
        obtain ⟨qq, hqq⟩ : ∃ qq, LL[c]? = some qq := ⟨_, List.getElem?_eq_getElem (by have := HNN.out; have := HLP.out; omega)⟩
        obtain ⟨p, hp, _, iv, hBk, _⟩ := HLV.out.at hqq
        have cp := (HBr.cell (p := ⟨g2, c, none⟩) hg2).trans (HCL.out c p hp)
        have c3 := ((HB2.out.trans (HBr.mono HB2.out.size)).cell (p := ⟨p, 3, none⟩) hBk.lt).trans (hBk.c 3 rfl)
        obtain ⟨m1, hm1⟩ : ∃ m1, mxL 0 (LL.take c) = m1 := ⟨_, rfl⟩
        have E2 : Hid (mxL 0 (LL.take (c + 1)) = if m1 < qq.lv then qq.lv else m1) := by
          show _ = _
          rw [List.take_add_one, hqq, mxL_app, hm1]
          show max m1 qq.lv = _
          split <;> omega
        rw [hm1]
        clear hm1 hqq hp
        go_wp2
        go_roundw
        case rel => exact ⟨c + 1, by omega, by go_num, by rw [E2.out], HBr⟩
        case measure => simp [intOf]; omega
      · obtain rfl : c = n := by omega
        have E3 : Hid (mxL 0 (LL.take c) = (dpT t : Int)) := by
          show _ = _
          rw [List.take_of_length_le (by have := HNN.out; have := HLP.out; omega), ← hLL]
          exact HMX.out
        have E4 : Hid ((c : Int) = (nlT t : Int)) := by show _ = _; rw [← HNN.out, HPL.out]
        go_wp2
        go_ret2
        exact ⟨by rw [HQ2.out, ← E3.out, ← E4.out]; rfl, HB.trans (HBr.mono HB.size)⟩
end Go.Proofs.Ytaagmdhbfbikfaa

/- The law of how many leaves a tree has. -/
namespace Go.Proofs.Ytaagmdhbfbikfaa
open Go.RowKit
theorem cntV_two (Q : QD) (m d : Int) : ∃ a b : Int, cntV Q m d = .tuple #[.int .i64 a, .int .i64 b] := by
  unfold cntV
  split
  · exact ⟨_, _, rfl⟩
  · exact ⟨_, _, rfl⟩
def VqeC (Qd : QD) (m d : Int) (ao bo : Option Addr) (cap bcap gi gb : Nat) (_B : Nat) : Nat → Value → World → Prop
  | 0, v, _ => v = .agg #[.int .i64 m, .int .i64 d, .slice (some ⟨gi, 0, none⟩) Qd.m Qd.m, .slice (some ⟨gb, 0, none⟩) Qd.N Qd.N]
  | 1, v, _ => v = .agg #[.int .i64 m, .int .i64 d, .slice ao Qd.m cap, .slice bo Qd.N bcap]
  | 2, v, W => QuE Qd m d v W
  | 3, v, _ => v = .bool true
  | 4, v, _ => v = .bool false
  | _, _, _ => True
theorem VqeC.mono {Qd : QD} {m d : Int} {ao bo : Option Addr} {cap bcap gi gb : Nat} {B j : Nat} {v : Value} {W W2 : World} (hB : Below W.heap.size W W2) (h : VqeC Qd m d ao bo cap bcap gi gb B j v W) : VqeC Qd m d ao bo cap bcap gi gb B j v W2 := by
  unfold VqeC at *
  split <;> simp only at h <;> first | exact h | exact h.step hB | trivial
set_option maxRecDepth 100000 in
set_option maxHeartbeats 4000000 in
theorem qeC {Q : Exit → Act → World → Prop} {Qd : QD} {m d : Int} {ao bo : Option Addr} {cap bcap gi gb : Nat} {P X A off : Nat} {so : Nat → Option Addr × Nat} {S : Nat → Nat} {w0 : World} {a0 : Act} {idq : Nat} {t0 t1 t2 t3 t4 : TypeId} {q0 q1 q2 q3 q4 : String}
    (hm : Qd.m ≤ 1048576) (hN : Qd.N ≤ 1048576) (hL : ∀ i, i < Qd.N → Qd.L i ≤ 1048576) (hbo : 0 < Qd.N → bo = some ⟨A, off, none⟩) (hIt : ItIn Qd w0 ao (List.range Qd.m)) (hBl : BlIn Qd w0 A off so) (hR : QuRow Qd w0 0 gi gb S) (h1 : a0.tmps[1]? = some (.pointer (some ⟨P, 0, none⟩))) (h6 : a0.tmps[6]? = some (.pointer (some ⟨X, 0, none⟩))) (k0 : w0.cell? ⟨P, 0, none⟩ = some (.int .i64 m)) (l0 : (⟨P, 0, none⟩ : Addr).block < w0.heap.size) (k1 : w0.cell? ⟨P, 1, none⟩ = some (.int .i64 d)) (l1 : (⟨P, 1, none⟩ : Addr).block < w0.heap.size) (k2 : w0.cell? ⟨P, 2, none⟩ = some (.slice ao Qd.m cap)) (l2 : (⟨P, 2, none⟩ : Addr).block < w0.heap.size) (k3 : w0.cell? ⟨P, 3, none⟩ = some (.slice bo Qd.N bcap)) (l3 : (⟨P, 3, none⟩ : Addr).block < w0.heap.size) (k4 : w0.cell? ⟨X, 0, none⟩ = some (.int .i64 m)) (l4 : (⟨X, 0, none⟩ : Addr).block < w0.heap.size) (k5 : w0.cell? ⟨X, 1, none⟩ = some (.int .i64 d)) (l5 : (⟨X, 1, none⟩ : Addr).block < w0.heap.size) (k6 : w0.cell? ⟨X, 2, none⟩ = some (.slice (some ⟨gi, 0, none⟩) Qd.m Qd.m)) (l6 : (⟨X, 2, none⟩ : Addr).block < w0.heap.size) (k7 : w0.cell? ⟨X, 3, none⟩ = some (.slice (some ⟨gb, 0, none⟩) Qd.N Qd.N)) (l7 : (⟨X, 3, none⟩ : Addr).block < w0.heap.size) (hz : a0.tmps.size = 40)
    (hQ : ∀ aq W, aq.tmps.size = a0.tmps.size → aq.defers = a0.defers → (∀ e, e ∉ ([35, 36, 37, 38, 39] : List Nat) → aq.tmps[e]? = a0.tmps[e]?) → VqeC Qd m d ao bo cap bcap gi gb w0.heap.size 4 (aq.tmps.getD 39 undef) W → Below w0.heap.size w0 W → Q .normal aq W) :
    (Code.region idq #[{ dst := some 35, op := Op.load 31 (Operand.tmp 6), type := t0, pos := q0, after := #[], guard := none },
    { dst := some 36, op := Op.load 25 (Operand.tmp 1), type := t1, pos := q1, after := #[], guard := none },
    { dst := some 37, op := Op.call { callee := Callee.value (Operand.func 8), args := #[Operand.tmp 36], argTypes := #[25] }, type := t2, pos := q2, after := #[{ on := 1, ground := Ground.data }], guard := none },
    { dst := some 38, op := Op.call { callee := Callee.value (Operand.func 10), args := #[Operand.tmp 35, Operand.tmp 37], argTypes := #[31, 31] }, type := t3, pos := q3, after := #[{ on := 0, ground := Ground.data }, { on := 2, ground := Ground.data }, { on := 2, ground := Ground.chain }], guard := none },
    { dst := some 39, op := Op.unOp UnOp.not 4 (Operand.tmp 38), type := t4, pos := q4, after := #[{ on := 3, ground := Ground.data }], guard := none }] true).wp Try.prog Q a0 w0 := by
  have hS : distS [some 35, some 36, some 37, some 38, some 39] = true := rfl
  refine wp_region_q (by kernel_rfl) w0.heap.size [some 35, some 36, some 37, some 38, some 39] (VqeC Qd m d ao bo cap bcap gi gb w0.heap.size) rfl ?_ ?_
  · intro Q lq aq W iq oq hJ hl ho hall
    have hJ2 := hJ
    obtain ⟨z1, z2, z3, z4, z5, z6, z7⟩ := hJ
    have g1 : aq.tmps.getD 1 undef = .pointer (some ⟨P, 0, none⟩) := by rw [Array.getD_eq_getD_getElem?, z4 1 (by decide), h1]; rfl
    have g6 : aq.tmps.getD 6 undef = .pointer (some ⟨X, 0, none⟩) := by rw [Array.getD_eq_getD_getElem?, z4 6 (by decide), h6]; rfl
    have c0 : W.cell? ⟨P, 0, none⟩ = some (.int .i64 m) := (z5.cell l0).trans k0
    have c1 : W.cell? ⟨P, 1, none⟩ = some (.int .i64 d) := (z5.cell l1).trans k1
    have c2 : W.cell? ⟨P, 2, none⟩ = some (.slice ao Qd.m cap) := (z5.cell l2).trans k2
    have c3 : W.cell? ⟨P, 3, none⟩ = some (.slice bo Qd.N bcap) := (z5.cell l3).trans k3
    have c4 : W.cell? ⟨X, 0, none⟩ = some (.int .i64 m) := (z5.cell l4).trans k4
    have c5 : W.cell? ⟨X, 1, none⟩ = some (.int .i64 d) := (z5.cell l5).trans k5
    have c6 : W.cell? ⟨X, 2, none⟩ = some (.slice (some ⟨gi, 0, none⟩) Qd.m Qd.m) := (z5.cell l6).trans k6
    have c7 : W.cell? ⟨X, 3, none⟩ = some (.slice (some ⟨gb, 0, none⟩) Qd.N Qd.N) := (z5.cell l7).trans k7
    match iq, ho with
    | 0, ho =>
      cases ho
      refine wpOp_of rfl rfl ?_
      have hK := fun (v : Value) (W2 : World) hW hT hv => hJ2.put hS 0 35 rfl (by omega) (W' := W2) hW hT v hv
      clear ho hall hl hQ
      generalize InvQ _ _ _ w0 a0 (lq.setIfInBounds 0 true) = K at hK ⊢
      clear hJ2 hS z1 z2 z3 z4 z6 z7
      go_simp
      exact hK _ _ z5 (fun _ _ h => h) rfl
    | 1, ho =>
      cases ho
      refine wpOp_of rfl rfl ?_
      have hK := fun (v : Value) (W2 : World) hW hT hv => hJ2.put hS 1 36 rfl (by omega) (W' := W2) hW hT v hv
      clear ho hall hl hQ
      generalize InvQ _ _ _ w0 a0 (lq.setIfInBounds 1 true) = K at hK ⊢
      clear hJ2 hS z1 z2 z3 z4 z6 z7
      go_simp
      exact hK _ _ z5 (fun _ _ h => h) rfl
    | 2, ho =>
      cases ho
      refine wpOp_of rfl rfl ?_
      have f1 : (aq.tmps.getD 36 undef) = .agg #[.int .i64 m, .int .i64 d, .slice ao Qd.m cap, .slice bo Qd.N bcap] := z6 1 36 (hall { on := 1, ground := Ground.data } (by simp) rfl) rfl
      have hK := fun (v : Value) (W2 : World) hW hT hv => hJ2.put hS 2 37 rfl (by omega) (W' := W2) hW hT v hv
      clear ho hall hl hQ
      generalize InvQ _ _ _ w0 a0 (lq.setIfInBounds 2 true) = K at hK ⊢
      clear hJ2 hS z1 z2 z3 z4 z6 z7
      go_simp
      refine (toQuad_any Qd ao bo cap bcap A off so m d hm hN hL hbo W (hIt.step z5) (hBl.below z5)).mono ?_
      rintro r v1 ⟨gi2, gb2, S2, rfl, R2, hBv⟩
      exact hK _ _ (z5.trans (hBv.mono z5.size)) (fun _ _ h => h.mono hBv) ⟨gi2, gb2, S2, rfl, R2.zero⟩
    | 3, ho =>
      cases ho
      refine wpOp_of rfl rfl ?_
      have f0 : (aq.tmps.getD 35 undef) = .agg #[.int .i64 m, .int .i64 d, .slice (some ⟨gi, 0, none⟩) Qd.m Qd.m, .slice (some ⟨gb, 0, none⟩) Qd.N Qd.N] := z6 0 35 (hall { on := 0, ground := Ground.data } (by simp) rfl) rfl
      have f2 : QuE Qd m d (aq.tmps.getD 37 undef) W := z6 2 37 (hall { on := 2, ground := Ground.data } (by simp) rfl) rfl
      obtain ⟨gi2, gb2, S2, f2, R2⟩ := f2
      have hK := fun (v : Value) (W2 : World) hW hT hv => hJ2.put hS 3 38 rfl (by omega) (W' := W2) hW hT v hv
      clear ho hall hl hQ
      generalize InvQ _ _ _ w0 a0 (lq.setIfInBounds 3 true) = K at hK ⊢
      clear hJ2 hS z1 z2 z3 z4 z6 z7
      go_simp
      refine (eqQuad_any Qd m d _ _ _ _ _ _ _ _ gb 0 gb2 0 _ _ hm hN hL W (fun _ => rfl) (fun _ => rfl) (hR.step z5).items R2.items (hR.step z5).bls.in R2.bls.in).mono ?_
      rintro r v1 ⟨rfl, hBv⟩
      exact hK _ _ (z5.trans (hBv.mono z5.size)) (fun _ _ h => h.mono hBv) rfl
    | 4, ho =>
      cases ho
      refine wpOp_of rfl rfl ?_
      have f3 : (aq.tmps.getD 38 undef) = .bool true := z6 3 38 (hall { on := 3, ground := Ground.data } (by simp) rfl) rfl
      have hK := fun (v : Value) (W2 : World) hW hT hv => hJ2.put hS 4 39 rfl (by omega) (W' := W2) hW hT v hv
      clear ho hall hl hQ
      generalize InvQ _ _ _ w0 a0 (lq.setIfInBounds 4 true) = K at hK ⊢
      clear hJ2 hS z1 z2 z3 z4 z6 z7
      go_simp
      exact hK _ _ z5 (fun _ _ h => h) rfl
    | iq + 5, ho => simp at ho
  · intro lq aq W hJ hr
    obtain ⟨z1, z2, z3, z4, z5, z6, z7⟩ := hJ
    have hl := listed_of hr [0, 1, 2, 3, 4] [] (by simp) (by kernel_rfl) (by rw [z1]; decide)
    exact hQ aq W z2 z3 (fun e he => z4 e (by simpa using he)) (z6 4 39 (hl 4 (by simp)) rfl) z5
set_option maxRecDepth 100000 in
set_option maxHeartbeats 4000000 in
theorem lawQuadCount_any (Q : QD) (ao bo : Option Addr) (cap bcap A off : Nat) (so : Nat → Option Addr × Nat) (m d : Int) (hm : Q.m ≤ 9223372036854775807) (hN : Q.N ≤ 9223372036854775807) (hL : ∀ i, i < Q.N → Q.L i ≤ 9223372036854775807) (hbo : 0 < Q.N → bo = some ⟨A, off, none⟩) (w : World) (hS : ItIn Q w ao (List.range Q.m)) (hBl : BlIn Q w A off so) : Calls Try.prog 4 #[.agg #[.int .i64 m, .int .i64 d, .slice ao Q.m cap, .slice bo Q.N bcap]] w (BoolP true w) := by
  have B0 := Blk.new w [.int .i64 m, .int .i64 d, .slice ao Q.m cap, .slice bo Q.N bcap] 25 rfl
  have HB : Below w.heap.size w (w.alloc (.cells #[.int .i64 m, .int .i64 d, .slice ao Q.m cap, .slice bo Q.N bcap] 25)) := (Below.refl _ w).alloc (Nat.le_refl _) _
  have SZ := fun w h => szQuad_any Q ao bo cap bcap A off so m d hm hN hL hbo w h
  have HS : Hid (ItIn Q w ao (List.range Q.m)) := hS
  have HBL : Hid (BlIn Q w A off so) := hBl
  clear hS hBl hm hN hL
  go_enter Try.func4, Try.ntmps4
  go_upto_region 1 with fail
  generalize (w.alloc (.cells #[.int .i64 m, .int .i64 d, .slice ao Q.m cap, .slice bo Q.N bcap] 25)) = W1 at *
  have b0 := B0.c 0 rfl; have b1 := B0.c 1 rfl; have b2 := B0.c 2 rfl; have b3 := B0.c 3 rfl
  go_wp2_with fail
  refine (SZ _ (HBL.out.below HB)).mono ?_
  rintro e w1 ⟨z, rfl, z0, hz, hB⟩
  replace HB := HB.trans (hB.mono HB.size)
  replace B0 := B0.step hB
  clear hB SZ b0 b1 b2 b3
  by_cases hz0 : 0 ≤ z
  · obtain ⟨hm, hN, hL⟩ := hz hz0
    have HM : Hid (Q.m ≤ 1048576) := hm
    have HN : Hid (Q.N ≤ 1048576) := hN
    have HL : Hid (∀ i, i < Q.N → Q.L i ≤ 1048576) := hL
    have HBO : Hid (0 < Q.N → bo = some ⟨A, off, none⟩) := hbo
    clear hz hm hN hL hbo
    have b0 := B0.c 0 rfl; have b1 := B0.c 1 rfl; have b2 := B0.c 2 rfl; have b3 := B0.c 3 rfl
    go_wp2_with fail
    refine (toQuad_any Q ao bo cap bcap A off so m d HM.out HN.out HL.out HBO.out _ (HS.out.step HB) (HBL.out.below HB)).mono ?_
    rintro e w2 ⟨g1, h1, S1, rfl, R1, hB⟩
    replace HB := HB.trans (hB.mono HB.size)
    replace B0 := B0.step hB
    clear hB b0 b1 b2 b3
    have b0 := B0.c 0 rfl; have b1 := B0.c 1 rfl; have b2 := B0.c 2 rfl; have b3 := B0.c 3 rfl
    go_wp2_with fail
    obtain ⟨n1, n2, hcv⟩ := cntV_two Q m d
    refine (specQuadCount_any _ Q _ _ _ _ h1 0 _ m d HM.out HN.out HL.out (fun _ => rfl) (fun _ _ h => by cases h) R1.items R1.bls.in).mono ?_
    rintro e w3 ⟨rfl, hB⟩
    have HCV : Hid (cntV Q m d = .tuple #[.int .i64 n1, .int .i64 n2]) := hcv
    rw [hcv]
    clear hcv
    replace HB := HB.trans (hB.mono HB.size)
    replace B0 := B0.step hB
    clear hB b0 b1 b2 b3 R1
    have b0 := B0.c 0 rfl; have b1 := B0.c 1 rfl; have b2 := B0.c 2 rfl; have b3 := B0.c 3 rfl
    go_wp2_with fail
    refine (toQuad_any Q ao bo cap bcap A off so m d HM.out HN.out HL.out HBO.out _ (HS.out.step HB) (HBL.out.below HB)).mono ?_
    rintro e w4 ⟨gi, gb, S2, rfl, R2, hB⟩
    replace HB := HB.trans (hB.mono HB.size)
    replace B0 := B0.step hB
    clear hB b0 b1 b2 b3
    have B5 : Blk (w4.alloc (.cells #[.int .i64 m, .int .i64 d, .slice (some ⟨gi, 0, none⟩) Q.m Q.m, .slice (some ⟨gb, 0, none⟩) Q.N Q.N] 31)) w4.heap.size [.int .i64 m, .int .i64 d, .slice (some ⟨gi, 0, none⟩) Q.m Q.m, .slice (some ⟨gb, 0, none⟩) Q.N Q.N] := Blk.new w4 [.int .i64 m, .int .i64 d, .slice (some ⟨gi, 0, none⟩) Q.m Q.m, .slice (some ⟨gb, 0, none⟩) Q.N Q.N] 31 rfl
    replace R2 := R2.step ((Below.refl _ w4).alloc (Nat.le_refl _) (.cells #[.int .i64 m, .int .i64 d, .slice (some ⟨gi, 0, none⟩) Q.m Q.m, .slice (some ⟨gb, 0, none⟩) Q.N Q.N] 31))
    replace HB := HB.alloc HB.size (.cells #[.int .i64 m, .int .i64 d, .slice (some ⟨gi, 0, none⟩) Q.m Q.m, .slice (some ⟨gb, 0, none⟩) Q.N Q.N] 31)
    replace B0 := B0.alloc (.cells #[.int .i64 m, .int .i64 d, .slice (some ⟨gi, 0, none⟩) Q.m Q.m, .slice (some ⟨gb, 0, none⟩) Q.N Q.N] 31)
    go_upto_region 7 with fail
    generalize (w4.alloc (.cells #[.int .i64 m, .int .i64 d, .slice (some ⟨gi, 0, none⟩) Q.m Q.m, .slice (some ⟨gb, 0, none⟩) Q.N Q.N] 31)) = W5 at *
    have x0 := B5.c 0 rfl; have x1 := B5.c 1 rfl; have x2 := B5.c 2 rfl; have x3 := B5.c 3 rfl
    go_wp2_with fail
    refine (implQuadCount_any _ Q _ _ _ _ gb 0 _ m d HM.out HN.out (Nat.le_refl _) HL.out (fun _ => rfl) (fun A o sp e => by cases e; exact R2.its.lt) R2.items R2.bls.in).mono ?_
    rintro e w6 ⟨rfl, hB⟩
    rw [HCV.out]
    replace HB := HB.trans (hB.mono HB.size)
    replace B0 := B0.step hB
    replace B5 := B5.step hB
    replace R2 := R2.step hB
    clear hB x0 x1 x2 x3
    have hp := B0.lt
    have hx := B5.lt
    go_upto_region 10 with fail
    refine qeC (P := w.heap.size) (X := w4.heap.size) (A := A) (off := off) (so := so) (S := S2) (Qd := Q) (m := m) (d := d) (ao := ao) (bo := bo) (cap := cap) (bcap := bcap) (gi := gi) (gb := gb) HM.out HN.out HL.out HBO.out (HS.out.step HB) (HBL.out.below HB) R2.zero rfl rfl (B0.c 0 rfl) hp (B0.c 1 rfl) hp (B0.c 2 rfl) hp (B0.c 3 rfl) hp (B5.c 0 rfl) hx (B5.c 1 rfl) hx (B5.c 2 rfl) hx (B5.c 3 rfl) hx rfl ?_
    rintro ⟨tm, df⟩ Wz hz hdf hoff h26 hBz
    simp only at hz hdf hoff h26
    change tm.getD 39 undef = .bool false at h26
    subst hdf
    have htm := tmps_fold [35, 36, 37, 38, 39] tm _ hz hoff
    simp only [List.foldl, List.setIfInBounds_toArray, List.set_cons_zero, List.set_cons_succ, h26] at htm
    clear hz hoff
    generalize tm.getD 35 undef = pz0, tm.getD 36 undef = pz1, tm.getD 37 undef = pz2, tm.getD 38 undef = pz3 at htm
    clear h26
    subst htm
    replace HB := HB.trans (hBz.mono HB.size)
    clear hBz B0 B5 R2 HS HBL
    go_wp2
    go_ret
    exact ⟨rfl, HB⟩
  · have hz' : z < 0 := by omega
    clear hz hbo HS HBL
    go_wp2
    go_ret
    exact ⟨rfl, HB⟩
end Go.Proofs.Ytaagmdhbfbikfaa

/- How spots and segments read as data, beside points: opened and shut. -/
namespace Go.Proofs.Ytaagmdhbfbikfaa
open Go.ChangeShapes Go.WideShapes Go.ChangeAt Go.RowKit Go.Joins
theorem Try.cellsSpot : Try.prog.cellsOf 38 = 2 := by kernel_rfl
theorem Try.cellsSeg : Try.prog.cellsOf 92 = 4 := by kernel_rfl
abbrev Wf (x : Int) : Prop := (Lit.int .i64 x).wf = true
abbrev SpD {H : Type} (x y : Int) : DataW H := .agg [.lit (.int .i64 x), .lit (.int .i64 y)]
theorem trod_spot {H : Type} {enc : TypeId × Value → H} {w : World} {base : Nat} {spare : TypeId → Bool} {held : Bool} {n : Nat} {c0 c1 : Value} {y : DataW H × List MemPlace} (h : DataW.trod enc Try.prog w base spare held n 38 [c0, c1] = some y) :
    ∃ a b : Int, c0 = .int .i64 a ∧ c1 = .int .i64 b ∧ y = (SpD a b, []) ∧ Wf a ∧ Wf b := by
  obtain ⟨y0, y1, m, hx, _, h0, h1⟩ := trod_struct2 Try.underlying38 h
  obtain ⟨a, e0, rfl, wa⟩ := DataW.trod_int Try.underlying2 h0
  obtain ⟨b, e1, rfl, wb⟩ := DataW.trod_int Try.underlying2 h1
  have k : Try.prog.cellsOf 2 = 1 := by kernel_rfl
  simp [k] at e0 e1
  exact ⟨a, b, e0, e1, hx, wa, wb⟩
end Go.Proofs.Ytaagmdhbfbikfaa
