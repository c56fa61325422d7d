/- Part 12 of the walks that the proof leans on. -/
import Derived.Test.YtaagmdhbfbikfaaPart11
import Derived.Test.YtaagmdhbfbikfaaPart8
import Derived.Test.YtaagmdhbfbikfaaPart6
import Derived.Test.YtaagmdhbfbikfaaPart1
import Derived.Lib.SmallJoins
import Derived.SizedLaws
import Derived.Deep.Slices
import Derived.Test.YtaagmdhbfbikfaaRows
import Derived.ProofKit
/- A tree that is right: the model. -/
namespace Go.Proofs.Ytaagmdhbfbikfaa
open Go.RowKit
theorem qOk_item {Q : QD} {m d : Int} {c : Nat} (hc : c < Q.m) (h : itB Q c = false) : qOk Q m d = false := by
  unfold qOk
  rw [show itsB Q = false from decide_eq_false (fun k => by have := k.2 c hc; rw [h] at this; cases this)]
  simp
theorem mrd_kids {Q : QD} {d at_ : Nat} {x y s : Int} {e : Nat} (h : mrd Q (d + 1) at_ x y s = some e) (hT : Q.T at_ = true) : Q.L at_ = 0 ∧ ∀ k, k < 4 → ∃ a b, kp (fun a x y => mrd Q d a x y (s / 2)) (at_ + 1) x y (s / 2) k = some a ∧ mrd Q d a (kX x (s / 2) k) (kY y (s / 2) k) (s / 2) = some b := by
  have hb : baseB Q at_ x y s = true := by
    cases hb : baseB Q at_ x y s with
    | true => rfl
    | false => rw [mrd_no hb] at h; cases h
  have hL : Q.L at_ = 0 := by
    apply Classical.byContradiction
    intro hL
    rw [mrd_full hT hL] at h
    cases h
  refine ⟨hL, ?_⟩
  rw [mrd_split hb hT hL] at h
  have step : ∀ k b, kp (fun a x y => mrd Q d a x y (s / 2)) (at_ + 1) x y (s / 2) (k + 1) = some b → ∃ a, kp (fun a x y => mrd Q d a x y (s / 2)) (at_ + 1) x y (s / 2) k = some a ∧ mrd Q d a (kX x (s / 2) k) (kY y (s / 2) k) (s / 2) = some b := fun k b hk => Option.bind_eq_some_iff.1 hk
  obtain ⟨a3, h3, g3⟩ := step 3 e h
  obtain ⟨a2, h2, g2⟩ := step 2 a3 h3
  obtain ⟨a1, h1, g1⟩ := step 1 a2 h2
  obtain ⟨a0, h0, g0⟩ := step 0 a1 h1
  intro k hk
  rcases (show k = 0 ∨ k = 1 ∨ k = 2 ∨ k = 3 by omega) with h | h | h | h <;> subst h
  · exact ⟨_, _, h0, g0⟩
  · exact ⟨_, _, h1, g1⟩
  · exact ⟨_, _, h2, g2⟩
  · exact ⟨_, _, h3, g3⟩
theorem lenT_tr {Q : QD} (hL : ∀ i, i < Q.N → Q.L i ≤ 1048576) : ∀ {d at_ : Nat} {x y s : Int} {e : Nat}, mrd Q d at_ x y s = some e → lenT (trQ Q d at_ x y s)
  | d, at_, x, y, s, e, h => by
    have hle := mrd_le h
    cases hT : Q.T at_ with
    | false =>
      rw [trQ_leaf hT]
      show (blL Q at_).length ≤ 1048576
      rw [blL_len]
      exact hL at_ (by omega)
    | true =>
      cases d with
      | zero => rw [mrd_zero hT] at h; cases h
      | succ d =>
        unfold trQ
        rw [if_pos hT]
        intro k hk
        obtain ⟨a, b, h1, h2⟩ := (mrd_kids h hT).2 k hk
        dsimp only
        rw [h1]
        exact lenT_tr hL h2
/-- What the model's root tells. -/
def RtP (Q : QD) (m d : Int) (w : World) (r : Ending) (w' : World) : Prop :=
  Below w.heap.size w w' ∧ ((qOk Q m d = false ∧ r = .returned (.tuple #[.agg #[.int .i64 0, .int .i64 0, .int .i64 0, .slice none 0 0, .slice none 0 0], .bool false])) ∨ (qOk Q m d = true ∧ ∃ kv ev, r = .returned (.tuple #[.agg #[.int .i64 (-1048576), .int .i64 (-1048576), .int .i64 2097152, kv, ev], .bool true]) ∧ MTr (fun b => w.heap.size ≤ b) w' (trQ Q d.toNat 0 (-1048576) (-1048576) 2097152) (-1048576) (-1048576) 2097152 kv ev))
theorem root_sq : Sq (-1048576) (-1048576) 2097152 := ⟨by omega, by omega, by omega, by omega, by omega⟩
set_option maxRecDepth 100000 in
set_option maxHeartbeats 16000000 in
theorem l13Root_any (w : World) (Q : QD) (ao bo : Option Addr) (cap bcap A off : Nat) (so : Nat → Option Addr × Nat) (m d : Int) (hm : Q.m ≤ 1048576) (hN : Q.N ≤ 1048576) (hL : ∀ i, i < Q.N → Q.L i ≤ 1048576) (hbo : 0 < Q.N → bo = some ⟨A, off, none⟩) (hso : ∀ i, i < Q.N → (so i).1 = none → (so i).2 = 0) (hS : ItIn Q w ao (List.range Q.m)) (hBl : BlIn Q w A off so) : Calls Try.prog 22 #[.agg #[.int .i64 m, .int .i64 d, .slice ao Q.m cap, .slice bo Q.N bcap]] w (RtP Q m d w) := by
  have BP : Blk ((w.alloc (.cells #[.int .i64 m, .int .i64 d, .slice ao Q.m cap, .slice bo Q.N bcap] 31)).alloc (.cells #[.int .i64 0, .int .i64 0, .int .i64 0, .slice none 0 0, .slice none 0 0] 52)) w.heap.size [.int .i64 m, .int .i64 d, .slice ao Q.m cap, .slice bo Q.N bcap] := (Blk.new w [.int .i64 m, .int .i64 d, .slice ao Q.m cap, .slice bo Q.N bcap] 31 rfl).alloc _
  have BR : Blk ((w.alloc (.cells #[.int .i64 m, .int .i64 d, .slice ao Q.m cap, .slice bo Q.N bcap] 31)).alloc (.cells #[.int .i64 0, .int .i64 0, .int .i64 0, .slice none 0 0, .slice none 0 0] 52)) (w.heap.size + 1) [.int .i64 0, .int .i64 0, .int .i64 0, .slice none 0 0, .slice none 0 0] := Blk.new (w.alloc (.cells #[.int .i64 m, .int .i64 d, .slice ao Q.m cap, .slice bo Q.N bcap] 31)) [.int .i64 0, .int .i64 0, .int .i64 0, .slice none 0 0, .slice none 0 0] 52 (by simp)
  have HB : Below w.heap.size w ((w.alloc (.cells #[.int .i64 m, .int .i64 d, .slice ao Q.m cap, .slice bo Q.N bcap] 31)).alloc (.cells #[.int .i64 0, .int .i64 0, .int .i64 0, .slice none 0 0, .slice none 0 0] 52)) := ((Below.refl _ w).alloc (Nat.le_refl _) _).alloc (by simp) _
  have CL := l13Limits_any m d
  have HBl : Hid (BlIn Q w A off so) := hBl
  have HS0 : Hid (ItIn Q w ao (List.range Q.m)) := hS
  clear hS hBl
  obtain ⟨b1, hb1⟩ : ∃ b, limB m d = b := ⟨_, rfl⟩
  rw [hb1] at CL
  have HLIM : Hid (limB m d = b1) := hb1
  clear hb1
  have hmI : (Q.m : Int) ≤ 1048576 := by omega
  have hNI : (Q.N : Int) ≤ 1048576 := by omega
  go_enter Try.func22, Try.ntmps22
  go_upto_region 1 with fail
  generalize ((w.alloc (.cells #[.int .i64 m, .int .i64 d, .slice ao Q.m cap, .slice bo Q.N bcap] 31)).alloc (.cells #[.int .i64 0, .int .i64 0, .int .i64 0, .slice none 0 0, .slice none 0 0] 52)) = W1 at *
  have c0 := BP.c 0 rfl; have c1 := BP.c 1 rfl; have c2 := BP.c 2 rfl; have c3 := BP.c 3 rfl
  go_wp2_with fail
  refine (CL _).mono ?_
  rintro r w1 ⟨rfl, hB1⟩
  replace BP := BP.step hB1
  replace BR := BR.step hB1
  replace HB := HB.trans (hB1.mono HB.size)
  clear hB1 CL c0 c1 c2 c3
  have c0 := BP.c 0 rfl; have c1 := BP.c 1 rfl; have c2 := BP.c 2 rfl; have c3 := BP.c 3 rfl
  cases b1 with
  | false =>
    have z0 := BR.c 0 rfl; have y0 := BR.f 0 rfl; have z1 := BR.c 1 rfl; have y1 := BR.f 1 rfl; have z2 := BR.c 2 rfl; have y2 := BR.f 2 rfl; have z3 := BR.c 3 rfl; have y3 := BR.f 3 rfl; have z4 := BR.c 4 rfl; have y4 := BR.f 4 rfl
    have BF := z5_set BR
    clear BR
    go_wp2
    have r0 := BF.out.c 0 rfl; have r1 := BF.out.c 1 rfl; have r2 := BF.out.c 2 rfl; have r3 := BF.out.c 3 rfl; have r4 := BF.out.c 4 rfl
    refine bodyPost_ret (v := .tuple #[.agg #[.int .i64 0, .int .i64 0, .int .i64 0, .slice none 0 0, .slice none 0 0], .bool false]) (by simp [results, Try.results22, go_sem, r0, r1, r2, r3, r4]) rfl ?_
    exact ⟨(Below.setCell (Below.setCell (Below.setCell (Below.setCell (Below.setCell HB (Nat.le_succ _) _) (Nat.le_succ _) _) (Nat.le_succ _) _) (Nat.le_succ _) _) (Nat.le_succ _) _), .inl ⟨(by unfold qOk; rw [HLIM.out]; rfl), rfl⟩⟩
  | true =>
    by_cases h40 : 40 < Q.m
    · have h40I : (40 : Int) < Q.m := by omega
      have z0 := BR.c 0 rfl; have y0 := BR.f 0 rfl; have z1 := BR.c 1 rfl; have y1 := BR.f 1 rfl; have z2 := BR.c 2 rfl; have y2 := BR.f 2 rfl; have z3 := BR.c 3 rfl; have y3 := BR.f 3 rfl; have z4 := BR.c 4 rfl; have y4 := BR.f 4 rfl
      have BF := z5_set BR
      clear BR
      go_wp2
      have r0 := BF.out.c 0 rfl; have r1 := BF.out.c 1 rfl; have r2 := BF.out.c 2 rfl; have r3 := BF.out.c 3 rfl; have r4 := BF.out.c 4 rfl
      refine bodyPost_ret (v := .tuple #[.agg #[.int .i64 0, .int .i64 0, .int .i64 0, .slice none 0 0, .slice none 0 0], .bool false]) (by simp [results, Try.results22, go_sem, r0, r1, r2, r3, r4]) rfl ?_
      exact ⟨(Below.setCell (Below.setCell (Below.setCell (Below.setCell (Below.setCell HB (Nat.le_succ _) _) (Nat.le_succ _) _) (Nat.le_succ _) _) (Nat.le_succ _) _) (Nat.le_succ _) _), .inl ⟨(by unfold qOk; rw [show itsB Q = false from decide_eq_false (fun k => by have := k.1; omega)]; simp), rfl⟩⟩
    by_cases h2k : 2000 < Q.N
    · have h2kI : (2000 : Int) < Q.N := by omega
      have h40I : (Q.m : Int) ≤ 40 := by omega
      have z0 := BR.c 0 rfl; have y0 := BR.f 0 rfl; have z1 := BR.c 1 rfl; have y1 := BR.f 1 rfl; have z2 := BR.c 2 rfl; have y2 := BR.f 2 rfl; have z3 := BR.c 3 rfl; have y3 := BR.f 3 rfl; have z4 := BR.c 4 rfl; have y4 := BR.f 4 rfl
      have BF := z5_set BR
      clear BR
      go_wp2
      have r0 := BF.out.c 0 rfl; have r1 := BF.out.c 1 rfl; have r2 := BF.out.c 2 rfl; have r3 := BF.out.c 3 rfl; have r4 := BF.out.c 4 rfl
      refine bodyPost_ret (v := .tuple #[.agg #[.int .i64 0, .int .i64 0, .int .i64 0, .slice none 0 0, .slice none 0 0], .bool false]) (by simp [results, Try.results22, go_sem, r0, r1, r2, r3, r4]) rfl ?_
      exact ⟨(Below.setCell (Below.setCell (Below.setCell (Below.setCell (Below.setCell HB (Nat.le_succ _) _) (Nat.le_succ _) _) (Nat.le_succ _) _) (Nat.le_succ _) _) (Nat.le_succ _) _), .inl ⟨(by unfold qOk; rw [decide_eq_false (show ¬ Q.N ≤ 2000 by omega)]; simp), rfl⟩⟩
    have h40I : (Q.m : Int) ≤ 40 := by omega
    have h2kI : (Q.N : Int) ≤ 2000 := by omega
    have h40n : Q.m ≤ 40 := by omega
    go_wp2_with fail
    clear c0 c1 c2 c3
    go_loopw [4] (fun i wr => ∃ c : Nat, c ≤ Q.m ∧ i = .int .i64 c ∧ (∀ j, j < c → itB Q j = true) ∧ Blk wr w.heap.size [.int .i64 m, .int .i64 d, .slice ao Q.m cap, .slice bo Q.N bcap] ∧ Blk wr (w.heap.size + 1) [.int .i64 0, .int .i64 0, .int .i64 0, .slice none 0 0, .slice none 0 0] ∧ ItIn Q wr ao (List.range Q.m) ∧ Below w.heap.size w wr) (fun i _ => Q.m - (intOf i).toNat)
    case atStart => exact ⟨0, by omega, rfl, fun j hj => absurd hj (by omega), BP, BR, HS0.out.step HB, HB⟩
    case round =>
      clear BP BR HB
      obtain ⟨c, hc, rfl, hall, BP, BR, hS, HB⟩ := hrel
      have HALL : Hid (∀ j, j < c → itB Q j = true) := hall
      clear hall
      have p2 := BP.c 2 rfl
      have hpl := BP.lt
      by_cases hcm : c < Q.m
      · have hcI : (c : Int) < Q.m := by omega
        obtain ⟨A, off, rfl, hA, c0, c1, c2, c3, c4⟩ := hS c c (by simp [hcm])
        have HS : Hid (ItIn Q wr (some ⟨A, off, none⟩) (List.range Q.m)) := hS
        clear hS
        go_upto_region 6 with fail
        clear p2
        by_cases hid : 1 ≤ Q.I c ∧ Q.I c ≤ 1000
        rotate_left
        · have HIT : itB Q c = false := decide_eq_false (fun h => hid h.1)
          refine rrA (P := w.heap.size) (A := A) (off := off) (n := Q.m) (cap := cap) (k_ := c) (id := Q.I c) (decide_eq_false hid) hcm h40n rfl rfl (BP.c 2 rfl) hpl c0 hA c1 hA c2 hA c3 hA c4 hA rfl ?_
          rintro ⟨tm, df⟩ Wz hz hdf hoff hx hBz
          simp only at hz hdf hoff hx
          change tm.getD 71 undef = .bool true at hx
          subst hdf
          have htm := tmps_fold [34, 35, 36, 37, 38, 39, 40, 41, 42, 43, 44, 45, 46, 47, 48, 49, 50, 51, 52, 53, 54, 55, 56, 57, 58, 59, 60, 61, 62, 63, 64, 65, 66, 67, 68, 69, 70, 71] tm _ hz hoff
          simp only [List.foldl, List.setIfInBounds_toArray, List.set_cons_zero, List.set_cons_succ, hx] at htm
          clear hz hoff
          generalize tm.getD 34 undef = pz0, tm.getD 35 undef = pz1, tm.getD 36 undef = pz2, tm.getD 37 undef = pz3, tm.getD 38 undef = pz4, tm.getD 39 undef = pz5, tm.getD 40 undef = pz6, tm.getD 41 undef = pz7, tm.getD 42 undef = pz8, tm.getD 43 undef = pz9, tm.getD 44 undef = pz10, tm.getD 45 undef = pz11, tm.getD 46 undef = pz12, tm.getD 47 undef = pz13, tm.getD 48 undef = pz14, tm.getD 49 undef = pz15, tm.getD 50 undef = pz16, tm.getD 51 undef = pz17, tm.getD 52 undef = pz18, tm.getD 53 undef = pz19, tm.getD 54 undef = pz20, tm.getD 55 undef = pz21, tm.getD 56 undef = pz22, tm.getD 57 undef = pz23, tm.getD 58 undef = pz24, tm.getD 59 undef = pz25, tm.getD 60 undef = pz26, tm.getD 61 undef = pz27, tm.getD 62 undef = pz28, tm.getD 63 undef = pz29, tm.getD 64 undef = pz30, tm.getD 65 undef = pz31, tm.getD 66 undef = pz32, tm.getD 67 undef = pz33, tm.getD 68 undef = pz34, tm.getD 69 undef = pz35, tm.getD 70 undef = pz36 at htm
          clear hx
          subst htm
          replace BP := BP.step hBz
          replace BR := BR.step hBz
          replace HB := HB.trans (hBz.mono HB.size)
          replace HS : Hid (ItIn Q Wz (some ⟨A, off, none⟩) (List.range Q.m)) := HS.out.step hBz
          clear hBz c0 c1 c2 c3 c4
          have z0 := BR.c 0 rfl; have y0 := BR.f 0 rfl; have z1 := BR.c 1 rfl; have y1 := BR.f 1 rfl; have z2 := BR.c 2 rfl; have y2 := BR.f 2 rfl; have z3 := BR.c 3 rfl; have y3 := BR.f 3 rfl; have z4 := BR.c 4 rfl; have y4 := BR.f 4 rfl
          have BF := z5_set BR
          clear BR
          go_wp2
          have r0 := BF.out.c 0 rfl; have r1 := BF.out.c 1 rfl; have r2 := BF.out.c 2 rfl; have r3 := BF.out.c 3 rfl; have r4 := BF.out.c 4 rfl
          refine bodyPost_ret (v := .tuple #[.agg #[.int .i64 0, .int .i64 0, .int .i64 0, .slice none 0 0, .slice none 0 0], .bool false]) (by simp [results, Try.results22, go_sem, r0, r1, r2, r3, r4]) rfl ?_
          exact ⟨(Below.setCell (Below.setCell (Below.setCell (Below.setCell (Below.setCell HB (Nat.le_succ _) _) (Nat.le_succ _) _) (Nat.le_succ _) _) (Nat.le_succ _) _) (Nat.le_succ _) _), .inl ⟨(qOk_item hcm HIT), rfl⟩⟩
        cases hsg : segOk (Q.S c).1 (Q.S c).2.1 (Q.S c).2.2.1 (Q.S c).2.2.2 with
        | false =>
          have HIT : itB Q c = false := decide_eq_false (fun h => by rw [hsg] at h; cases h.2.1)
          refine rrB (P := w.heap.size) (A := A) (off := off) (n := Q.m) (cap := cap) (k_ := c) (id := Q.I c) (a := (Q.S c).1) (bb := (Q.S c).2.1) (c := (Q.S c).2.2.1) (d := (Q.S c).2.2.2) (decide_eq_true hid) hcm h40n hsg rfl rfl (BP.c 2 rfl) hpl c0 hA c1 hA c2 hA c3 hA c4 hA rfl ?_
          rintro ⟨tm, df⟩ Wz hz hdf hoff hx hBz
          simp only at hz hdf hoff hx
          change tm.getD 71 undef = .bool true at hx
          subst hdf
          have htm := tmps_fold [34, 35, 36, 37, 38, 39, 40, 41, 42, 43, 44, 45, 46, 47, 48, 49, 50, 51, 52, 53, 54, 55, 56, 57, 58, 59, 60, 61, 62, 63, 64, 65, 66, 67, 68, 69, 70, 71] tm _ hz hoff
          simp only [List.foldl, List.setIfInBounds_toArray, List.set_cons_zero, List.set_cons_succ, hx] at htm
          clear hz hoff
          generalize tm.getD 34 undef = pz0, tm.getD 35 undef = pz1, tm.getD 36 undef = pz2, tm.getD 37 undef = pz3, tm.getD 38 undef = pz4, tm.getD 39 undef = pz5, tm.getD 40 undef = pz6, tm.getD 41 undef = pz7, tm.getD 42 undef = pz8, tm.getD 43 undef = pz9, tm.getD 44 undef = pz10, tm.getD 45 undef = pz11, tm.getD 46 undef = pz12, tm.getD 47 undef = pz13, tm.getD 48 undef = pz14, tm.getD 49 undef = pz15, tm.getD 50 undef = pz16, tm.getD 51 undef = pz17, tm.getD 52 undef = pz18, tm.getD 53 undef = pz19, tm.getD 54 undef = pz20, tm.getD 55 undef = pz21, tm.getD 56 undef = pz22, tm.getD 57 undef = pz23, tm.getD 58 undef = pz24, tm.getD 59 undef = pz25, tm.getD 60 undef = pz26, tm.getD 61 undef = pz27, tm.getD 62 undef = pz28, tm.getD 63 undef = pz29, tm.getD 64 undef = pz30, tm.getD 65 undef = pz31, tm.getD 66 undef = pz32, tm.getD 67 undef = pz33, tm.getD 68 undef = pz34, tm.getD 69 undef = pz35, tm.getD 70 undef = pz36 at htm
          clear hx
          subst htm
          replace BP := BP.step hBz
          replace BR := BR.step hBz
          replace HB := HB.trans (hBz.mono HB.size)
          replace HS : Hid (ItIn Q Wz (some ⟨A, off, none⟩) (List.range Q.m)) := HS.out.step hBz
          clear hBz c0 c1 c2 c3 c4
          have z0 := BR.c 0 rfl; have y0 := BR.f 0 rfl; have z1 := BR.c 1 rfl; have y1 := BR.f 1 rfl; have z2 := BR.c 2 rfl; have y2 := BR.f 2 rfl; have z3 := BR.c 3 rfl; have y3 := BR.f 3 rfl; have z4 := BR.c 4 rfl; have y4 := BR.f 4 rfl
          have BF := z5_set BR
          clear BR
          go_wp2
          have r0 := BF.out.c 0 rfl; have r1 := BF.out.c 1 rfl; have r2 := BF.out.c 2 rfl; have r3 := BF.out.c 3 rfl; have r4 := BF.out.c 4 rfl
          refine bodyPost_ret (v := .tuple #[.agg #[.int .i64 0, .int .i64 0, .int .i64 0, .slice none 0 0, .slice none 0 0], .bool false]) (by simp [results, Try.results22, go_sem, r0, r1, r2, r3, r4]) rfl ?_
          exact ⟨(Below.setCell (Below.setCell (Below.setCell (Below.setCell (Below.setCell HB (Nat.le_succ _) _) (Nat.le_succ _) _) (Nat.le_succ _) _) (Nat.le_succ _) _) (Nat.le_succ _) _), .inl ⟨(qOk_item hcm HIT), rfl⟩⟩
        | true =>
          rcases Nat.eq_zero_or_pos c with hc0 | hc0
          · have HIT : itB Q c = true := decide_eq_true ⟨hid, hsg, fun h => absurd h (by omega)⟩
            have HC0 : Hid (c = 0) := hc0
            clear hc0
            refine rrC (P := w.heap.size) (A := A) (off := off) (n := Q.m) (cap := cap) (k_ := c) (id := Q.I c) (a := (Q.S c).1) (bb := (Q.S c).2.1) (c := (Q.S c).2.2.1) (d := (Q.S c).2.2.2) (decide_eq_true hid) hcm h40n hsg HC0 rfl rfl (BP.c 2 rfl) hpl c0 hA c1 hA c2 hA c3 hA c4 hA rfl ?_
            rintro ⟨tm, df⟩ Wz hz hdf hoff hx hBz
            simp only at hz hdf hoff hx
            change tm.getD 71 undef = .bool false at hx
            subst hdf
            have htm := tmps_fold [34, 35, 36, 37, 38, 39, 40, 41, 42, 43, 44, 45, 46, 47, 48, 49, 50, 51, 52, 53, 54, 55, 56, 57, 58, 59, 60, 61, 62, 63, 64, 65, 66, 67, 68, 69, 70, 71] tm _ hz hoff
            simp only [List.foldl, List.setIfInBounds_toArray, List.set_cons_zero, List.set_cons_succ, hx] at htm
            clear hz hoff
            generalize tm.getD 34 undef = pz0, tm.getD 35 undef = pz1, tm.getD 36 undef = pz2, tm.getD 37 undef = pz3, tm.getD 38 undef = pz4, tm.getD 39 undef = pz5, tm.getD 40 undef = pz6, tm.getD 41 undef = pz7, tm.getD 42 undef = pz8, tm.getD 43 undef = pz9, tm.getD 44 undef = pz10, tm.getD 45 undef = pz11, tm.getD 46 undef = pz12, tm.getD 47 undef = pz13, tm.getD 48 undef = pz14, tm.getD 49 undef = pz15, tm.getD 50 undef = pz16, tm.getD 51 undef = pz17, tm.getD 52 undef = pz18, tm.getD 53 undef = pz19, tm.getD 54 undef = pz20, tm.getD 55 undef = pz21, tm.getD 56 undef = pz22, tm.getD 57 undef = pz23, tm.getD 58 undef = pz24, tm.getD 59 undef = pz25, tm.getD 60 undef = pz26, tm.getD 61 undef = pz27, tm.getD 62 undef = pz28, tm.getD 63 undef = pz29, tm.getD 64 undef = pz30, tm.getD 65 undef = pz31, tm.getD 66 undef = pz32, tm.getD 67 undef = pz33, tm.getD 68 undef = pz34, tm.getD 69 undef = pz35, tm.getD 70 undef = pz36 at htm
            clear hx
            subst htm
            replace BP := BP.step hBz
            replace BR := BR.step hBz
            replace HB := HB.trans (hBz.mono HB.size)
            replace HS : Hid (ItIn Q Wz (some ⟨A, off, none⟩) (List.range Q.m)) := HS.out.step hBz
            clear hBz c0 c1 c2 c3 c4
            have HN : Hid (∀ j, j < c + 1 → itB Q j = true) := fun j hj => by
              by_cases e : j = c
              · subst e; exact HIT
              · exact HALL.out j (by omega)
            clear HIT
            go_wp2
            go_roundw
            case rel => exact ⟨c + 1, by omega, by go_num, HN.out, BP, BR, HS.out, HB⟩
            case measure => simp [intOf]; omega
          · obtain ⟨jj, hjj⟩ : ∃ jj, c = jj + 1 := ⟨c - 1, by omega⟩
            have HJ : Hid (c = jj + 1) := hjj
            obtain ⟨A2, o2, e2, hA2, d0, _⟩ := HS.out jj jj (by simp [show jj < Q.m by omega])
            cases e2
            have hj1 : c - 1 = jj := by omega
            clear hjj
            refine rrD (P := w.heap.size) (A := A) (off := off) (n := Q.m) (cap := cap) (k_ := c) (id := Q.I c) (jj := jj) (ie := Q.I jj) (a := (Q.S c).1) (bb := (Q.S c).2.1) (c := (Q.S c).2.2.1) (d := (Q.S c).2.2.2) (decide_eq_true hid) hcm h40n hsg HJ rfl rfl (BP.c 2 rfl) hpl c0 hA c1 hA c2 hA c3 hA c4 hA d0 hA rfl ?_
            rintro ⟨tm, df⟩ Wz hz hdf hoff hx hBz
            simp only at hz hdf hoff hx
            change tm.getD 71 undef = .bool (decide (Q.I c ≤ Q.I jj)) at hx
            subst hdf
            have htm := tmps_fold [34, 35, 36, 37, 38, 39, 40, 41, 42, 43, 44, 45, 46, 47, 48, 49, 50, 51, 52, 53, 54, 55, 56, 57, 58, 59, 60, 61, 62, 63, 64, 65, 66, 67, 68, 69, 70, 71] tm _ hz hoff
            simp only [List.foldl, List.setIfInBounds_toArray, List.set_cons_zero, List.set_cons_succ, hx] at htm
            clear hz hoff
            generalize tm.getD 34 undef = pz0, tm.getD 35 undef = pz1, tm.getD 36 undef = pz2, tm.getD 37 undef = pz3, tm.getD 38 undef = pz4, tm.getD 39 undef = pz5, tm.getD 40 undef = pz6, tm.getD 41 undef = pz7, tm.getD 42 undef = pz8, tm.getD 43 undef = pz9, tm.getD 44 undef = pz10, tm.getD 45 undef = pz11, tm.getD 46 undef = pz12, tm.getD 47 undef = pz13, tm.getD 48 undef = pz14, tm.getD 49 undef = pz15, tm.getD 50 undef = pz16, tm.getD 51 undef = pz17, tm.getD 52 undef = pz18, tm.getD 53 undef = pz19, tm.getD 54 undef = pz20, tm.getD 55 undef = pz21, tm.getD 56 undef = pz22, tm.getD 57 undef = pz23, tm.getD 58 undef = pz24, tm.getD 59 undef = pz25, tm.getD 60 undef = pz26, tm.getD 61 undef = pz27, tm.getD 62 undef = pz28, tm.getD 63 undef = pz29, tm.getD 64 undef = pz30, tm.getD 65 undef = pz31, tm.getD 66 undef = pz32, tm.getD 67 undef = pz33, tm.getD 68 undef = pz34, tm.getD 69 undef = pz35, tm.getD 70 undef = pz36 at htm
            clear hx
            subst htm
            replace BP := BP.step hBz
            replace BR := BR.step hBz
            replace HB := HB.trans (hBz.mono HB.size)
            replace HS : Hid (ItIn Q Wz (some ⟨A, off, none⟩) (List.range Q.m)) := HS.out.step hBz
            clear hBz c0 c1 c2 c3 c4
            clear d0
            by_cases hle : Q.I c ≤ Q.I jj
            · rw [decide_eq_true hle]
              have HIT : itB Q c = false := decide_eq_false (fun h => by have := h.2.2 hc0; rw [hj1] at this; omega)
              clear hle hj1
              have z0 := BR.c 0 rfl; have y0 := BR.f 0 rfl; have z1 := BR.c 1 rfl; have y1 := BR.f 1 rfl; have z2 := BR.c 2 rfl; have y2 := BR.f 2 rfl; have z3 := BR.c 3 rfl; have y3 := BR.f 3 rfl; have z4 := BR.c 4 rfl; have y4 := BR.f 4 rfl
              have BF := z5_set BR
              clear BR
              go_wp2
              have r0 := BF.out.c 0 rfl; have r1 := BF.out.c 1 rfl; have r2 := BF.out.c 2 rfl; have r3 := BF.out.c 3 rfl; have r4 := BF.out.c 4 rfl
              refine bodyPost_ret (v := .tuple #[.agg #[.int .i64 0, .int .i64 0, .int .i64 0, .slice none 0 0, .slice none 0 0], .bool false]) (by simp [results, Try.results22, go_sem, r0, r1, r2, r3, r4]) rfl ?_
              exact ⟨(Below.setCell (Below.setCell (Below.setCell (Below.setCell (Below.setCell HB (Nat.le_succ _) _) (Nat.le_succ _) _) (Nat.le_succ _) _) (Nat.le_succ _) _) (Nat.le_succ _) _), .inl ⟨(qOk_item hcm HIT), rfl⟩⟩
            · rw [decide_eq_false hle]
              have HIT : itB Q c = true := decide_eq_true ⟨hid, hsg, fun _ => by rw [hj1]; omega⟩
              clear hle hj1
              have HN : Hid (∀ j, j < c + 1 → itB Q j = true) := fun j hj => by
                by_cases e : j = c
                · subst e; exact HIT
                · exact HALL.out j (by omega)
              clear HIT
              go_wp2
              go_roundw
              case rel => exact ⟨c + 1, by omega, by go_num, HN.out, BP, BR, HS.out, HB⟩
              case measure => simp [intOf]; omega
      · obtain rfl : c = Q.m := by omega
        have HIT : Hid (itsB Q = true) := decide_eq_true ⟨h40n, HALL.out⟩
        have hd8 : 0 ≤ d ∧ d ≤ 8 := by
          have h := HLIM.out
          unfold limB at h
          simp at h
          omega
        obtain ⟨D, hDd⟩ : ∃ D : Nat, (D : Int) = d := ⟨d.toNat, by omega⟩
        have hDn : Hid (d.toNat = D) := by show d.toNat = D; omega
        have HQ : Hid (qOk Q m d = true ↔ mrd Q D 0 (-1048576) (-1048576) 2097152 = some Q.N ∧ rtB Q D 0 (-1048576) (-1048576) 2097152 = true) := by
          show _ ↔ _
          rw [← qrd_both]
          unfold qOk
          rw [HLIM.out, HIT.out, hDn.out, decide_eq_true (show Q.N ≤ 2000 by omega)]
          simp
        have RD := l13Read_any Q bo bcap A off so w hN hL hbo hso HBl.out D 0 (-1048576) (-1048576) 2097152 wr (by omega) (by omega) root_sq HB
        rw [hDd, show ((0 : Nat) : Int) = 0 from rfl] at RD
        have HL' : Hid (∀ i, i < Q.N → Q.L i ≤ 1048576) := hL
        have p1 := BP.c 1 rfl; have p3 := BP.c 3 rfl
        have HS : Hid (ItIn Q wr ao (List.range Q.m)) := hS
        clear HALL hS hd8 hDd
        go_wp2_with fail
        refine RD.mono ?_
        rintro r w5 ⟨hB5, hC⟩
        have BR0lt := BR.lt
        replace BP := BP.step hB5
        replace BR := BR.step hB5
        replace HB := HB.trans (hB5.mono HB.size)
        have HG6 : Hid (w.heap.size + 1 < wr.heap.size) := BR0lt
        replace HS : Hid (ItIn Q w5 ao (List.range Q.m)) := HS.out.step hB5
        clear RD p1 p2 p3 hB5 hpl
        rcases hC with ⟨hn, rfl⟩ | ⟨e, kv, ev, he, rfl, hM⟩
        · have hno : Hid (qOk Q m d = false) := Bool.eq_false_iff.2 (fun h => by have := (HQ.out.1 h).1; rw [hn] at this; cases this)
          replace BR := BR.alloc (.cells #[.int .i64 0, .int .i64 0, .int .i64 0, .slice none 0 0, .slice none 0 0] 52)
          replace HB := HB.alloc HB.size (.cells #[.int .i64 0, .int .i64 0, .int .i64 0, .slice none 0 0, .slice none 0 0] 52)
          clear hn BP
          go_upto_region 9 with fail
          generalize (w5.alloc (.cells #[.int .i64 0, .int .i64 0, .int .i64 0, .slice none 0 0, .slice none 0 0] 52)) = w6 at *
          have z0 := BR.c 0 rfl; have y0 := BR.f 0 rfl; have z1 := BR.c 1 rfl; have y1 := BR.f 1 rfl; have z2 := BR.c 2 rfl; have y2 := BR.f 2 rfl; have z3 := BR.c 3 rfl; have y3 := BR.f 3 rfl; have z4 := BR.c 4 rfl; have y4 := BR.f 4 rfl
          have BF := z5_set BR
          clear BR
          go_wp2
          have r0 := BF.out.c 0 rfl; have r1 := BF.out.c 1 rfl; have r2 := BF.out.c 2 rfl; have r3 := BF.out.c 3 rfl; have r4 := BF.out.c 4 rfl
          refine bodyPost_ret (v := .tuple #[.agg #[.int .i64 0, .int .i64 0, .int .i64 0, .slice none 0 0, .slice none 0 0], .bool false]) (by simp [results, Try.results22, go_sem, r0, r1, r2, r3, r4]) rfl ?_
          exact ⟨(Below.setCell (Below.setCell (Below.setCell (Below.setCell (Below.setCell HB (Nat.le_succ _) _) (Nat.le_succ _) _) (Nat.le_succ _) _) (Nat.le_succ _) _) (Nat.le_succ _) _), .inl ⟨hno.out, rfl⟩⟩
        · obtain ⟨ko, kn, kc, eo, en, ec, rfl, rfl⟩ := hM.vals
          have HE : Hid (mrd Q D 0 (-1048576) (-1048576) 2097152 = some e) := he
          have B5 : Blk (w5.alloc (.cells #[.int .i64 (-1048576), .int .i64 (-1048576), .int .i64 2097152, .slice ko kn kc, .slice eo en ec] 52)) w5.heap.size [.int .i64 (-1048576), .int .i64 (-1048576), .int .i64 2097152, .slice ko kn kc, .slice eo en ec] := Blk.new w5 [.int .i64 (-1048576), .int .i64 (-1048576), .int .i64 2097152, .slice ko kn kc, .slice eo en ec] 52 rfl
          have hB6 : Below w5.heap.size w5 (w5.alloc (.cells #[.int .i64 (-1048576), .int .i64 (-1048576), .int .i64 2097152, .slice ko kn kc, .slice eo en ec] 52)) := (Below.refl _ _).alloc (Nat.le_refl _) _
          replace BP := BP.step hB6
          replace BR := BR.step hB6
          replace HB := HB.trans (hB6.mono HB.size)
          replace HS : Hid (ItIn Q (w5.alloc (.cells #[.int .i64 (-1048576), .int .i64 (-1048576), .int .i64 2097152, .slice ko kn kc, .slice eo en ec] 52)) ao (List.range Q.m)) := HS.out.step hB6
          replace hM := hM.step hB6
          clear he hB6
          go_upto_region 9 with fail
          generalize (w5.alloc (.cells #[.int .i64 (-1048576), .int .i64 (-1048576), .int .i64 2097152, .slice ko kn kc, .slice eo en ec] 52)) = w6 at *
          have p3 := BP.c 3 rfl; have p2 := BP.c 2 rfl
          have k0 := B5.c 0 rfl; have k1 := B5.c 1 rfl; have k2 := B5.c 2 rfl; have k3 := B5.c 3 rfl; have k4 := B5.c 4 rfl
          by_cases hen : e = Q.N
          · subst hen
            have RT := treeRight_any Q ao cap (its6_of HIT.out) hm (trQ Q D 0 (-1048576) (-1048576) 2097152) (-1048576) (-1048576) 2097152 _ _ _ w6 root_sq (lenT_tr HL'.out HE.out) hM HS.out
            obtain ⟨b2, hb2⟩ : ∃ b, rtT Q (trQ Q D 0 (-1048576) (-1048576) 2097152) (-1048576) (-1048576) 2097152 = b := ⟨_, rfl⟩
            have HB2 : Hid (rtB Q D 0 (-1048576) (-1048576) 2097152 = b2) := (rt_tr Q D 0 _ _ _ (by rw [HE.out]; rfl)).trans hb2
            rw [hb2] at RT
            clear hb2
            go_wp2_with fail
            refine RT.mono ?_
            rintro r w7 ⟨rfl, hB7⟩
            replace BR := BR.step hB7
            replace B5 := B5.step hB7
            replace HB := HB.trans (hB7.mono HB.size)
            replace hM := hM.step hB7
            clear RT BP hB7 p2 p3 k0 k1 k2 k3 k4 HS
            cases b2 with
            | false =>
              have hno : Hid (qOk Q m d = false) := Bool.eq_false_iff.2 (fun h => by have := (HQ.out.1 h).2; rw [HB2.out] at this; cases this)
              have z0 := BR.c 0 rfl; have y0 := BR.f 0 rfl; have z1 := BR.c 1 rfl; have y1 := BR.f 1 rfl; have z2 := BR.c 2 rfl; have y2 := BR.f 2 rfl; have z3 := BR.c 3 rfl; have y3 := BR.f 3 rfl; have z4 := BR.c 4 rfl; have y4 := BR.f 4 rfl
              have BF := z5_set BR
              clear BR
              go_wp2
              have r0 := BF.out.c 0 rfl; have r1 := BF.out.c 1 rfl; have r2 := BF.out.c 2 rfl; have r3 := BF.out.c 3 rfl; have r4 := BF.out.c 4 rfl
              refine bodyPost_ret (v := .tuple #[.agg #[.int .i64 0, .int .i64 0, .int .i64 0, .slice none 0 0, .slice none 0 0], .bool false]) (by simp [results, Try.results22, go_sem, r0, r1, r2, r3, r4]) rfl ?_
              exact ⟨(Below.setCell (Below.setCell (Below.setCell (Below.setCell (Below.setCell HB (Nat.le_succ _) _) (Nat.le_succ _) _) (Nat.le_succ _) _) (Nat.le_succ _) _) (Nat.le_succ _) _), .inl ⟨hno.out, rfl⟩⟩
            | true =>
              have hyes : Hid (qOk Q m d = true) := HQ.out.2 ⟨HE.out, HB2.out⟩
              have HM : Hid (MTr (fun b => w.heap.size + 1 < b) w7 (trQ Q D 0 (-1048576) (-1048576) 2097152) (-1048576) (-1048576) 2097152 (.slice ko kn kc) (.slice eo en ec)) := MTr.keep (Nat.le_refl _) (fun _ _ _ => rfl) (fun b hb _ => Nat.lt_of_lt_of_le HG6.out hb) hM
              have z0 := BR.c 0 rfl; have z1 := BR.c 1 rfl; have z2 := BR.c 2 rfl; have z3 := BR.c 3 rfl; have z4 := BR.c 4 rfl; have y0 := BR.f 0 rfl; have y1 := BR.f 1 rfl; have y2 := BR.f 2 rfl; have y3 := BR.f 3 rfl; have y4 := BR.f 4 rfl
              have k0 := B5.c 0 rfl; have k1 := B5.c 1 rfl; have k2 := B5.c 2 rfl; have k3 := B5.c 3 rfl; have k4 := B5.c 4 rfl
              have BF : Hid (Blk (((((w7.setCell ⟨(w.heap.size + 1), 0, none⟩ (.int .i64 (-1048576))).setCell ⟨(w.heap.size + 1), 1, none⟩ (.int .i64 (-1048576))).setCell ⟨(w.heap.size + 1), 2, none⟩ (.int .i64 2097152)).setCell ⟨(w.heap.size + 1), 3, none⟩ (.slice ko kn kc)).setCell ⟨(w.heap.size + 1), 4, none⟩ (.slice eo en ec)) (w.heap.size + 1) [.int .i64 (-1048576), .int .i64 (-1048576), .int .i64 2097152, .slice ko kn kc, .slice eo en ec]) := ((((BR.setI 0 (by decide) _).setI 1 (by simp) _).setI 2 (by simp) _).setI 3 (by simp) _).setI 4 (by simp) _
              clear BR B5 hM
              go_wp2
              have r0 := BF.out.c 0 rfl; have r1 := BF.out.c 1 rfl; have r2 := BF.out.c 2 rfl; have r3 := BF.out.c 3 rfl; have r4 := BF.out.c 4 rfl
              refine bodyPost_ret (v := .tuple #[.agg #[.int .i64 (-1048576), .int .i64 (-1048576), .int .i64 2097152, .slice ko kn kc, .slice eo en ec], .bool true]) (by simp [results, Try.results22, go_sem, r0, r1, r2, r3, r4]) rfl ?_
              refine ⟨(Below.setCell (Below.setCell (Below.setCell (Below.setCell (Below.setCell HB (Nat.le_succ _) _) (Nat.le_succ _) _) (Nat.le_succ _) _) (Nat.le_succ _) _) (Nat.le_succ _) _), .inr ⟨hyes.out, _, _, rfl, ?_⟩⟩
              rw [hDn.out]
              exact MTr.keep (by simp [World.setCell]) (fun b hb _ => z5_other (by omega)) (fun b hb _ => by omega) HM.out
          · have hneI : ((e : Int) == (Q.N : Int)) = false := by simp; omega
            have hno : Hid (qOk Q m d = false) := Bool.eq_false_iff.2 (fun h => by have := (HQ.out.1 h).1; rw [HE.out] at this; exact hen (Option.some.inj this))
            clear BP B5 hM HS
            have z0 := BR.c 0 rfl; have y0 := BR.f 0 rfl; have z1 := BR.c 1 rfl; have y1 := BR.f 1 rfl; have z2 := BR.c 2 rfl; have y2 := BR.f 2 rfl; have z3 := BR.c 3 rfl; have y3 := BR.f 3 rfl; have z4 := BR.c 4 rfl; have y4 := BR.f 4 rfl
            have BF := z5_set BR
            clear BR
            go_wp2
            have r0 := BF.out.c 0 rfl; have r1 := BF.out.c 1 rfl; have r2 := BF.out.c 2 rfl; have r3 := BF.out.c 3 rfl; have r4 := BF.out.c 4 rfl
            refine bodyPost_ret (v := .tuple #[.agg #[.int .i64 0, .int .i64 0, .int .i64 0, .slice none 0 0, .slice none 0 0], .bool false]) (by simp [results, Try.results22, go_sem, r0, r1, r2, r3, r4]) rfl ?_
            exact ⟨(Below.setCell (Below.setCell (Below.setCell (Below.setCell (Below.setCell HB (Nat.le_succ _) _) (Nat.le_succ _) _) (Nat.le_succ _) _) (Nat.le_succ _) _) (Nat.le_succ _) _), .inl ⟨hno.out, rfl⟩⟩
set_option maxRecDepth 100000 in
set_option maxHeartbeats 4000000 in
theorem specQuadOk_any (w : World) (Q : QD) (ao bo : Option Addr) (cap bcap A off : Nat) (so : Nat → Option Addr × Nat) (m d : Int) (hm : Q.m ≤ 1048576) (hN : Q.N ≤ 1048576) (hL : ∀ i, i < Q.N → Q.L i ≤ 1048576) (hbo : 0 < Q.N → bo = some ⟨A, off, none⟩) (hso : ∀ i, i < Q.N → (so i).1 = none → (so i).2 = 0) (hS : ItIn Q w ao (List.range Q.m)) (hBl : BlIn Q w A off so) : Calls Try.prog 7 #[.agg #[.int .i64 m, .int .i64 d, .slice ao Q.m cap, .slice bo Q.N bcap]] w (VP (.bool (qOk Q m d)) w) := by
  have BP : Blk (w.alloc (.cells #[.int .i64 m, .int .i64 d, .slice ao Q.m cap, .slice bo Q.N bcap] 31)) w.heap.size [.int .i64 m, .int .i64 d, .slice ao Q.m cap, .slice bo Q.N bcap] := Blk.new w [.int .i64 m, .int .i64 d, .slice ao Q.m cap, .slice bo Q.N bcap] 31 rfl
  have HB : Below w.heap.size w (w.alloc (.cells #[.int .i64 m, .int .i64 d, .slice ao Q.m cap, .slice bo Q.N bcap] 31)) := (Below.refl _ w).alloc (Nat.le_refl _) _
  have C := l13Root_any (w.alloc (.cells #[.int .i64 m, .int .i64 d, .slice ao Q.m cap, .slice bo Q.N bcap] 31)) Q ao bo cap bcap A off so m d hm hN hL hbo hso (hS.step HB) (hBl.below HB)
  clear hS hBl
  go_enter Try.func7, Try.ntmps7
  go_upto_region 1 with fail
  generalize (w.alloc (.cells #[.int .i64 m, .int .i64 d, .slice ao Q.m cap, .slice bo Q.N bcap] 31)) = W1 at *
  have c0 := BP.c 0 rfl; have c1 := BP.c 1 rfl; have c2 := BP.c 2 rfl; have c3 := BP.c 3 rfl
  go_wp2_with fail
  refine C.mono ?_
  rintro r w1 ⟨hB1, hC⟩
  replace HB := HB.trans (hB1.mono HB.size)
  clear C c0 c1 c2 c3 BP hB1
  rcases hC with ⟨hq, rfl⟩ | ⟨hq, kv, ev, rfl, hM⟩
  · go_wp2
    go_ret
    exact ⟨by rw [hq]; rfl, HB.alloc HB.size _⟩
  · obtain ⟨ko, kn, kc, eo, en, ec, rfl, rfl⟩ := hM.vals
    clear hM
    go_wp2
    go_ret
    exact ⟨by rw [hq]; rfl, HB.alloc HB.size _⟩
end Go.Proofs.Ytaagmdhbfbikfaa

/- Trees held against one another, counted; the law of a right tree. -/
namespace Go.Proofs.Ytaagmdhbfbikfaa
open Go.RowKit
set_option maxRecDepth 100000 in
set_option maxHeartbeats 2000000 in
theorem eqQuad_any (Q : QD) (m d : Int) (ao bo co do_ : Option Addr) (ca cb cc cd A off D od : Nat) (so ro : Nat → Option Addr × Nat) (hm : Q.m ≤ 1048576) (hN : Q.N ≤ 1048576) (hL : ∀ i, i < Q.N → Q.L i ≤ 1048576) (w : World) (hbo : 0 < Q.N → bo = some ⟨A, off, none⟩) (hdo : 0 < Q.N → do_ = some ⟨D, od, none⟩) (hI : ItIn Q w ao (List.range Q.m)) (hJ : ItIn Q w co (List.range Q.m)) (hA : BlIn Q w A off so) (hC : BlIn Q w D od ro) : Calls Try.prog 10 #[.agg #[.int .i64 m, .int .i64 d, .slice ao Q.m ca, .slice bo Q.N cb], .agg #[.int .i64 m, .int .i64 d, .slice co Q.m cc, .slice do_ Q.N cd]] w (VP (.bool true) w) := by
  have B0 := (Blk.new w [.int .i64 m, .int .i64 d, .slice ao Q.m ca, .slice bo Q.N cb] 31 rfl).alloc (.cells #[.int .i64 m, .int .i64 d, .slice co Q.m cc, .slice do_ Q.N cd] 31)
  have B1 := Blk.new (w.alloc (.cells #[.int .i64 m, .int .i64 d, .slice ao Q.m ca, .slice bo Q.N cb] 31)) [.int .i64 m, .int .i64 d, .slice co Q.m cc, .slice do_ Q.N cd] 31 (g := w.heap.size + 1) (by simp)
  have HB := ((Below.refl _ w).alloc (Nat.le_refl _) (.cells #[.int .i64 m, .int .i64 d, .slice ao Q.m ca, .slice bo Q.N cb] 31)).alloc (by simp) (.cells #[.int .i64 m, .int .i64 d, .slice co Q.m cc, .slice do_ Q.N cd] 31)
  have HI : Hid (ItIn Q w ao (List.range Q.m)) := hI
  have HJ : Hid (ItIn Q w co (List.range Q.m)) := hJ
  have HA : Hid (BlIn Q w A off so) := hA
  have HC : Hid (BlIn Q w D od ro) := hC
  have E1 := fun w h h' => eqItemS_any Q ao co ca cc hm w h h'
  have E2 := fun w h h' => eqBlockS_any Q bo do_ cb cd A off D od so ro hN hL w hbo hdo h h'
  clear hI hJ hA hC
  go_enter Try.func10, Try.ntmps10
  go_upto_region 1 with fail
  generalize ((w.alloc (.cells #[.int .i64 m, .int .i64 d, .slice ao Q.m ca, .slice bo Q.N cb] 31)).alloc (.cells #[.int .i64 m, .int .i64 d, .slice co Q.m cc, .slice do_ Q.N cd] 31)) = W1 at *
  have p0 := B0.c 0 rfl; have p1 := B0.c 1 rfl; have p2 := B0.c 2 rfl
  have q0 := B1.c 0 rfl; have q1 := B1.c 1 rfl; have q2 := B1.c 2 rfl
  go_wp2_with fail
  refine (E1 _ (HI.out.step HB) (HJ.out.step HB)).mono ?_
  rintro r w1 ⟨rfl, hB⟩
  replace B0 := B0.step hB; replace B1 := B1.step hB
  have HB2 := HB.trans (hB.mono HB.size)
  clear hB HB p0 p1 p2 q0 q1 q2 E1
  have p3 := B0.c 3 rfl; have q3 := B1.c 3 rfl
  go_wp2_with fail
  refine (E2 _ (HA.out.below HB2) (HC.out.below HB2)).mono ?_
  rintro r w2 ⟨rfl, hB⟩
  have HB3 := HB2.trans (hB.mono HB2.size)
  clear hB HB2 p3 q3 E2
  go_wp2
  go_ret
  exact ⟨rfl, HB3⟩
theorem szIdQ_any (ao : Option Addr) (m cap : Nat) (l : Int) (h0 : 0 ≤ l) (h1 : l ≤ 1048576) (hm : m ≤ 9223372036854775807) (w : World) : Calls Try.prog 61 #[.slice ao m cap, .int .i64 l] w (VP (.int .i64 (if (m : Int) ≤ l then l - m else -1)) w) := by
  have hmI : (m : Int) ≤ 9223372036854775807 := by omega
  by_cases h : (m : Int) ≤ l
  · rw [if_pos h]
    go_enter Try.func61, Try.ntmps61
    go_wp2
    go_ret
    exact ⟨rfl, Below.refl _ _⟩
  · rw [if_neg h]
    have h' : l < (m : Int) := by omega
    go_enter Try.func61, Try.ntmps61
    go_wp2
    go_ret
    exact ⟨rfl, Below.refl _ _⟩
theorem szItQ_any (ao : Option Addr) (m cap : Nat) (l : Int) (h0 : 0 ≤ l) (h1 : l ≤ 1048576) (hm : m ≤ 9223372036854775807) (w : World) : Calls Try.prog 20 #[.slice ao m cap, .int .i64 l] w (VP (.int .i64 (if (m : Int) ≤ l then l - m else -1)) w) := by
  have hmI : (m : Int) ≤ 9223372036854775807 := by omega
  by_cases h : (m : Int) ≤ l
  · rw [if_pos h]
    go_enter Try.func20, Try.ntmps20
    go_wp2
    go_ret
    exact ⟨rfl, Below.refl _ _⟩
  · rw [if_neg h]
    have h' : l < (m : Int) := by omega
    go_enter Try.func20, Try.ntmps20
    go_wp2
    go_ret
    exact ⟨rfl, Below.refl _ _⟩
theorem szBlockQ_any (ao : Option Addr) (m cap : Nat) (x y z : Int) (t : Bool) (l : Int) (h0 : 0 ≤ l) (h1 : l ≤ 1048576) (hm : m ≤ 9223372036854775807) (w : World) : Calls Try.prog 38 #[.agg #[.int .i64 x, .int .i64 y, .int .i64 z, .bool t, .slice ao m cap], .int .i64 l] w (VP (.int .i64 (if (m : Int) ≤ l then l - m else -1)) w) := by
  have HB : Below w.heap.size w (w.alloc (.cells #[.int .i64 x, .int .i64 y, .int .i64 z, .bool t, .slice ao m cap] 83)) := (Below.refl _ w).alloc (Nat.le_refl _) _
  have B0 := Blk.new w [.int .i64 x, .int .i64 y, .int .i64 z, .bool t, .slice ao m cap] 83 rfl
  have SP := szIdQ_any ao m cap l h0 h1 hm
  go_enter Try.func38, Try.ntmps38
  have b0 := B0.c 4 rfl
  by_cases h : (m : Int) ≤ l
  · rw [if_pos h] at SP ⊢
    go_wp2_with fail
    refine (SP _).mono ?_
    rintro e w1 ⟨rfl, hB⟩
    replace HB := HB.trans (hB.mono HB.size)
    clear hB SP B0 b0
    have h2 : 0 ≤ l - (m : Int) := by omega
    go_wp2
    go_ret
    exact ⟨rfl, HB⟩
  · rw [if_neg h] at SP ⊢
    go_wp2_with fail
    refine (SP _).mono ?_
    rintro e w1 ⟨rfl, hB⟩
    replace HB := HB.trans (hB.mono HB.size)
    clear hB SP B0 b0
    go_wp2
    go_ret
    exact ⟨rfl, HB⟩
/-- What is left of the count, if it is not below 0. -/
def SzQ (n : Nat) (L : Nat → Nat) (w : World) (e : Ending) (w' : World) : Prop := ∃ z : Int, e = .returned (.int .i64 z) ∧ -1 ≤ z ∧ z ≤ 1048576 ∧ (0 ≤ z → n ≤ 1048576 ∧ ∀ i, i < n → L i ≤ 1048576) ∧ Below w.heap.size w w'
set_option maxRecDepth 100000 in
set_option maxHeartbeats 2000000 in
theorem szBlockS_any (Q : QD) (bo : Option Addr) (cap A off : Nat) (so : Nat → Option Addr × Nat) (l0 : Int) (k0 : 0 ≤ l0) (k1 : l0 ≤ 1048576) (hN : Q.N ≤ 9223372036854775807) (hL : ∀ i, i < Q.N → Q.L i ≤ 9223372036854775807) (hbo : 0 < Q.N → bo = some ⟨A, off, none⟩) (w : World) (hBl : BlIn Q w A off so) : Calls Try.prog 21 #[.slice bo Q.N cap, .int .i64 l0] w (SzQ Q.N Q.L w) := by
  obtain ⟨n, hn⟩ : ∃ n, Q.N = n := ⟨_, rfl⟩
  have HN : Hid (Q.N = n) := hn
  have HL : Hid (∀ i, i < n → Q.L i ≤ 9223372036854775807) := by rw [← hn]; exact hL
  have HBO : Hid (0 < n → bo = some ⟨A, off, none⟩) := by rw [← hn]; exact hbo
  have HBL : Hid (BlIn Q w A off so) := hBl
  have hnI : (n : Int) ≤ 9223372036854775807 := by omega
  rw [hn]
  clear hn hL hbo hBl hN
  by_cases h : (n : Int) ≤ l0
  · go_enter Try.func21, Try.ntmps21
    have h9 : ¬ (l0 - (n : Int) < 0) := by omega
    go_wp2_with fail
    go_loopw [1, 5] (fun s i wr => ∃ (c : Nat) (l : Int), c ≤ n ∧ i = .int .i64 c ∧ s = .int .i64 l ∧ 0 ≤ l ∧ l ≤ 1048576 ∧ (∀ j, j < c → Q.L j ≤ 1048576) ∧ Below w.heap.size w wr) (fun _ i _ => n - (intOf i).toNat)
    case atStart => exact ⟨0, _, by omega, rfl, rfl, by omega, by omega, fun j hj => by omega, Below.refl _ _⟩
    case round =>
      obtain ⟨c, l, hc, rfl, rfl, l0, l1, hall, HB⟩ := hrel
      have HA : Hid (∀ j, j < c → Q.L j ≤ 1048576) := hall
      clear hall
      by_cases hcn : c < n
      · obtain rfl := HBO.out (by omega)
        obtain ⟨hA, q0, q1, q2, q3, q4, -⟩ := HBL.out.below HB c (by rw [HN.out]; exact hcn)
        have hcI : (c : Int) < n := by omega
        have SL := szBlockQ_any (so c).1 (Q.L c) (so c).2 (Q.X c) (Q.Y c) (Q.Z c) (Q.T c) l l0 l1 (HL.out c hcn)
        go_wp2_with fail
        refine (SL _).mono ?_
        rintro e w1 ⟨rfl, hB⟩
        replace HB := HB.trans (hB.mono HB.size)
        clear hB SL q0 q1 q2 q3 q4 hA
        by_cases hl : (Q.L c : Int) ≤ l
        · rw [if_pos hl]
          have hl2 : 0 ≤ l - (Q.L c : Int) := by omega
          go_wp2
          go_roundw
          case rel => exact ⟨c + 1, _, by omega, by go_num, rfl, by omega, by omega, fun j hj => by
            rcases Nat.lt_or_ge j c with h | h
            · exact HA.out j h
            · obtain rfl : j = c := by omega
              omega, HB⟩
          case measure => simp [intOf]; omega
        · rw [if_neg hl]
          go_wp2
          go_ret
          exact ⟨-1, rfl, by omega, by omega, fun h => by omega, HB⟩
      · obtain rfl : c = n := by omega
        clear HBL HL
        go_wp2
        go_ret
        exact ⟨l, rfl, by omega, l1, fun _ => ⟨by omega, HA.out⟩, HB⟩
  · have h' : l0 < (n : Int) := by omega
    clear HBL HL
    go_enter Try.func21, Try.ntmps21
    go_wp2
    go_ret
    exact ⟨-1, rfl, by omega, by omega, fun h => by omega, Below.refl _ _⟩
/-- What is left of a tree's count, if it is not below 0. -/
def SzQu (Q : QD) (w : World) (e : Ending) (w' : World) : Prop := ∃ z : Int, e = .returned (.int .i64 z) ∧ -1 ≤ z ∧ (0 ≤ z → Q.m ≤ 1048576 ∧ Q.N ≤ 1048576 ∧ ∀ i, i < Q.N → Q.L i ≤ 1048576) ∧ Below w.heap.size w w'
set_option maxRecDepth 100000 in
set_option maxHeartbeats 2000000 in
theorem szQuad_any (Q : QD) (ao bo : Option Addr) (cap bcap A off : Nat) (so : Nat → Option Addr × Nat) (m d : Int) (hm : Q.m ≤ 9223372036854775807) (hN : Q.N ≤ 9223372036854775807) (hL : ∀ i, i < Q.N → Q.L i ≤ 9223372036854775807) (hbo : 0 < Q.N → bo = some ⟨A, off, none⟩) (w : World) (hBl : BlIn Q w A off so) : Calls Try.prog 6 #[.agg #[.int .i64 m, .int .i64 d, .slice ao Q.m cap, .slice bo Q.N bcap], .int .i64 1048576] w (SzQu Q w) := by
  have B0 := Blk.new w [.int .i64 m, .int .i64 d, .slice ao Q.m cap, .slice bo Q.N bcap] 25 rfl
  have HB : Below w.heap.size w (w.alloc (.cells #[.int .i64 m, .int .i64 d, .slice ao Q.m cap, .slice bo Q.N bcap] 25)) := (Below.refl _ w).alloc (Nat.le_refl _) _
  have S1 := fun w => szItQ_any ao Q.m cap 1048576 (by omega) (by omega) hm w
  have HBL : Hid (BlIn Q w A off so) := hBl
  clear hBl
  go_enter Try.func6, Try.ntmps6
  go_upto_region 1 with fail
  generalize (w.alloc (.cells #[.int .i64 m, .int .i64 d, .slice ao Q.m cap, .slice bo Q.N bcap] 25)) = W1 at *
  have b2 := B0.c 2 rfl
  by_cases h : (Q.m : Int) ≤ 1048576
  · rw [if_pos h] at S1
    have S2 := fun w h => szBlockS_any Q bo bcap A off so (1048576 - (Q.m : Int)) (by omega) (by omega) hN hL hbo w h
    go_wp2_with fail
    refine (S1 _).mono ?_
    rintro e w1 ⟨rfl, hB⟩
    replace HB := HB.trans (hB.mono HB.size)
    replace B0 := B0.step hB
    clear hB S1 b2
    have b3 := B0.c 3 rfl
    have h2 : 0 ≤ 1048576 - (Q.m : Int) := by omega
    have HM : Hid (Q.m ≤ 1048576) := by show Q.m ≤ 1048576; omega
    go_wp2_with fail
    refine (S2 _ (HBL.out.below HB)).mono ?_
    rintro e w2 ⟨z, rfl, z0, z1, hz, hB⟩
    replace HB := HB.trans (hB.mono HB.size)
    have HZ : Hid (0 ≤ z → Q.N ≤ 1048576 ∧ ∀ i, i < Q.N → Q.L i ≤ 1048576) := hz
    clear hB S2 b3 hz B0
    by_cases hz0 : 0 ≤ z
    · go_wp2
      go_ret
      exact ⟨z, rfl, z0, fun h => ⟨HM.out, HZ.out h⟩, HB⟩
    · have hz' : z < 0 := by omega
      go_wp2
      go_ret
      exact ⟨-1, rfl, by omega, fun h => by omega, HB⟩
  · rw [if_neg h] at S1
    go_wp2_with fail
    refine (S1 _).mono ?_
    rintro e w1 ⟨rfl, hB⟩
    replace HB := HB.trans (hB.mono HB.size)
    clear hB S1 b2 B0
    go_wp2
    go_ret
    exact ⟨-1, rfl, by omega, fun h => by omega, HB⟩
theorem QuRow.items {Q : QD} {w : World} {b gi gb : Nat} {S : Nat → Nat} (h : QuRow Q w b gi gb S) : ItIn Q w (some ⟨gi, 0, none⟩) (List.range Q.m) := itIn_row h.its
end Go.Proofs.Ytaagmdhbfbikfaa

/- The law of a right tree. -/
namespace Go.Proofs.Ytaagmdhbfbikfaa
open Go.RowKit
def QuE (Q : QD) (m d : Int) (v : Value) (W : World) : Prop := ∃ gi gb S, v = .agg #[.int .i64 m, .int .i64 d, .slice (some ⟨gi, 0, none⟩) Q.m Q.m, .slice (some ⟨gb, 0, none⟩) Q.N Q.N] ∧ QuRow Q W 0 gi gb S
theorem QuE.step {Q : QD} {m d : Int} {v : Value} {W W2 : World} (h : QuE Q m d v W) (hB : Below W.heap.size W W2) : QuE Q m d v W2 := by
  obtain ⟨gi, gb, S, h1, h2⟩ := h
  exact ⟨gi, gb, S, h1, h2.step hB⟩
theorem QuRow.zero {Q : QD} {w : World} {b gi gb : Nat} {S : Nat → Nat} (h : QuRow Q w b gi gb S) : QuRow Q w 0 gi gb S :=
  ⟨h.its, Nat.zero_le _, ⟨h.bls.row, Nat.zero_le _, fun j hj => ⟨Nat.zero_le _, (h.bls.ids j hj).2⟩⟩, h.d1, h.d2⟩
def VqeO (Qd : QD) (m d : Int) (ao bo : Option Addr) (cap bcap gi gb : Nat) (_B : Nat) : Nat → Value → World → Prop
  | 0, v, _ => v = .agg #[.int .i64 m, .int .i64 d, .slice (some ⟨gi, 0, none⟩) Qd.m Qd.m, .slice (some ⟨gb, 0, none⟩) Qd.N Qd.N]
  | 1, v, _ => v = .agg #[.int .i64 m, .int .i64 d, .slice ao Qd.m cap, .slice bo Qd.N bcap]
  | 2, v, W => QuE Qd m d v W
  | 3, v, _ => v = .bool true
  | 4, v, _ => v = .bool false
  | _, _, _ => True
theorem VqeO.mono {Qd : QD} {m d : Int} {ao bo : Option Addr} {cap bcap gi gb : Nat} {B j : Nat} {v : Value} {W W2 : World} (hB : Below W.heap.size W W2) (h : VqeO Qd m d ao bo cap bcap gi gb B j v W) : VqeO Qd m d ao bo cap bcap gi gb B j v W2 := by
  unfold VqeO at *
  split <;> simp only at h <;> first | exact h | exact h.step hB | trivial
set_option maxRecDepth 100000 in
set_option maxHeartbeats 4000000 in
theorem qeO {Q : Exit → Act → World → Prop} {Qd : QD} {m d : Int} {ao bo : Option Addr} {cap bcap gi gb : Nat} {P X A off : Nat} {so : Nat → Option Addr × Nat} {S : Nat → Nat} {w0 : World} {a0 : Act} {idq : Nat} {t0 t1 t2 t3 t4 : TypeId} {q0 q1 q2 q3 q4 : String}
    (hm : Qd.m ≤ 1048576) (hN : Qd.N ≤ 1048576) (hL : ∀ i, i < Qd.N → Qd.L i ≤ 1048576) (hbo : 0 < Qd.N → bo = some ⟨A, off, none⟩) (hIt : ItIn Qd w0 ao (List.range Qd.m)) (hBl : BlIn Qd w0 A off so) (hR : QuRow Qd w0 0 gi gb S) (h1 : a0.tmps[1]? = some (.pointer (some ⟨P, 0, none⟩))) (h5 : a0.tmps[5]? = some (.pointer (some ⟨X, 0, none⟩))) (k0 : w0.cell? ⟨P, 0, none⟩ = some (.int .i64 m)) (l0 : (⟨P, 0, none⟩ : Addr).block < w0.heap.size) (k1 : w0.cell? ⟨P, 1, none⟩ = some (.int .i64 d)) (l1 : (⟨P, 1, none⟩ : Addr).block < w0.heap.size) (k2 : w0.cell? ⟨P, 2, none⟩ = some (.slice ao Qd.m cap)) (l2 : (⟨P, 2, none⟩ : Addr).block < w0.heap.size) (k3 : w0.cell? ⟨P, 3, none⟩ = some (.slice bo Qd.N bcap)) (l3 : (⟨P, 3, none⟩ : Addr).block < w0.heap.size) (k4 : w0.cell? ⟨X, 0, none⟩ = some (.int .i64 m)) (l4 : (⟨X, 0, none⟩ : Addr).block < w0.heap.size) (k5 : w0.cell? ⟨X, 1, none⟩ = some (.int .i64 d)) (l5 : (⟨X, 1, none⟩ : Addr).block < w0.heap.size) (k6 : w0.cell? ⟨X, 2, none⟩ = some (.slice (some ⟨gi, 0, none⟩) Qd.m Qd.m)) (l6 : (⟨X, 2, none⟩ : Addr).block < w0.heap.size) (k7 : w0.cell? ⟨X, 3, none⟩ = some (.slice (some ⟨gb, 0, none⟩) Qd.N Qd.N)) (l7 : (⟨X, 3, none⟩ : Addr).block < w0.heap.size) (hz : a0.tmps.size = 27)
    (hQ : ∀ aq W, aq.tmps.size = a0.tmps.size → aq.defers = a0.defers → (∀ e, e ∉ ([22, 23, 24, 25, 26] : List Nat) → aq.tmps[e]? = a0.tmps[e]?) → VqeO Qd m d ao bo cap bcap gi gb w0.heap.size 4 (aq.tmps.getD 26 undef) W → Below w0.heap.size w0 W → Q .normal aq W) :
    (Code.region idq #[{ dst := some 22, op := Op.load 31 (Operand.tmp 5), type := t0, pos := q0, after := #[], guard := none },
    { dst := some 23, op := Op.load 25 (Operand.tmp 1), type := t1, pos := q1, after := #[], guard := none },
    { dst := some 24, op := Op.call { callee := Callee.value (Operand.func 8), args := #[Operand.tmp 23], argTypes := #[25] }, type := t2, pos := q2, after := #[{ on := 1, ground := Ground.data }], guard := none },
    { dst := some 25, op := Op.call { callee := Callee.value (Operand.func 10), args := #[Operand.tmp 22, Operand.tmp 24], argTypes := #[31, 31] }, type := t3, pos := q3, after := #[{ on := 0, ground := Ground.data }, { on := 2, ground := Ground.data }, { on := 2, ground := Ground.chain }], guard := none },
    { dst := some 26, op := Op.unOp UnOp.not 4 (Operand.tmp 25), type := t4, pos := q4, after := #[{ on := 3, ground := Ground.data }], guard := none }] true).wp Try.prog Q a0 w0 := by
  have hS : distS [some 22, some 23, some 24, some 25, some 26] = true := rfl
  refine wp_region_q (by kernel_rfl) w0.heap.size [some 22, some 23, some 24, some 25, some 26] (VqeO Qd m d ao bo cap bcap gi gb w0.heap.size) rfl ?_ ?_
  · intro Q lq aq W iq oq hJ hl ho hall
    have hJ2 := hJ
    obtain ⟨z1, z2, z3, z4, z5, z6, z7⟩ := hJ
    have g1 : aq.tmps.getD 1 undef = .pointer (some ⟨P, 0, none⟩) := by rw [Array.getD_eq_getD_getElem?, z4 1 (by decide), h1]; rfl
    have g5 : aq.tmps.getD 5 undef = .pointer (some ⟨X, 0, none⟩) := by rw [Array.getD_eq_getD_getElem?, z4 5 (by decide), h5]; rfl
    have c0 : W.cell? ⟨P, 0, none⟩ = some (.int .i64 m) := (z5.cell l0).trans k0
    have c1 : W.cell? ⟨P, 1, none⟩ = some (.int .i64 d) := (z5.cell l1).trans k1
    have c2 : W.cell? ⟨P, 2, none⟩ = some (.slice ao Qd.m cap) := (z5.cell l2).trans k2
    have c3 : W.cell? ⟨P, 3, none⟩ = some (.slice bo Qd.N bcap) := (z5.cell l3).trans k3
    have c4 : W.cell? ⟨X, 0, none⟩ = some (.int .i64 m) := (z5.cell l4).trans k4
    have c5 : W.cell? ⟨X, 1, none⟩ = some (.int .i64 d) := (z5.cell l5).trans k5
    have c6 : W.cell? ⟨X, 2, none⟩ = some (.slice (some ⟨gi, 0, none⟩) Qd.m Qd.m) := (z5.cell l6).trans k6
    have c7 : W.cell? ⟨X, 3, none⟩ = some (.slice (some ⟨gb, 0, none⟩) Qd.N Qd.N) := (z5.cell l7).trans k7
    match iq, ho with
    | 0, ho =>
      cases ho
      refine wpOp_of rfl rfl ?_
      have hK := fun (v : Value) (W2 : World) hW hT hv => hJ2.put hS 0 22 rfl (by omega) (W' := W2) hW hT v hv
      clear ho hall hl hQ
      generalize InvQ _ _ _ w0 a0 (lq.setIfInBounds 0 true) = K at hK ⊢
      clear hJ2 hS z1 z2 z3 z4 z6 z7
      go_simp
      exact hK _ _ z5 (fun _ _ h => h) rfl
    | 1, ho =>
      cases ho
      refine wpOp_of rfl rfl ?_
      have hK := fun (v : Value) (W2 : World) hW hT hv => hJ2.put hS 1 23 rfl (by omega) (W' := W2) hW hT v hv
      clear ho hall hl hQ
      generalize InvQ _ _ _ w0 a0 (lq.setIfInBounds 1 true) = K at hK ⊢
      clear hJ2 hS z1 z2 z3 z4 z6 z7
      go_simp
      exact hK _ _ z5 (fun _ _ h => h) rfl
    | 2, ho =>
      cases ho
      refine wpOp_of rfl rfl ?_
      have f1 : (aq.tmps.getD 23 undef) = .agg #[.int .i64 m, .int .i64 d, .slice ao Qd.m cap, .slice bo Qd.N bcap] := z6 1 23 (hall { on := 1, ground := Ground.data } (by simp) rfl) rfl
      have hK := fun (v : Value) (W2 : World) hW hT hv => hJ2.put hS 2 24 rfl (by omega) (W' := W2) hW hT v hv
      clear ho hall hl hQ
      generalize InvQ _ _ _ w0 a0 (lq.setIfInBounds 2 true) = K at hK ⊢
      clear hJ2 hS z1 z2 z3 z4 z6 z7
      go_simp
      refine (toQuad_any Qd ao bo cap bcap A off so m d hm hN hL hbo W (hIt.step z5) (hBl.below z5)).mono ?_
      rintro r v1 ⟨gi2, gb2, S2, rfl, R2, hBv⟩
      exact hK _ _ (z5.trans (hBv.mono z5.size)) (fun _ _ h => h.mono hBv) ⟨gi2, gb2, S2, rfl, R2.zero⟩
    | 3, ho =>
      cases ho
      refine wpOp_of rfl rfl ?_
      have f0 : (aq.tmps.getD 22 undef) = .agg #[.int .i64 m, .int .i64 d, .slice (some ⟨gi, 0, none⟩) Qd.m Qd.m, .slice (some ⟨gb, 0, none⟩) Qd.N Qd.N] := z6 0 22 (hall { on := 0, ground := Ground.data } (by simp) rfl) rfl
      have f2 : QuE Qd m d (aq.tmps.getD 24 undef) W := z6 2 24 (hall { on := 2, ground := Ground.data } (by simp) rfl) rfl
      obtain ⟨gi2, gb2, S2, f2, R2⟩ := f2
      have hK := fun (v : Value) (W2 : World) hW hT hv => hJ2.put hS 3 25 rfl (by omega) (W' := W2) hW hT v hv
      clear ho hall hl hQ
      generalize InvQ _ _ _ w0 a0 (lq.setIfInBounds 3 true) = K at hK ⊢
      clear hJ2 hS z1 z2 z3 z4 z6 z7
      go_simp
      refine (eqQuad_any Qd m d _ _ _ _ _ _ _ _ gb 0 gb2 0 _ _ hm hN hL W (fun _ => rfl) (fun _ => rfl) (hR.step z5).items R2.items (hR.step z5).bls.in R2.bls.in).mono ?_
      rintro r v1 ⟨rfl, hBv⟩
      exact hK _ _ (z5.trans (hBv.mono z5.size)) (fun _ _ h => h.mono hBv) rfl
    | 4, ho =>
      cases ho
      refine wpOp_of rfl rfl ?_
      have f3 : (aq.tmps.getD 25 undef) = .bool true := z6 3 25 (hall { on := 3, ground := Ground.data } (by simp) rfl) rfl
      have hK := fun (v : Value) (W2 : World) hW hT hv => hJ2.put hS 4 26 rfl (by omega) (W' := W2) hW hT v hv
      clear ho hall hl hQ
      generalize InvQ _ _ _ w0 a0 (lq.setIfInBounds 4 true) = K at hK ⊢
      clear hJ2 hS z1 z2 z3 z4 z6 z7
      go_simp
      exact hK _ _ z5 (fun _ _ h => h) rfl
    | iq + 5, ho => simp at ho
  · intro lq aq W hJ hr
    obtain ⟨z1, z2, z3, z4, z5, z6, z7⟩ := hJ
    have hl := listed_of hr [0, 1, 2, 3, 4] [] (by simp) (by kernel_rfl) (by rw [z1]; decide)
    exact hQ aq W z2 z3 (fun e he => z4 e (by simpa using he)) (z6 4 26 (hl 4 (by simp)) rfl) z5
set_option maxRecDepth 100000 in
set_option maxHeartbeats 4000000 in
theorem lawQuadOk_any (Q : QD) (ao bo : Option Addr) (cap bcap A off : Nat) (so : Nat → Option Addr × Nat) (m d : Int) (hm : Q.m ≤ 9223372036854775807) (hN : Q.N ≤ 9223372036854775807) (hL : ∀ i, i < Q.N → Q.L i ≤ 9223372036854775807) (hbo : 0 < Q.N → bo = some ⟨A, off, none⟩) (w : World) (hS : ItIn Q w ao (List.range Q.m)) (hBl : BlIn Q w A off so) : Calls Try.prog 3 #[.agg #[.int .i64 m, .int .i64 d, .slice ao Q.m cap, .slice bo Q.N bcap]] w (BoolP true w) := by
  have B0 := Blk.new w [.int .i64 m, .int .i64 d, .slice ao Q.m cap, .slice bo Q.N bcap] 25 rfl
  have HB : Below w.heap.size w (w.alloc (.cells #[.int .i64 m, .int .i64 d, .slice ao Q.m cap, .slice bo Q.N bcap] 25)) := (Below.refl _ w).alloc (Nat.le_refl _) _
  have SZ := fun w h => szQuad_any Q ao bo cap bcap A off so m d hm hN hL hbo w h
  have HS : Hid (ItIn Q w ao (List.range Q.m)) := hS
  have HBL : Hid (BlIn Q w A off so) := hBl
  clear hS hBl hm hN hL
  go_enter Try.func3, Try.ntmps3
  go_upto_region 1 with fail
  generalize (w.alloc (.cells #[.int .i64 m, .int .i64 d, .slice ao Q.m cap, .slice bo Q.N bcap] 25)) = W1 at *
  have b0 := B0.c 0 rfl; have b1 := B0.c 1 rfl; have b2 := B0.c 2 rfl; have b3 := B0.c 3 rfl
  go_wp2_with fail
  refine (SZ _ (HBL.out.below HB)).mono ?_
  rintro e w1 ⟨z, rfl, z0, hz, hB⟩
  replace HB := HB.trans (hB.mono HB.size)
  replace B0 := B0.step hB
  clear hB SZ b0 b1 b2 b3
  by_cases hz0 : 0 ≤ z
  · obtain ⟨hm, hN, hL⟩ := hz hz0
    have HM : Hid (Q.m ≤ 1048576) := hm
    have HN : Hid (Q.N ≤ 1048576) := hN
    have HL : Hid (∀ i, i < Q.N → Q.L i ≤ 1048576) := hL
    have HBO : Hid (0 < Q.N → bo = some ⟨A, off, none⟩) := hbo
    clear hz hm hN hL hbo
    have b0 := B0.c 0 rfl; have b1 := B0.c 1 rfl; have b2 := B0.c 2 rfl; have b3 := B0.c 3 rfl
    go_wp2_with fail
    refine (toQuad_any Q ao bo cap bcap A off so m d HM.out HN.out HL.out HBO.out _ (HS.out.step HB) (HBL.out.below HB)).mono ?_
    rintro e w2 ⟨g1, h1, S1, rfl, R1, hB⟩
    replace HB := HB.trans (hB.mono HB.size)
    replace B0 := B0.step hB
    clear hB b0 b1 b2 b3
    have b0 := B0.c 0 rfl; have b1 := B0.c 1 rfl; have b2 := B0.c 2 rfl; have b3 := B0.c 3 rfl
    go_wp2_with fail
    refine (specQuadOk_any _ Q _ _ _ _ h1 0 _ m d HM.out HN.out HL.out (fun _ => rfl) (fun _ _ h => by cases h) R1.items R1.bls.in).mono ?_
    rintro e w3 ⟨rfl, hB⟩
    replace HB := HB.trans (hB.mono HB.size)
    replace B0 := B0.step hB
    clear hB b0 b1 b2 b3 R1
    have b0 := B0.c 0 rfl; have b1 := B0.c 1 rfl; have b2 := B0.c 2 rfl; have b3 := B0.c 3 rfl
    go_wp2_with fail
    refine (toQuad_any Q ao bo cap bcap A off so m d HM.out HN.out HL.out HBO.out _ (HS.out.step HB) (HBL.out.below HB)).mono ?_
    rintro e w4 ⟨gi, gb, S2, rfl, R2, hB⟩
    replace HB := HB.trans (hB.mono HB.size)
    replace B0 := B0.step hB
    clear hB b0 b1 b2 b3
    have B5 : Blk (w4.alloc (.cells #[.int .i64 m, .int .i64 d, .slice (some ⟨gi, 0, none⟩) Q.m Q.m, .slice (some ⟨gb, 0, none⟩) Q.N Q.N] 31)) w4.heap.size [.int .i64 m, .int .i64 d, .slice (some ⟨gi, 0, none⟩) Q.m Q.m, .slice (some ⟨gb, 0, none⟩) Q.N Q.N] := Blk.new w4 [.int .i64 m, .int .i64 d, .slice (some ⟨gi, 0, none⟩) Q.m Q.m, .slice (some ⟨gb, 0, none⟩) Q.N Q.N] 31 rfl
    replace R2 := R2.step ((Below.refl _ w4).alloc (Nat.le_refl _) (.cells #[.int .i64 m, .int .i64 d, .slice (some ⟨gi, 0, none⟩) Q.m Q.m, .slice (some ⟨gb, 0, none⟩) Q.N Q.N] 31))
    replace HB := HB.alloc HB.size (.cells #[.int .i64 m, .int .i64 d, .slice (some ⟨gi, 0, none⟩) Q.m Q.m, .slice (some ⟨gb, 0, none⟩) Q.N Q.N] 31)
    replace B0 := B0.alloc (.cells #[.int .i64 m, .int .i64 d, .slice (some ⟨gi, 0, none⟩) Q.m Q.m, .slice (some ⟨gb, 0, none⟩) Q.N Q.N] 31)
    go_upto_region 7 with fail
    generalize (w4.alloc (.cells #[.int .i64 m, .int .i64 d, .slice (some ⟨gi, 0, none⟩) Q.m Q.m, .slice (some ⟨gb, 0, none⟩) Q.N Q.N] 31)) = W5 at *
    have x0 := B5.c 0 rfl; have x1 := B5.c 1 rfl; have x2 := B5.c 2 rfl; have x3 := B5.c 3 rfl
    go_wp2_with fail
    refine (implQuadOk_any _ Q _ _ _ _ gb 0 _ m d HM.out HN.out (Nat.le_refl _) HL.out (fun _ => rfl) (fun A o sp e => by cases e; exact R2.its.lt) R2.items R2.bls.in).mono ?_
    rintro e w6 ⟨rfl, hB⟩
    replace HB := HB.trans (hB.mono HB.size)
    replace B0 := B0.step hB
    replace B5 := B5.step hB
    replace R2 := R2.step hB
    clear hB x0 x1 x2 x3
    have hp := B0.lt
    have hx := B5.lt
    go_upto_region 10 with fail
    refine qeO (P := w.heap.size) (X := w4.heap.size) (A := A) (off := off) (so := so) (S := S2) (Qd := Q) (m := m) (d := d) (ao := ao) (bo := bo) (cap := cap) (bcap := bcap) (gi := gi) (gb := gb) HM.out HN.out HL.out HBO.out (HS.out.step HB) (HBL.out.below HB) R2.zero rfl rfl (B0.c 0 rfl) hp (B0.c 1 rfl) hp (B0.c 2 rfl) hp (B0.c 3 rfl) hp (B5.c 0 rfl) hx (B5.c 1 rfl) hx (B5.c 2 rfl) hx (B5.c 3 rfl) hx rfl ?_
    rintro ⟨tm, df⟩ Wz hz hdf hoff h26 hBz
    simp only at hz hdf hoff h26
    change tm.getD 26 undef = .bool false at h26
    subst hdf
    have htm := tmps_fold [22, 23, 24, 25, 26] tm _ hz hoff
    simp only [List.foldl, List.setIfInBounds_toArray, List.set_cons_zero, List.set_cons_succ, h26] at htm
    clear hz hoff
    generalize tm.getD 22 undef = pz0, tm.getD 23 undef = pz1, tm.getD 24 undef = pz2, tm.getD 25 undef = pz3 at htm
    clear h26
    subst htm
    replace HB := HB.trans (hBz.mono HB.size)
    clear hBz B0 B5 R2 HS HBL
    go_wp2
    go_ret
    exact ⟨rfl, HB⟩
  · have hz' : z < 0 := by omega
    clear hz hbo HS HBL
    go_wp2
    go_ret
    exact ⟨rfl, HB⟩
end Go.Proofs.Ytaagmdhbfbikfaa

/- How spots and segments read as data, beside points: opened and shut. -/
namespace Go.Proofs.Ytaagmdhbfbikfaa
open Go.ChangeShapes Go.WideShapes Go.ChangeAt Go.RowKit Go.Joins
theorem Try.cellsSpot : Try.prog.cellsOf 38 = 2 := by kernel_rfl
theorem Try.cellsSeg : Try.prog.cellsOf 92 = 4 := by kernel_rfl
abbrev Wf (x : Int) : Prop := (Lit.int .i64 x).wf = true
abbrev SpD {H : Type} (x y : Int) : DataW H := .agg [.lit (.int .i64 x), .lit (.int .i64 y)]
theorem trod_spot {H : Type} {enc : TypeId × Value → H} {w : World} {base : Nat} {spare : TypeId → Bool} {held : Bool} {n : Nat} {c0 c1 : Value} {y : DataW H × List MemPlace} (h : DataW.trod enc Try.prog w base spare held n 38 [c0, c1] = some y) :
    ∃ a b : Int, c0 = .int .i64 a ∧ c1 = .int .i64 b ∧ y = (SpD a b, []) ∧ Wf a ∧ Wf b := by
  obtain ⟨y0, y1, m, hx, _, h0, h1⟩ := trod_struct2 Try.underlying38 h
  obtain ⟨a, e0, rfl, wa⟩ := DataW.trod_int Try.underlying2 h0
  obtain ⟨b, e1, rfl, wb⟩ := DataW.trod_int Try.underlying2 h1
  have k : Try.prog.cellsOf 2 = 1 := by kernel_rfl
  simp [k] at e0 e1
  exact ⟨a, b, e0, e1, hx, wa, wb⟩
end Go.Proofs.Ytaagmdhbfbikfaa

/- How a tree reads as data. -/
namespace Go.Proofs.Ytaagmdhbfbikfaa
open Go.ChangeShapes Go.WideShapes Go.ChangeAt Go.RowKit Go.Joins
theorem Try.laidOut : laidOutB Try.prog = true := by kernel_rfl
theorem Try.cellsInt64 : Try.prog.cellsOf 2 = 1 := by kernel_rfl
theorem Try.cellsBool : Try.prog.cellsOf 4 = 1 := by kernel_rfl
theorem Try.cellsNoS : Try.prog.cellsOf 39 = 1 := by kernel_rfl
theorem Try.cellsItem : Try.prog.cellsOf 94 = 5 := by kernel_rfl
theorem Try.cellsBlock : Try.prog.cellsOf 83 = 5 := by kernel_rfl
theorem Try.cellsQuad : Try.prog.cellsOf 25 = 4 := by kernel_rfl
theorem Try.cellsItemS : Try.prog.cellsOf 22 = 1 := by kernel_rfl
theorem Try.cellsBlockS : Try.prog.cellsOf 23 = 1 := by kernel_rfl
theorem trod_struct5 {P : Program} {H : Type} {enc : TypeId × Value → H} {w : World} {base : Nat} {spare : Nat → Bool} {held : Bool} {t : TypeId} {f0 f1 f2 f3 f4 : Field} {fuel : Nat} {cs : List Value} {x : DataW H × List MemPlace} (ht : P.underlying t = some (.struct #[f0, f1, f2, f3, f4])) (h : DataW.trod enc P w base spare held fuel t cs = some x) :
    ∃ y0 y1 y2 y3 y4 n, x = (.agg [y0.1, y1.1, y2.1, y3.1, y4.1], y0.2 ++ (y1.2 ++ (y2.2 ++ (y3.2 ++ y4.2)))) ∧ cs.length = P.cellsOf t ∧ DataW.trod enc P w base spare held n f0.type ((cs.drop f0.offset).take (P.cellsOf f0.type)) = some y0 ∧
      DataW.trod enc P w base spare held n f1.type ((cs.drop f1.offset).take (P.cellsOf f1.type)) = some y1 ∧ DataW.trod enc P w base spare held n f2.type ((cs.drop f2.offset).take (P.cellsOf f2.type)) = some y2 ∧
      DataW.trod enc P w base spare held n f3.type ((cs.drop f3.offset).take (P.cellsOf f3.type)) = some y3 ∧ DataW.trod enc P w base spare held n f4.type ((cs.drop f4.offset).take (P.cellsOf f4.type)) = some y4 := by
  obtain ⟨xs, n, _, rfl, hl, hlen, hf⟩ := DataW.trod_struct ht h
  match xs, hlen with
  | [y0, y1, y2, y3, y4], _ => exact ⟨y0, y1, y2, y3, y4, n, by simp, hl, by simpa using hf 0 f0 rfl, by simpa using hf 1 f1 rfl, by simpa using hf 2 f2 rfl, by simpa using hf 3 f3 rfl, by simpa using hf 4 f4 rfl⟩
theorem nos_of {H : Type} {enc : TypeId × Value → H} {W : World} {a : Addr} {len m n : Nat} {D : Nat → DataW H} {Pl : Nat → List MemPlace} (hl : len ≤ m)
    (hx : ∀ i, i < m → ∃ cs', W.cells? 0 (a.add (i * Try.prog.cellsOf 2)) (Try.prog.cellsOf 2) = some cs' ∧ DataW.trod enc Try.prog W 0 (fun _ => true) true n 2 cs' = some (D i, Pl i))
    (hlt : ∀ x ∈ MemPlace.row a (m * Try.prog.cellsOf 2), x.block < W.heap.size) : ∃ x : Nat → Int, NoIn W (some a) len x := by
  rw [Try.cellsInt64] at hx hlt
  have each : ∀ i, i < m → ∃ q : Int, W.cell? (a.add i) = some (.int .i64 q) := by
    intro i hi
    obtain ⟨cs', h1, h2⟩ := hx i hi
    obtain ⟨_, hlen, hcell⟩ := World.cells?_some h1
    match cs', hlen with
    | [v0], _ =>
      have e0 := hcell 0 (by omega)
      rw [Go.Deep.add_add] at e0
      obtain ⟨x, hv, -, -⟩ := DataW.trod_int Try.underlying2 h2
      simp at hv
      subst hv
      exact ⟨x, by simpa using e0⟩
  obtain ⟨q, hq⟩ := Go.Deep.choose_lt each
  obtain ⟨ab, ao, spot⟩ := a
  refine ⟨q, fun i hi => ?_⟩
  have hspot : spot = none := by simpa [Addr.add] using World.cell?_spot (hq 0 (by omega))
  subst hspot
  have c0 := hq i (by omega)
  rw [Addr.add_lit] at c0
  exact ⟨ab, ao, rfl, hlt (.cell ab (ao + i)) (by simp only [MemPlace.row, List.mem_map, List.mem_range]; exact ⟨i, by omega, rfl⟩), c0⟩
theorem items_of {H : Type} {enc : TypeId × Value → H} {W : World} {a : Addr} {len m n : Nat} {D : Nat → DataW H} {Pl : Nat → List MemPlace} (hl : len ≤ m)
    (hx : ∀ i, i < m → ∃ cs', W.cells? 0 (a.add (i * Try.prog.cellsOf 94)) (Try.prog.cellsOf 94) = some cs' ∧ DataW.trod enc Try.prog W 0 (fun _ => true) true n 94 cs' = some (D i, Pl i))
    (hlt : ∀ x ∈ MemPlace.row a (m * Try.prog.cellsOf 94), x.block < W.heap.size) : ∃ q : Nat → Int × Int × Int × Int × Int, ∀ i, i < len → ∃ A off, some a = some ⟨A, off, none⟩ ∧ A < W.heap.size ∧ W.cell? ⟨A, off + i * 5, none⟩ = some (.int .i64 (q i).1) ∧ W.cell? ⟨A, off + i * 5 + 1, none⟩ = some (.int .i64 (q i).2.1) ∧ W.cell? ⟨A, off + i * 5 + 2, none⟩ = some (.int .i64 (q i).2.2.1) ∧ W.cell? ⟨A, off + i * 5 + 3, none⟩ = some (.int .i64 (q i).2.2.2.1) ∧ W.cell? ⟨A, off + i * 5 + 4, none⟩ = some (.int .i64 (q i).2.2.2.2) := by
  rw [Try.cellsItem] at hx hlt
  have each : ∀ i, i < m → ∃ q : Int × Int × Int × Int × Int, W.cell? (a.add (i * 5)) = some (.int .i64 q.1) ∧ W.cell? (a.add (i * 5 + 1)) = some (.int .i64 q.2.1) ∧ W.cell? (a.add (i * 5 + 2)) = some (.int .i64 q.2.2.1) ∧ W.cell? (a.add (i * 5 + 3)) = some (.int .i64 q.2.2.2.1) ∧ W.cell? (a.add (i * 5 + 4)) = some (.int .i64 q.2.2.2.2) := by
    intro i hi
    obtain ⟨cs', h1, h2⟩ := hx i hi
    obtain ⟨_, hlen, hcell⟩ := World.cells?_some h1
    match cs', hlen with
    | [v0, v1, v2, v3, v4], _ =>
      have e0 := hcell 0 (by omega); have e1 := hcell 1 (by omega); have e2 := hcell 2 (by omega); have e3 := hcell 3 (by omega); have e4 := hcell 4 (by omega)
      rw [Go.Deep.add_add] at e0 e1 e2 e3 e4
      obtain ⟨y0, y1, k, hy, _, g0, g1⟩ := trod_struct2 Try.underlying94 h2
      simp [Try.cellsInt64, Try.cellsSeg] at g0 g1
      obtain ⟨x, hv, -, -⟩ := DataW.trod_int Try.underlying2 g0
      simp at hv
      subst hv
      obtain ⟨z0, z1, k2, hz, _, k0, k1⟩ := trod_struct2 Try.underlying92 g1
      simp [Try.cellsSpot] at k0 k1
      obtain ⟨p, q, rfl, rfl, -, -, -⟩ := trod_spot k0
      obtain ⟨r, s, rfl, rfl, -, -, -⟩ := trod_spot k1
      exact ⟨(x, p, q, r, s), by simpa using e0, by simpa using e1, by simpa using e2, by simpa using e3, by simpa using e4⟩
  obtain ⟨q, hq⟩ := Go.Deep.choose_lt each
  obtain ⟨ab, ao, spot⟩ := a
  refine ⟨q, fun i hi => ?_⟩
  have hspot : spot = none := by simpa [Addr.add] using World.cell?_spot (hq 0 (by omega)).1
  subst hspot
  obtain ⟨c0, c1, c2, c3, c4⟩ := hq i (by omega)
  rw [Addr.add_lit] at c0 c1 c2 c3 c4
  exact ⟨ab, ao, rfl, hlt (.cell ab (ao + i * 5)) (by simp only [MemPlace.row, List.mem_map, List.mem_range]; exact ⟨i * 5, by omega, rfl⟩), c0, by simpa [Nat.add_assoc] using c1, by simpa [Nat.add_assoc] using c2, by simpa [Nat.add_assoc] using c3, by simpa [Nat.add_assoc] using c4⟩
set_option maxRecDepth 100000 in
set_option maxHeartbeats 2000000 in
theorem blocks_of {H : Type} {enc : TypeId × Value → H} {W : World} {a : Addr} {len m n : Nat} {D : Nat → DataW H} {Pl : Nat → List MemPlace} (hl : len ≤ m)
    (hx : ∀ i, i < m → ∃ cs', W.cells? 0 (a.add (i * Try.prog.cellsOf 83)) (Try.prog.cellsOf 83) = some cs' ∧ DataW.trod enc Try.prog W 0 (fun _ => true) true n 83 cs' = some (D i, Pl i))
    (hlt : ∀ x ∈ MemPlace.row a (m * Try.prog.cellsOf 83), x.block < W.heap.size) (hlt2 : ∀ i, i < m → ∀ x ∈ Pl i, x.block < W.heap.size) : ∃ (A off : Nat) (q : Nat → Int × Int × Int × Bool) (S : Nat → Option Addr × Nat) (L : Nat → Nat) (E : Nat → Nat → Int), (0 < len → some a = some ⟨A, off, none⟩) ∧ (∀ i, i < len → L i ≤ 9223372036854775807) ∧ ∀ i, i < len → A < W.heap.size ∧ W.cell? ⟨A, off + i * 5, none⟩ = some (.int .i64 (q i).1) ∧ W.cell? ⟨A, off + i * 5 + 1, none⟩ = some (.int .i64 (q i).2.1) ∧ W.cell? ⟨A, off + i * 5 + 2, none⟩ = some (.int .i64 (q i).2.2.1) ∧ W.cell? ⟨A, off + i * 5 + 3, none⟩ = some (.bool (q i).2.2.2) ∧ W.cell? ⟨A, off + i * 5 + 4, none⟩ = some (.slice (S i).1 (L i) (S i).2) ∧ NoIn W (S i).1 (L i) (E i) := by
  rw [Try.cellsBlock] at hx hlt
  have each : ∀ i, i < m → ∃ r : (Int × Int × Int × Bool) × (Option Addr × Nat) × Nat × (Nat → Int), r.2.2.1 ≤ 9223372036854775807 ∧ NoIn W r.2.1.1 r.2.2.1 r.2.2.2 ∧ W.cell? (a.add (i * 5)) = some (.int .i64 r.1.1) ∧ W.cell? (a.add (i * 5 + 1)) = some (.int .i64 r.1.2.1) ∧ W.cell? (a.add (i * 5 + 2)) = some (.int .i64 r.1.2.2.1) ∧ W.cell? (a.add (i * 5 + 3)) = some (.bool r.1.2.2.2) ∧ W.cell? (a.add (i * 5 + 4)) = some (.slice r.2.1.1 r.2.2.1 r.2.1.2) := by
    intro i hi
    obtain ⟨cs', h1, h2⟩ := hx i hi
    obtain ⟨_, hlen, hcell⟩ := World.cells?_some h1
    match cs', hlen with
    | [v0, v1, v2, v3, v4], _ =>
      have e0 := hcell 0 (by omega); have e1 := hcell 1 (by omega); have e2 := hcell 2 (by omega); have e3 := hcell 3 (by omega); have e4 := hcell 4 (by omega)
      rw [Go.Deep.add_add] at e0 e1 e2 e3 e4
      obtain ⟨y0, y1, y2, y3, y4, k, hy, _, g0, g1, g2, g3, g4⟩ := trod_struct5 Try.underlying83 h2
      simp [Try.cellsInt64, Try.cellsBool, Try.cellsNoS] at g0 g1 g2 g3 g4
      obtain ⟨x, hv, -, -⟩ := DataW.trod_int Try.underlying2 g0
      simp at hv
      subst hv
      obtain ⟨y, hv, -, -⟩ := DataW.trod_int Try.underlying2 g1
      simp at hv
      subst hv
      obtain ⟨z, hv, -, -⟩ := DataW.trod_int Try.underlying2 g2
      simp at hv
      subst hv
      obtain ⟨t, hv, -⟩ := DataW.trod_bool Try.underlying4 g3
      simp at hv
      subst hv
      have hpl : Pl i = y0.2 ++ (y1.2 ++ (y2.2 ++ (y3.2 ++ y4.2))) := by have := congrArg Prod.snd hy; simpa using this
      rcases Go.Deep.open_slice Try.underlying39 g4 with ⟨hcs, -⟩ | ⟨a', len', cap', m', n', D', Pl', hcs, _, hl', hm', hz', hx', hel'⟩
      · simp at hcs
        subst hcs
        exact ⟨((x, y, z, t), (none, 0), 0, fun _ => 0), Nat.zero_le _, fun i hi => absurd hi (Nat.not_lt_zero _), by simpa using e0, by simpa using e1, by simpa using e2, by simpa using e3, by simpa using e4⟩
      · simp at hcs
        subst hcs
        simp only [if_true] at hz'
        have hb : ∀ x ∈ MemPlace.row a' (m' * Try.prog.cellsOf 2), x.block < W.heap.size := fun x hxx => hlt2 i hi x (by
          rw [hpl, hx']
          exact List.mem_append_right _ (List.mem_append_right _ (List.mem_append_right _ (List.mem_append_right _ (List.mem_append_left _ hxx)))))
        obtain ⟨q, hq⟩ := nos_of (len := len') (by omega) hel' hb
        exact ⟨((x, y, z, t), (some a', cap'), len', q), by have := hm'; simp [maxLen] at this; show len' ≤ _; omega, hq, by simpa using e0, by simpa using e1, by simpa using e2, by simpa using e3, by simpa using e4⟩
  obtain ⟨r, hr⟩ := Go.Deep.choose_lt each
  obtain ⟨ab, ao, spot⟩ := a
  refine ⟨ab, ao, fun i => (r i).1, fun i => (r i).2.1, fun i => (r i).2.2.1, fun i => (r i).2.2.2, fun h => ?_, fun i hi => (hr i (by omega)).1, fun i hi => ?_⟩
  · have hspot : spot = none := by simpa [Addr.add] using World.cell?_spot (hr 0 (by omega)).2.2.1
    subst hspot
    rfl
  have hspot : spot = none := by simpa [Addr.add] using World.cell?_spot (hr 0 (by omega)).2.2.1
  subst hspot
  obtain ⟨-, hp, c0, c1, c2, c3, c4⟩ := hr i (by omega)
  rw [Addr.add_lit] at c0 c1 c2 c3 c4
  exact ⟨hlt (.cell ab (ao + i * 5)) (by simp only [MemPlace.row, List.mem_map, List.mem_range]; exact ⟨i * 5, by omega, rfl⟩), c0, by simpa [Nat.add_assoc] using c1, by simpa [Nat.add_assoc] using c2, by simpa [Nat.add_assoc] using c3, by simpa [Nat.add_assoc] using c4, hp⟩
set_option maxRecDepth 100000 in
set_option maxHeartbeats 2000000 in
/-- A tree that is handed in: two numbers, its items, its blocks. -/
theorem open_quad {H : Type} {enc : TypeId × Value → H} {W : World} {base : Nat} {v : Value} {d : DataW H} {pl : List MemPlace} (ok : Value.okWide Try.prog W .any base 25 v) (h : DataW.Trod enc Try.prog W 0 (fun _ => true) true 25 v d pl) (hlt : ∀ x ∈ pl, x.block < W.heap.size) :
    ∃ (Q : QD) (m d : Int) (ao bo : Option Addr) (cap bcap A off : Nat) (so : Nat → Option Addr × Nat), v = .agg #[.int .i64 m, .int .i64 d, .slice ao Q.m cap, .slice bo Q.N bcap] ∧ Q.m ≤ 9223372036854775807 ∧ Q.N ≤ 9223372036854775807 ∧ (∀ i, i < Q.N → Q.L i ≤ 9223372036854775807) ∧ (0 < Q.N → bo = some ⟨A, off, none⟩) ∧ ItIn Q W ao (List.range Q.m) ∧ BlIn Q W A off so := by
  obtain ⟨cs, rfl, hsz⟩ := okWide_struct Try.underlying25 ok
  rw [Try.cellsQuad] at hsz
  obtain ⟨c0, c1, c2, c3, rfl⟩ : ∃ c0 c1 c2 c3, cs = #[c0, c1, c2, c3] := by
    obtain ⟨l⟩ := cs
    match l, hsz with
    | [c0, c1, c2, c3], _ => exact ⟨c0, c1, c2, c3, rfl⟩
  obtain ⟨fuel, hf⟩ := h
  simp only [Value.cells] at hf
  obtain ⟨y0, y1, y2, y3, k, hy, _, g0, g1, g2, g3⟩ := Go.Joins.trod_struct4 Try.underlying25 hf
  simp [Try.cellsInt64, Try.cellsItemS, Try.cellsBlockS] at g0 g1 g2 g3
  have hpl : pl = y0.2 ++ (y1.2 ++ (y2.2 ++ y3.2)) := by have := congrArg Prod.snd hy; simpa using this
  have hlt2 : ∀ x ∈ y2.2, x.block < W.heap.size := fun x hx => hlt x (by rw [hpl]; exact List.mem_append_right _ (List.mem_append_right _ (List.mem_append_left _ hx)))
  have hlt3 : ∀ x ∈ y3.2, x.block < W.heap.size := fun x hx => hlt x (by rw [hpl]; exact List.mem_append_right _ (List.mem_append_right _ (List.mem_append_right _ hx)))
  obtain ⟨m, hv, -, -⟩ := DataW.trod_int Try.underlying2 g0
  simp at hv
  subst hv
  obtain ⟨d, hv, -, -⟩ := DataW.trod_int Try.underlying2 g1
  simp at hv
  subst hv
  have HI : ∃ ao n cap, ∃ q : Nat → Int × Int × Int × Int × Int, c2 = .slice ao n cap ∧ n ≤ 9223372036854775807 ∧ ∀ i, i < n → ∃ A off, ao = some ⟨A, off, none⟩ ∧ A < W.heap.size ∧ W.cell? ⟨A, off + i * 5, none⟩ = some (.int .i64 (q i).1) ∧ W.cell? ⟨A, off + i * 5 + 1, none⟩ = some (.int .i64 (q i).2.1) ∧ W.cell? ⟨A, off + i * 5 + 2, none⟩ = some (.int .i64 (q i).2.2.1) ∧ W.cell? ⟨A, off + i * 5 + 3, none⟩ = some (.int .i64 (q i).2.2.2.1) ∧ W.cell? ⟨A, off + i * 5 + 4, none⟩ = some (.int .i64 (q i).2.2.2.2) := by
    rcases Go.Deep.open_slice Try.underlying22 g2 with ⟨hcs, hx⟩ | ⟨a, len', cap', m', n', D, Pl, hcs, _, hl, hm, hz, hx, hel⟩
    · simp at hcs
      subst hcs
      exact ⟨none, 0, 0, fun _ => (0, 0, 0, 0, 0), rfl, by omega, fun i hi => by omega⟩
    · simp at hcs
      subst hcs
      subst hx
      simp only [if_true] at hz
      obtain ⟨q, hq⟩ := items_of (len := len') (by omega) hel (fun y hy => hlt2 y (List.mem_append_left _ hy))
      exact ⟨some a, len', cap', q, rfl, by have := hm; simp [maxLen] at this; omega, hq⟩
  have HK : ∃ bo n cap A off, ∃ (q : Nat → Int × Int × Int × Bool) (S : Nat → Option Addr × Nat) (L : Nat → Nat) (E : Nat → Nat → Int), c3 = .slice bo n cap ∧ n ≤ 9223372036854775807 ∧ (0 < n → bo = some ⟨A, off, none⟩) ∧ (∀ i, i < n → L i ≤ 9223372036854775807) ∧ ∀ i, i < n → A < W.heap.size ∧ W.cell? ⟨A, off + i * 5, none⟩ = some (.int .i64 (q i).1) ∧ W.cell? ⟨A, off + i * 5 + 1, none⟩ = some (.int .i64 (q i).2.1) ∧ W.cell? ⟨A, off + i * 5 + 2, none⟩ = some (.int .i64 (q i).2.2.1) ∧ W.cell? ⟨A, off + i * 5 + 3, none⟩ = some (.bool (q i).2.2.2) ∧ W.cell? ⟨A, off + i * 5 + 4, none⟩ = some (.slice (S i).1 (L i) (S i).2) ∧ NoIn W (S i).1 (L i) (E i) := by
    rcases Go.Deep.open_slice Try.underlying23 g3 with ⟨hcs, hx⟩ | ⟨a, len', cap', m', n', D, Pl, hcs, _, hl, hm, hz, hx, hel⟩
    · simp at hcs
      subst hcs
      exact ⟨none, 0, 0, 0, 0, fun _ => (0, 0, 0, false), fun _ => (none, 0), fun _ => 0, fun _ _ => 0, rfl, by omega, fun h => by omega, fun i hi => by omega, fun i hi => by omega⟩
    · simp at hcs
      subst hcs
      subst hx
      simp only [if_true] at hz
      obtain ⟨A, off, q, S, L, E, h1, h2, h3⟩ := blocks_of (len := len') (by omega) hel (fun y hy => hlt3 y (List.mem_append_left _ hy)) (fun i hi y hy => hlt3 y (List.mem_append_right _ (List.mem_flatMap.2 ⟨i, List.mem_range.2 hi, hy⟩)))
      exact ⟨some a, len', cap', A, off, q, S, L, E, rfl, by have := hm; simp [maxLen] at this; omega, h1, h2, h3⟩
  obtain ⟨ao, n, cap, p, rfl, hn, hp⟩ := HI
  obtain ⟨bo, N, bcap, A, off, q, S, L, E, rfl, hN, hbo, hL, hq⟩ := HK
  refine ⟨⟨n, N, fun i => (p i).1, fun i => (p i).2, fun i => (q i).1, fun i => (q i).2.1, fun i => (q i).2.2.1, fun i => (q i).2.2.2, L, E⟩, m, d, ao, bo, cap, bcap, A, off, S, rfl, hn, hN, hL, hbo, fun j i hj => ?_, hq⟩
  have hjn : j < n := by have := (List.getElem?_eq_some_iff.1 hj).1; simpa using this
  have hji : j = i := by simpa [hjn] using hj
  subst hji
  exact hp j hjn
end Go.Proofs.Ytaagmdhbfbikfaa

/- What the row of a law asks of the program as a whole, each by itself. -/
namespace Go.Proofs.Ytaagmdhbfbikfaa
open Go.ChangeShapes Go.WideShapes Go.ChangeAt Go.RowKit Go.Joins
theorem jn_laid : laidOutB Try.pinned.checked.prog = true := by kernel_rfl
theorem jn_maps : mapsRowed Try.pinned.checked.prog = true := by kernel_rfl
theorem jn_enter : Try.pinned.checked.prog.mayEnter = true := by kernel_rfl
theorem jn_heard : Try.pinned.checked.prog.stopsHeard = true := by kernel_rfl
end Go.Proofs.Ytaagmdhbfbikfaa
