/- Part 6 of the walks that the proof leans on. -/
import Derived.Test.YtaagmdhbfbikfaaPart5
import Derived.Test.YtaagmdhbfbikfaaPart3
/- The program reads a block and all that is in it. -/
namespace Go.Proofs.Ytaagmdhbfbikfaa
open Go.RowKit
/-- The blocks of a tree lie behind an address, each with its numbers. -/
def BlIn (Q : QD) (w : World) (A off : Nat) (so : Nat → Option Addr × Nat) : Prop :=
  ∀ i, i < Q.N → A < w.heap.size ∧ w.cell? ⟨A, off + i * 5, none⟩ = some (.int .i64 (Q.X i)) ∧ w.cell? ⟨A, off + i * 5 + 1, none⟩ = some (.int .i64 (Q.Y i)) ∧ w.cell? ⟨A, off + i * 5 + 2, none⟩ = some (.int .i64 (Q.Z i)) ∧ w.cell? ⟨A, off + i * 5 + 3, none⟩ = some (.bool (Q.T i)) ∧ w.cell? ⟨A, off + i * 5 + 4, none⟩ = some (.slice (so i).1 (Q.L i) (so i).2) ∧ NoIn w (so i).1 (Q.L i) (Q.E i)
theorem BlIn.below {Q : QD} {w w' : World} {A off : Nat} {so : Nat → Option Addr × Nat} (h : BlIn Q w A off so) (hB : Below w.heap.size w w') : BlIn Q w' A off so := fun i hi => by
  obtain ⟨hA, c0, c1, c2, c3, c4, hN⟩ := h i hi
  exact ⟨Nat.lt_of_lt_of_le hA hB.size, (hB.cell (p := ⟨A, _, none⟩) hA).trans c0, (hB.cell (p := ⟨A, _, none⟩) hA).trans c1, (hB.cell (p := ⟨A, _, none⟩) hA).trans c2, (hB.cell (p := ⟨A, _, none⟩) hA).trans c3, (hB.cell (p := ⟨A, _, none⟩) hA).trans c4, hN.step hB⟩
/-- The row from place e on. -/
def RowAt (A off N cap e : Nat) (v : Value) : Prop := ∃ ad, v = .slice ad (N - e) (cap - e) ∧ (e < N → ad = some ⟨A, off + e * 5, none⟩)
theorem RowAt.next {A off N cap e : Nat} {v : Value} (h : RestV A (off + e * 5) (N - e) (cap - e) v) : RowAt A off N cap (e + 1) v := by
  obtain ⟨ad, h1, h2⟩ := h
  exact ⟨ad, by rw [h1, Nat.sub_sub, Nat.sub_sub], fun he => by rw [h2 (by omega), show off + e * 5 + 5 = off + (e + 1) * 5 by omega]⟩
def rdF (Q : QD) : Nat → Nat → Int → Int → Int → Option Nat
  | 0, _, _, _, _ => none
  | d + 1, at_, x, y, s => qrd Q d at_ x y s
theorem rdF_no {Q : QD} {f at_ : Nat} {x y s : Int} (h : baseB Q at_ x y s = false) : rdF Q f at_ x y s = none := by
  match f with
  | 0 => rfl
  | 1 =>
    show qrd Q 0 at_ x y s = none
    unfold qrd
    rw [if_neg (fun e => by rw [h] at e; cases e.1)]
  | d + 2 =>
    show qrd Q (d + 1) at_ x y s = none
    unfold qrd
    rw [if_neg (by rw [h]; decide)]
theorem rdF_leaf {Q : QD} {d at_ : Nat} {x y s : Int} (h : baseB Q at_ x y s = true) (hT : Q.T at_ = false) : rdF Q (d + 1) at_ x y s = if leafB Q at_ x y s = true then some (at_ + 1) else none := by
  match d with
  | 0 =>
    show qrd Q 0 at_ x y s = _
    unfold qrd
    by_cases e : leafB Q at_ x y s = true
    · rw [if_pos e, if_pos ⟨h, hT, e⟩]
    · rw [if_neg e, if_neg (fun k => e k.2.2)]
  | d + 1 =>
    show qrd Q (d + 1) at_ x y s = _
    unfold qrd
    rw [if_pos h, if_neg (by rw [hT]; decide)]
theorem rdF_split {Q : QD} {d at_ : Nat} {x y s : Int} (h : baseB Q at_ x y s = true) (hT : Q.T at_ = true) : rdF Q (d + 1) at_ x y s = if Q.L at_ = 0 then kp (fun a x y => rdF Q d a x y (s / 2)) (at_ + 1) x y (s / 2) 4 else none := by
  match d with
  | 0 =>
    have hk : kp (fun a x y => rdF Q 0 a x y (s / 2)) (at_ + 1) x y (s / 2) 4 = none := by
      show (kp (fun a x y => rdF Q 0 a x y (s / 2)) (at_ + 1) x y (s / 2) 3).bind (fun _ => none) = none
      cases kp (fun a x y => rdF Q 0 a x y (s / 2)) (at_ + 1) x y (s / 2) 3 <;> rfl
    rw [hk]
    show qrd Q 0 at_ x y s = _
    unfold qrd
    rw [if_neg (fun e => by rw [hT] at e; cases e.2.1)]
    split <;> rfl
  | d + 1 =>
    show qrd Q (d + 1) at_ x y s = _
    rw [show qrd Q (d + 1) at_ x y s = if baseB Q at_ x y s = true then (if Q.T at_ = true then (if Q.L at_ = 0 then kp (fun a x y => qrd Q d a x y (s / 2)) (at_ + 1) x y (s / 2) 4 else none) else if leafB Q at_ x y s = true then some (at_ + 1) else none) else none from rfl, if_pos h, if_pos hT]
    rfl
/-- What reading a block tells. -/
def ReadP (Q : QD) (f at_ : Nat) (x y s lv : Int) (A off cap g : Nat) (w : World) (r : Ending) (w' : World) : Prop :=
  ∃ v b, r = .returned (.tuple #[v, .bool b]) ∧ b = (rdF Q f at_ x y s).isSome ∧ (∀ e, rdF Q f at_ x y s = some e → e ≤ Q.N ∧ RowAt A off Q.N cap e v) ∧ w.grownBy w' (some g) ∧ ∀ e, rdF Q f at_ x y s = some e → PTr (okB g w.heap.size) w' (trQ Q (f - 1) at_ x y s) x y s lv g
theorem trQ_leafQ {Q : QD} {d at_ : Nat} {x y s : Int} (hT : Q.T at_ = false) : trQ Q d at_ x y s = .leaf (blL Q at_) := by
  cases d with
  | zero => rfl
  | succ d => unfold trQ; rw [if_neg (by rw [hT]; decide)]
theorem idL_len (Q : QD) (l : List Nat) : (idL Q l).length = l.length := by simp [idL]
theorem kp_prev {f : Nat → Int → Int → Option Nat} {at_ : Nat} {x y h : Int} : ∀ (j k e : Nat), kp f at_ x y h (k + j) = some e → ∃ a, kp f at_ x y h k = some a
  | 0, k, e, h0 => ⟨e, h0⟩
  | j + 1, k, e, h0 => by
    obtain ⟨b, h1, _⟩ := Option.bind_eq_some_iff.1 (show (kp f at_ x y h (k + j)).bind _ = some e from h0)
    exact kp_prev j k b h1
/-- The tree of a kid. -/
def kidT (Q : QD) (d at_ : Nat) (x y hf : Int) (j : Nat) : QT := trQ Q (d - 1) ((kp (fun a x y => rdF Q d a x y hf) (at_ + 1) x y hf j).getD 0) (kX x hf j) (kY y hf j) hf
theorem trQ_nodeQ {Q : QD} {d at_ : Nat} {x y s : Int} {e : Nat} (hT : Q.T at_ = true) (h : kp (fun a x y => rdF Q d a x y (s / 2)) (at_ + 1) x y (s / 2) 4 = some e) : ∃ K, trQ Q d at_ x y s = .node K ∧ ∀ k, k < 4 → K k = kidT Q d at_ x y (s / 2) k := by
  cases d with
  | zero =>
    obtain ⟨a, h1⟩ := kp_prev 3 1 e h
    obtain ⟨b, _, h2⟩ := Option.bind_eq_some_iff.1 (show (kp (fun a x y => rdF Q 0 a x y (s / 2)) (at_ + 1) x y (s / 2) 0).bind _ = some a from h1)
    cases h2
  | succ d =>
    refine ⟨_, by unfold trQ; rw [if_pos hT], fun k hk => ?_⟩
    obtain ⟨a, h1⟩ := kp_prev (4 - k) k e (by rw [show k + (4 - k) = 4 by omega]; exact h)
    unfold kidT
    rw [h1]
    have h2 := ((kp_both (f := fun a x y => qrd Q d a x y (s / 2)) (g := fun a x y => mrd Q d a x y (s / 2)) (r := fun a x y => rtB Q d a x y (s / 2)) (fun a x y e => qrd_both Q d a x y (s / 2) e) (at_ + 1) x y (s / 2) k a).1 h1).1
    try dsimp only
    rw [h2]
    rfl
theorem ItIn.grown {Q : QD} {w w' : World} {ao : Option Addr} {l : List Nat} {g : Nat} (h : ItIn Q w ao l) (hg : w.grownBy w' (some g)) (hne : ∀ A o sp, ao = some ⟨A, o, sp⟩ → A ≠ g) : ItIn Q w' ao l := fun j i hj => by
  obtain ⟨A, o, e, hA, c0, c1, c2, c3, c4⟩ := h j i hj
  have hb : ∀ k, w'.cell? ⟨A, k, none⟩ = w.cell? ⟨A, k, none⟩ := fun k => World.cell?_of_block (w := w) (a := ⟨A, k, none⟩) (hg.block A hA (fun e2 => hne A o none e (Option.some.inj e2)))
  exact ⟨A, o, e, Nat.lt_of_lt_of_le hA hg.size, (hb _).trans c0, (hb _).trans c1, (hb _).trans c2, (hb _).trans c3, (hb _).trans c4⟩
theorem grown_below {wb w w' : World} {g : Nat} (hB : Below wb.heap.size wb w) (hg : w.grownBy w' (some g)) (hgb : wb.heap.size ≤ g) : Below wb.heap.size wb w' := hB.grown hg hB.size (fun k hk => by have := Option.some.inj hk; omega)
theorem grown_trans {w w1 w2 : World} {row : Option Nat} (h : w.grownBy w1 row) (k : w1.grownBy w2 row) : w.grownBy w2 row :=
  ⟨k.os.trans h.os, k.tape.trans h.tape, k.output.trans h.output, Nat.le_trans h.size k.size, fun j hj hne => (k.block j (Nat.lt_of_lt_of_le hj h.size) hne).trans (h.block j hj hne)⟩
theorem grown_of {w w1 : World} (hB : Below w.heap.size w w1) (row : Option Nat) : w.grownBy w1 row := ⟨hB.os, hB.tape, hB.output, hB.size, fun k hk _ => hB.block k hk⟩
/-- A new block turned, seen from before it was laid: nothing turned. -/
theorem grown_new {w w1 w2 : World} {row : Option Nat} {k : Nat} (h : w.grownBy w1 row) (hk : w.heap.size ≤ k) (h2 : w1.grownBy w2 (some k)) : w.grownBy w2 row :=
  ⟨h2.os.trans h.os, h2.tape.trans h.tape, h2.output.trans h.output, Nat.le_trans h.size h2.size, fun j hj hne => (h2.block j (Nat.lt_of_lt_of_le hj h.size) (fun e => by have := Option.some.inj e; omega)).trans (h.block j hj hne)⟩
theorem eqSpR (x y u v : Int) (w : World) : (Op.equalIn 10000 42 (.agg #[.int .i64 x, .int .i64 y]) (.agg #[.int .i64 u, .int .i64 v])).run Try.prog w = .ok (decide (x = u) && decide (y = v)) w := by
  have u3 := Try.underlying2
  have a3 := Try.isAgg2
  have z3 := Try.sizeOf2
  rw [show (10000 : Nat) = 9999 + 1 from rfl, Op.equalIn]
  simp only [Sem.run_bind, run_underlying Try.underlying42, Result.andThen_ok]
  go_simp
  by_cases h3 : x = u
  · subst h3
    by_cases h2 : y = v
    · subst h2
      simp
    · simp [h2]
  · simp [h3]
set_option maxRecDepth 100000 in
set_option maxHeartbeats 16000000 in
theorem read_any (Q : QD) (D A off cap : Nat) (so : Nat → Option Addr × Nat) (wb : World) (hN : Q.N ≤ 1048576) (hcap : Q.N ≤ cap) (hD : D ≤ 8) (hBl : BlIn Q wb A off so) (hLb : ∀ i, i < Q.N → Q.L i ≤ 1048576) (h6 : Its6 Q (List.range Q.m)) (hm : Q.m ≤ 1048576) : ∀ (f g : Nat) (x y s lv : Int) (at_ : Nat) (rv : Value) (io : Option Addr) (ic : Nat) (its : List Nat) (w : World), lv + (f : Int) = (D : Int) + 1 → 0 ≤ lv → Sq x y s → BkB w g x y s lv (.slice none 0 0) (.slice none 0 0) → wb.heap.size ≤ g → Below wb.heap.size wb w → RowAt A off Q.N cap at_ rv → ItIn Q w io its → (∀ A o sp, io = some ⟨A, o, sp⟩ → A ≠ g) → (∀ i ∈ its, i < Q.m) → its.length ≤ 1048576 → flQ Q its x y s = flQ Q (List.range Q.m) x y s → Calls Try.prog 50 #[.pointer (some ⟨g, 0, none⟩), rv, .slice io its.length ic, .int .i64 (D : Int)] w (ReadP Q f at_ x y s lv A off cap g w) := by
  intro f
  induction f with
  | zero =>
    intro g x y s lv at_ rv io ic its w hlv hl0 hq B0 hgb HB hrow hS hio hit hil hfl
    obtain ⟨ad, rfl, had⟩ := hrow
    have hlvI : (D : Int) < lv := by omega
    have m3 := B0.c 3 rfl
    by_cases hat : at_ < Q.N
    · obtain ⟨n1, hn1⟩ : ∃ n1, Q.N - at_ = n1 := ⟨_, rfl⟩
      rw [hn1]
      have HN1 : Hid (Q.N - at_ = n1) := hn1
      have h1 : ¬ (n1 : Int) = 0 := by omega
      have h1e : ((n1 : Int) == 0) = false := by simpa using h1
      have h1b : 0 < n1 := by omega
      have h1c : n1 ≤ cap - at_ := by omega
      have h1d : n1 ≤ 1048576 := by omega
      clear hn1
      go_enter Try.func50, Try.ntmps50
      clear hS hBl
      go_wp2
      refine bodyPost_ret (v := .tuple #[.slice none 0 0, .bool false]) (by simp [results, Try.results50, go_sem]) rfl ?_
      exact ⟨_, _, rfl, rfl, fun e he => (by cases he), grown_of (Below.refl _ _) _, fun e he => (by cases he)⟩
    · have h1 : Q.N - at_ = 0 := by omega
      rw [h1]
      go_enter Try.func50, Try.ntmps50
      clear hS hBl
      go_wp2
      refine bodyPost_ret (v := .tuple #[.slice none 0 0, .bool false]) (by simp [results, Try.results50, go_sem]) rfl ?_
      exact ⟨_, _, rfl, rfl, fun e he => (by cases he), grown_of (Below.refl _ _) _, fun e he => (by cases he)⟩
  | succ d ih =>
    intro g x y s lv at_ rv io ic its w hlv hl0 hq B0 hgb HB hrow hS hio hit hil hfl
    obtain ⟨ad, rfl, had⟩ := hrow
    have hlvI : lv ≤ (D : Int) := by omega
    have hlvJ : ¬ ((D : Int) < lv) := by omega
    have m3 := B0.c 3 rfl
    by_cases hat : at_ < Q.N
    · obtain ⟨n1, hn1⟩ : ∃ n1, Q.N - at_ = n1 := ⟨_, rfl⟩
      rw [hn1]
      have HN1 : Hid (Q.N - at_ = n1) := hn1
      have h1 : ¬ (n1 : Int) = 0 := by omega
      have h1e : ((n1 : Int) == 0) = false := by simpa using h1
      have h1b : 0 < n1 := by omega
      have h1c : n1 ≤ cap - at_ := by omega
      have h1d : n1 ≤ 1048576 := by omega
      clear hn1
      obtain rfl := had hat
      obtain ⟨hA, c0, c1, c2, c3, c4, hNo⟩ := hBl.below HB at_ hat
      have hgl := B0.lt
      go_enter Try.func50, Try.ntmps50
      go_upto_region 3 with fail
      refine qrA (A := A) (ra := off + at_ * 5) (n := n1) (ca := cap - at_) (bx := Q.X at_) (by_ := Q.Y at_) (bz := Q.Z at_) (bt := Q.T at_) (bo := (so at_).1) (bl := Q.L at_) (bc := (so at_).2) (Wd := w.drew) h1b h1c h1d (Nat.le_refl _) rfl rfl c0 hA c1 hA c2 hA c3 hA c4 hA rfl ?_
      rintro ⟨tm, df⟩ Wz hz hdf hoff h10 h11 hBz hWz
      simp only at hz hdf hoff h10
      change tm.getD 10 undef = .pointer (some ⟨w.heap.size, 0, none⟩) at h10
      change RestV A (off + at_ * 5) n1 (cap - at_) (tm.getD 11 undef) at h11
      rw [← HN1.out] at h11
      replace h11 := RowAt.next h11
      subst hdf
      generalize hr1 : tm.getD 11 undef = rv1 at h11
      have htm := tmps_fold [27, 28, 29, 30, 31, 10, 11] tm _ hz hoff
      simp only [List.foldl, List.setIfInBounds_toArray, List.set_cons_zero, List.set_cons_succ, h10, hr1] at htm
      clear hz hoff
      generalize tm.getD 27 undef = pz0, tm.getD 28 undef = pz1, tm.getD 29 undef = pz2, tm.getD 30 undef = pz3, tm.getD 31 undef = pz4 at htm
      clear h10 hr1
      subst htm
      have C0 : Blk Wz w.heap.size [.int .i64 (Q.X at_), .int .i64 (Q.Y at_), .int .i64 (Q.Z at_), .bool (Q.T at_), .slice (so at_).1 (Q.L at_) (so at_).2] := by
        rw [hWz]
        exact (((((Blk.new w.drew [.int .i64 0, .int .i64 0, .int .i64 0, .bool false, .slice none 0 0] 95 rfl).setI 0 (by decide) (.int .i64 (Q.X at_))).setI 1 (by simp) (.int .i64 (Q.Y at_))).setI 2 (by simp) (.int .i64 (Q.Z at_))).setI 3 (by simp) (.bool (Q.T at_))).setI 4 (by simp) (.slice (so at_).1 (Q.L at_) (so at_).2)
      clear hWz c0 c1 c2 c3 c4 m3
      replace B0 := B0.step hBz
      replace HB := HB.trans (hBz.mono HB.size)
      replace hS := hS.step hBz
      have HG : w.grownBy Wz (some g) := grown_of hBz _
      have hwz := hBz.size
      clear hBz
      have hCl := C0.lt
      have hgz := B0.lt
      go_upto_region 4 with fail
      by_cases hxy : Q.X at_ = x ∧ Q.Y at_ = y
      · obtain ⟨hx1, hy1⟩ := hxy
        refine qrC (F := w.heap.size) (g := g) (bx := Q.X at_) (by_ := Q.Y at_) (bz := Q.Z at_) (x := x) (y := y) (s := s) (fun w => by rw [eqSpR, hx1, hy1]; simp) rfl rfl (C0.c 0 rfl) hCl (C0.c 1 rfl) hCl (B0.c 0 rfl) hgz (B0.c 1 rfl) hgz (C0.c 2 rfl) hCl (B0.c 2 rfl) hgz rfl ?_
        rintro ⟨tm, df⟩ Wy hz hdf hoff hx hBy
        simp only at hz hdf hoff hx
        change tm.getD 50 undef = .bool (decide (¬ (Q.Z at_ = s))) at hx
        subst hdf
        have htm := tmps_fold [32, 33, 34, 35, 36, 37, 38, 39, 40, 41, 42, 43, 44, 45, 46, 47, 48, 49, 50] tm _ hz hoff
        simp only [List.foldl, List.setIfInBounds_toArray, List.set_cons_zero, List.set_cons_succ, hx] at htm
        clear hz hoff
        generalize tm.getD 32 undef = py0, tm.getD 33 undef = py1, tm.getD 34 undef = py2, tm.getD 35 undef = py3, tm.getD 36 undef = py4, tm.getD 37 undef = py5, tm.getD 38 undef = py6, tm.getD 39 undef = py7, tm.getD 40 undef = py8, tm.getD 41 undef = py9, tm.getD 42 undef = py10, tm.getD 43 undef = py11, tm.getD 44 undef = py12, tm.getD 45 undef = py13, tm.getD 46 undef = py14, tm.getD 47 undef = py15, tm.getD 48 undef = py16, tm.getD 49 undef = py17 at htm
        clear hx
        subst htm
        replace HG := grown_trans HG (grown_of hBy _)
        replace C0 := C0.step hBy
        replace B0 := B0.step hBy
        replace hS := hS.step hBy
        replace HB := HB.trans (hBy.mono HB.size)
        have hwy : w.heap.size < Wy.heap.size := C0.lt
        clear hBy
        have h6i : Its6 Q its := fun i hi => h6 i (List.mem_range.2 (hit i hi))
        by_cases hzs : Q.Z at_ = s
        · rw [decide_eq_false (fun h => h hzs)]
          have hbase : baseB Q at_ x y s = true := decide_eq_true ⟨hat, hx1, hy1, hzs⟩
          have t3 := C0.c 3 rfl
          have HBL : Hid (BlIn Q wb A off so) := hBl
          clear hBl hNo
          cases hT : Q.T at_ with
          | false =>
            rw [hT] at t3
            have FL := fill_any Q g x y s lv _ _ io ic its hq h6i hil Wy B0 hS
            rw [hfl] at FL
            clear hS B0
            go_wp2_with fail
            refine FL.mono ?_
            rintro r w2 ⟨rfl, v2, B2, ⟨ao2, c2, rfl, hN2, hz2, hlt2⟩, HG2⟩
            have PT2 : PTr (okB g w.heap.size) w2 (.leaf (idL Q (flQ Q (List.range Q.m) x y s))) x y s lv g := ⟨.inl rfl, _, B2, ao2, c2, by rw [idL_len], by rw [idL_len]; exact hN2, hz2, fun A o sp e => ⟨.inr (by have := (hlt2 A o sp e).1; omega), (hlt2 A o sp e).2⟩⟩
            clear FL t3
            have C2 := C0.grown HG2 (fun e => by have := Option.some.inj e; omega)
            have HB2 := grown_below HB HG2 hgb
            have hNo2 := (HBL.out.below HB2 at_ hat).2.2.2.2.2.2
            replace HG := grown_trans HG HG2
            clear C0 HB HG2
            go_upto_region 8 with fail
            refine qrD (F := w.heap.size) (g := g) (n := Q.L at_) (ca := (so at_).2) (m := (flQ Q (List.range Q.m) x y s).length) (cb := c2) (ao := (so at_).1) (co := ao2) (ef := Q.E at_) (ff := fun j => (idL Q (flQ Q (List.range Q.m) x y s)).getD j 0) (rv := rv1) (hLb at_ hat) hNo2 hN2 rfl rfl rfl (C2.c 4 rfl) C2.lt (B2.c 4 rfl) B2.lt rfl ?_
            rintro ⟨tm, df⟩ Wx hz hdf hoff h8 h9 hBx
            simp only at hz hdf hoff h8 h9
            change tm.getD 8 undef = rv1 at h8
            change tm.getD 9 undef = .bool (decide (Q.L at_ = (flQ Q (List.range Q.m) x y s).length ∧ ∀ i, i < Q.L at_ → Q.E at_ i = (idL Q (flQ Q (List.range Q.m) x y s)).getD i 0)) at h9
            rw [leaf_eq] at h9
            subst hdf
            have htm := tmps_fold [57, 58, 59, 60, 61, 62, 63, 64, 8, 9] tm _ hz hoff
            simp only [List.foldl, List.setIfInBounds_toArray, List.set_cons_zero, List.set_cons_succ, h8, h9] at htm
            clear hz hoff
            generalize tm.getD 57 undef = px0, tm.getD 58 undef = px1, tm.getD 59 undef = px2, tm.getD 60 undef = px3, tm.getD 61 undef = px4, tm.getD 62 undef = px5, tm.getD 63 undef = px6, tm.getD 64 undef = px7 at htm
            clear h8 h9
            subst htm
            replace HG := grown_trans HG (grown_of hBx _)
            have HL := rdF_leaf (d := d) hbase hT
            have HPT : Hid (PTr (okB g w.heap.size) Wx (.leaf (idL Q (flQ Q (List.range Q.m) x y s))) x y s lv g) := PT2.step hBx
            have h11' : Hid (RowAt A off Q.N cap (at_ + 1) rv1) := h11
            clear hBx C2 B2 HB2 hNo2 hN2 h11 hlt2 PT2
            go_wp2
            refine bodyPost_ret (v := .tuple #[rv1, .bool (leafB Q at_ x y s)]) (by simp [results, Try.results50, go_sem]) rfl ?_
            refine ⟨_, _, rfl, ?_, fun e he => ?_, HG, fun e he => ?_⟩
            · rw [HL]; cases leafB Q at_ x y s <;> rfl
            · rw [HL] at he
              split at he
              · cases he; exact ⟨hat, h11'.out⟩
              · cases he
            · rw [HL] at he
              split at he
              · rename_i hlf
                rw [trQ_leafQ hT, show blL Q at_ = idL Q (flQ Q (List.range Q.m) x y s) from of_decide_eq_true hlf]
                exact HPT.out
              · cases he
          | true =>
            rw [hT] at t3
            have QT := quarters_any g x y s lv _ _ hq hl0 (by omega) Wy B0
            obtain ⟨hf, hhf⟩ : ∃ hf, s / 2 = hf := ⟨_, rfl⟩
            rw [hhf] at QT
            go_wp2_with fail
            refine QT.mono ?_
            rintro r w2 ⟨kv, gs, rfl, HK, hB2⟩
            clear QT t3
            replace C0 := C0.step hB2
            replace B0 := B0.step hB2
            replace hS := hS.step hB2
            replace HB := HB.trans (hB2.mono HB.size)
            replace HG := grown_trans HG (grown_of hB2 _)
            have hwy2 := hB2.size
            clear hB2
            obtain ⟨kb, kc, hkv, hkb0, hkb1⟩ : ∃ kb kc, kv = .slice (some ⟨kb, 0, none⟩) 4 kc ∧ Wy.heap.size ≤ kb ∧ kb < w2.heap.size := by
              rcases HK.own.2 with ⟨_, e⟩ | ⟨b, c, cur, e, hb, hg2, _⟩
              · cases e
              · exact ⟨b, c, e, hb, (Array.getElem?_eq_some_iff.1 hg2).1⟩
            subst hkv
            have hgw : g < w.heap.size := hgl
            have y5 := B0.c 5 rfl; have f5 := B0.f 5 rfl
            have B3 : BkB (w2.setCell ⟨g, 5, none⟩ (.slice (some ⟨kb, 0, none⟩) 4 kc)) g x y s lv (.slice none 0 0) (.slice (some ⟨kb, 0, none⟩) 4 kc) := B0.setI 5 (by simp) (.slice (some ⟨kb, 0, none⟩) 4 kc)
            have HG3 : w2.grownBy (w2.setCell ⟨g, 5, none⟩ (.slice (some ⟨kb, 0, none⟩) 4 kc)) (some g) := grown_set (Below.refl _ _) 5 _
            have C3 := C0.grown HG3 (fun e => by have := Option.some.inj e; omega)
            have hS3 := hS.grown HG3 hio
            have HB3 := grown_below HB HG3 hgb
            have KD : ∀ j, j < 4 → Wy.heap.size ≤ gs j ∧ gs j < w2.heap.size ∧ BkB (w2.setCell ⟨g, 5, none⟩ (.slice (some ⟨kb, 0, none⟩) 4 kc)) (gs j) (kX x hf j) (kY y hf j) hf (lv + 1) (.slice none 0 0) (.slice none 0 0) := fun j hj => ⟨(HK.kid j hj).1, (HK.kid j hj).2.lt, (HK.kid j hj).2.grown HG3 (fun e => by have := Option.some.inj e; have := (HK.kid j hj).1; omega)⟩
            have KC : ∀ j, j < 4 → (w2.setCell ⟨g, 5, none⟩ (.slice (some ⟨kb, 0, none⟩) 4 kc)).cell? ⟨kb, j, none⟩ = some (.pointer (some ⟨gs j, 0, none⟩)) := fun j hj => by
              have h := HK.own.cells rfl j (.pointer (some ⟨gs j, 0, none⟩)) (by unfold gpL; simp [hj])
              rw [Addr.add_lit, Nat.zero_add] at h
              rw [← h]
              exact World.cell?_of_block (w := w2) (a := ⟨kb, j, none⟩) (HG3.block kb hkb1 (fun e => by have := Option.some.inj e; omega))
            have KN : ∀ j, j < 4 → gs j ≠ kb := fun j hj e => HK.d1 j hj (by rw [e]; rfl)
            have KD2 : ∀ i j, i < 4 → j < 4 → i ≠ j → gs i ≠ gs j := HK.d2
            replace HG := grown_trans HG HG3
            have hs3 : (w2.setCell ⟨g, 5, none⟩ (.slice (some ⟨kb, 0, none⟩) 4 kc)).heap.size = w2.heap.size := by simp [World.setCell]
            clear B0 C0 hS HB HK HG3
            go_upto_region 10 with fail
            clear y5 f5
            generalize (w2.setCell ⟨g, 5, none⟩ (.slice (some ⟨kb, 0, none⟩) 4 kc)) = w3 at *
            have MT := meeting_any Q g x y s lv _ _ io ic its hq h6i hil w3 B3 hS3
            go_wp2_with fail
            refine MT.mono ?_
            rintro r w4 ⟨iv, rfl, HI, hB4⟩
            clear MT hS3
            rw [hfl] at HI
            obtain ⟨io2, ic2, rfl, hI⟩ := ItIn.of HI
            have hio2 : ∀ A o sp, io2 = some ⟨A, o, sp⟩ → w3.heap.size ≤ A := fun A o sp e => (HI.lt A (by rw [e]; rfl)).1
            replace B3 := B3.step hB4
            replace C3 := C3.step hB4
            replace HB3 := HB3.trans (hB4.mono HB3.size)
            replace HG := grown_trans HG (grown_of hB4 _)
            have KD4 : ∀ j, j < 4 → BkB w4 (gs j) (kX x hf j) (kY y hf j) hf (lv + 1) (.slice none 0 0) (.slice none 0 0) := fun j hj => (KD j hj).2.2.step hB4
            have KG : ∀ j, j < 4 → Wy.heap.size ≤ gs j ∧ gs j < w2.heap.size := fun j hj => ⟨(KD j hj).1, (KD j hj).2.1⟩
            have KC4 : ∀ j, j < 4 → w4.cell? ⟨kb, j, none⟩ = some (.pointer (some ⟨gs j, 0, none⟩)) := fun j hj => (hB4.cell (p := ⟨kb, j, none⟩) (by show kb < w3.heap.size; omega)).trans (KC j hj)
            have hkb4 : kb < w4.heap.size := by have := hB4.size; omega
            have hw42 : w2.heap.size ≤ w4.heap.size := by have := hB4.size; omega
            clear KD KC HI hB4
            have z4 := C3.c 4 rfl
            have b5 := B3.c 5 rfl
            have hLI : (Q.L at_ : Int) ≤ 1048576 := by have := hLb at_ hat; omega
            generalize hinl : flQ Q (List.range Q.m) x y s = inl at hI ⊢
            have HIN : Hid (flQ Q (List.range Q.m) x y s = inl) := hinl
            clear hinl hfl
            go_wp2_with fail
            go_loopw [11, 13, 82] (fun rr okv i wr => ∃ (k : Nat) (b : Bool), k ≤ 4 ∧ i = .int .i64 k ∧ okv = .bool b ∧ b = (decide (Q.L at_ = 0) && (kp (fun a x y => rdF Q d a x y hf) (at_ + 1) x y hf k).isSome) ∧ (∀ e, kp (fun a x y => rdF Q d a x y hf) (at_ + 1) x y hf k = some e → Q.L at_ = 0 → e ≤ Q.N ∧ RowAt A off Q.N cap e rr) ∧ (∀ j, k ≤ j → j < 4 → BkB wr (gs j) (kX x hf j) (kY y hf j) hf (lv + 1) (.slice none 0 0) (.slice none 0 0)) ∧ (∀ j, j < 4 → wr.cell? ⟨kb, j, none⟩ = some (.pointer (some ⟨gs j, 0, none⟩))) ∧ kb < wr.heap.size ∧ ItIn Q wr io2 inl ∧ w.grownBy wr (some g) ∧ Below wb.heap.size wb wr ∧ BkB wr g x y s lv (.slice none 0 0) (.slice (some ⟨kb, 0, none⟩) 4 kc) ∧ w4.heap.size ≤ wr.heap.size ∧ ∀ e, kp (fun a x y => rdF Q d a x y hf) (at_ + 1) x y hf k = some e → Q.L at_ = 0 → ∀ j, j < k → PTr (okB (gs j) w4.heap.size) wr (kidT Q d at_ x y hf j) (kX x hf j) (kY y hf j) hf (lv + 1) (gs j)) (fun _ _ i _ => 4 - (intOf i).toNat)
            case atStart =>
              refine ⟨0, decide (Q.L at_ = 0), by omega, rfl, ?_, by simp [kp], fun e he _ => ?_, fun j _ hj => KD4 j hj, KC4, hkb4, hI, HG, HB3, B3, Nat.le_refl _, fun e _ _ j hj => absurd hj (by omega)⟩
              · first | rfl | (congr 1; rw [Bool.eq_iff_iff]; simp)
              · cases he; exact ⟨hat, h11⟩
            case round =>
              clear KD4 KC4 hkb4 hI HG HB3 B3 C3 z4 b5 h11
              obtain ⟨k, b, hk, rfl, rfl, hb, hrw, KDk, KCk, hkbk, hIk, HGk, HBk, B3k, hw4k, PTk⟩ := hrel
              have HPTk : Hid (∀ e, kp (fun a x y => rdF Q d a x y hf) (at_ + 1) x y hf k = some e → Q.L at_ = 0 → ∀ j, j < k → PTr (okB (gs j) w4.heap.size) wr (kidT Q d at_ x y hf j) (kX x hf j) (kY y hf j) hf (lv + 1) (gs j)) := PTk
              clear PTk
              by_cases hk4 : k < 4
              · have hkI : (k : Int) < 4 := by omega
                have ck := KCk k hk4
                have hkg := KG k hk4
                cases b with
                | false =>
                  have hkn : Q.L at_ = 0 → kp (fun a x y => rdF Q d a x y hf) (at_ + 1) x y hf (k + 1) = none := fun e => by
                    rw [decide_eq_true e, Bool.true_and] at hb
                    show (kp (fun a x y => rdF Q d a x y hf) (at_ + 1) x y hf k).bind _ = none
                    cases h : kp (fun a x y => rdF Q d a x y hf) (at_ + 1) x y hf k with
                    | none => rfl
                    | some e0 => rw [h] at hb; cases hb
                  have HbN : Hid (false = (decide (Q.L at_ = 0) && (kp (fun a x y => rdF Q d a x y hf) (at_ + 1) x y hf (k + 1)).isSome)) := by
                    show _ = _
                    by_cases e : Q.L at_ = 0
                    · rw [hkn e]; simp
                    · rw [decide_eq_false e]; rfl
                  have HrN : Hid (∀ e, kp (fun a x y => rdF Q d a x y hf) (at_ + 1) x y hf (k + 1) = some e → Q.L at_ = 0 → e ≤ Q.N ∧ RowAt A off Q.N cap e u11) := fun e he hl => by rw [hkn hl] at he; cases he
                  have KDN : Hid (∀ j, k + 1 ≤ j → j < 4 → BkB wr (gs j) (kX x hf j) (kY y hf j) hf (lv + 1) (.slice none 0 0) (.slice none 0 0)) := fun j h1 h2 => KDk j (by omega) h2
                  have HK2 : Hid (∀ j, j < 4 → wr.cell? ⟨kb, j, none⟩ = some (.pointer (some ⟨gs j, 0, none⟩))) := KCk
                  have HPN : Hid (∀ e, kp (fun a x y => rdF Q d a x y hf) (at_ + 1) x y hf (k + 1) = some e → Q.L at_ = 0 → ∀ j, j < k + 1 → PTr (okB (gs j) w4.heap.size) wr (kidT Q d at_ x y hf j) (kX x hf j) (kY y hf j) hf (lv + 1) (gs j)) := fun e he hl => by rw [hkn hl] at he; cases he
                  clear hkn hb hrw KDk KCk ih KD2 KN KG
                  go_wp2
                  go_roundw
                  case rel => exact ⟨k + 1, false, by omega, by go_num, rfl, HbN.out, HrN.out, KDN.out, HK2.out, hkbk, hIk, HGk, HBk, B3k, hw4k, HPN.out⟩
                  case measure => simp [intOf]; omega
                | true =>
                  have hL0 : Hid (Q.L at_ = 0) := by
                    show _ = _
                    apply Classical.byContradiction
                    intro e
                    rw [decide_eq_false e] at hb
                    cases hb
                  obtain ⟨e0, he0⟩ : ∃ e, kp (fun a x y => rdF Q d a x y hf) (at_ + 1) x y hf k = some e := by
                    cases h : kp (fun a x y => rdF Q d a x y hf) (at_ + 1) x y hf k with
                    | none => rw [h, decide_eq_true hL0.out] at hb; cases hb
                    | some e => exact ⟨e, rfl⟩
                  obtain ⟨_, hrow0⟩ := hrw e0 he0 hL0.out
                  have hkp : kp (fun a x y => rdF Q d a x y hf) (at_ + 1) x y hf (k + 1) = rdF Q d e0 (kX x hf k) (kY y hf k) hf := by show (kp (fun a x y => rdF Q d a x y hf) (at_ + 1) x y hf k).bind _ = _; rw [he0]; rfl
                  have hsq : Sq (kX x hf k) (kY y hf k) hf := by
                    have q1 := hq.x1; have q2 := hq.y1; have q3 := hq.s1; have q4 := hq.x2; have q5 := hq.y2
                    have hi := kid_in (x := x) (y := y) hq.s1 hk4
                    rw [hhf] at hi
                    exact ⟨by omega, by omega, by omega, by omega, by omega⟩
                  have hiog : ∀ A o sp, io2 = some ⟨A, o, sp⟩ → A ≠ gs k := fun A o sp e => by have := hio2 A o sp e; omega
                  have RD := ih (gs k) (kX x hf k) (kY y hf k) hf (lv + 1) e0 u11 io2 ic2 inl wr (by omega) (by omega) hsq (KDk k (Nat.le_refl _) hk4) (by omega) HBk hrow0 hIk hiog (fun i hi => by
                    rw [← HIN.out] at hi
                    exact List.mem_range.1 (List.mem_filter.1 hi).1) (by
                    rw [← HIN.out]
                    exact Nat.le_trans (List.length_filter_le _ _) (by rw [List.length_range]; exact hm)) (by
                    rw [← HIN.out, ← hhf]
                    exact fl_kid hq.s1 hk4 _)
                  have HKD : Hid (∀ j, k ≤ j → j < 4 → BkB wr (gs j) (kX x hf j) (kY y hf j) hf (lv + 1) (.slice none 0 0) (.slice none 0 0)) := KDk
                  have HKC : Hid (∀ j, j < 4 → wr.cell? ⟨kb, j, none⟩ = some (.pointer (some ⟨gs j, 0, none⟩))) := KCk
                  have HKN : Hid (∀ j, j < 4 → gs j ≠ kb) := KN
                  have HKD2 : Hid (∀ i j, i < 4 → j < 4 → i ≠ j → gs i ≠ gs j) := KD2
                  have HKG : Hid (∀ j, j < 4 → Wy.heap.size ≤ gs j ∧ gs j < w2.heap.size) := KG
                  clear hb hrw KDk KCk ih KD2 KN KG
                  go_wp2_with fail
                  refine RD.mono ?_
                  rintro r w5 ⟨v5, b5', rfl, hb5, hr5, HGr, hpt5⟩
                  have KDN : Hid (∀ j, k + 1 ≤ j → j < 4 → BkB w5 (gs j) (kX x hf j) (kY y hf j) hf (lv + 1) (.slice none 0 0) (.slice none 0 0)) := fun j h1 h2 => (HKD.out j (by omega) h2).grown HGr (fun e => HKD2.out j k h2 hk4 (by omega) (Option.some.inj e))
                  have KCN : Hid (∀ j, j < 4 → w5.cell? ⟨kb, j, none⟩ = some (.pointer (some ⟨gs j, 0, none⟩))) := fun j hj => (World.cell?_of_block (w := wr) (a := ⟨kb, j, none⟩) (HGr.block kb hkbk (fun e => HKN.out k hk4 (Option.some.inj e).symm))).trans (HKC.out j hj)
                  have hIN := hIk.grown HGr hiog
                  have HGN : w.grownBy w5 (some g) := grown_new HGk (by omega) HGr
                  have HBN := grown_below HBk HGr (by omega)
                  have hkbN := Nat.lt_of_lt_of_le hkbk HGr.size
                  have HbN : Hid (b5' = (decide (Q.L at_ = 0) && (kp (fun a x y => rdF Q d a x y hf) (at_ + 1) x y hf (k + 1)).isSome)) := by show _ = _; rw [hkp, decide_eq_true hL0.out, Bool.true_and]; exact hb5
                  have HrN : Hid (∀ e, kp (fun a x y => rdF Q d a x y hf) (at_ + 1) x y hf (k + 1) = some e → Q.L at_ = 0 → e ≤ Q.N ∧ RowAt A off Q.N cap e v5) := fun e he _ => by rw [hkp] at he; exact hr5 e he
                  have B3N := B3k.grown HGr (fun e => by have := Option.some.inj e; have := (HKG.out k hk4).1; omega)
                  have hw4N := Nat.le_trans hw4k HGr.size
                  have HPN : Hid (∀ e, kp (fun a x y => rdF Q d a x y hf) (at_ + 1) x y hf (k + 1) = some e → Q.L at_ = 0 → ∀ j, j < k + 1 → PTr (okB (gs j) w4.heap.size) w5 (kidT Q d at_ x y hf j) (kX x hf j) (kY y hf j) hf (lv + 1) (gs j)) := fun e he hl j hj => by
                    by_cases ej : j = k
                    · subst ej
                      rw [hkp] at he
                      have h5 := hpt5 e he
                      unfold kidT
                      rw [he0]
                      exact PTr.keep (Nat.le_refl _) (fun _ _ _ => rfl) (fun b hb _ => by rcases hb with h | h; exact .inl h; exact .inr (Nat.le_trans hw4k h)) h5
                    · have hjk : j < k := by omega
                      refine PTr.keep HGr.size (fun b hb hlt => HGr.block b hlt (fun e2 => ?_)) (fun _ h _ => h) (HPTk.out e0 he0 hl j hjk)
                      have e3 := Option.some.inj e2
                      rcases hb with h | h
                      · exact HKD2.out j k (by omega) hk4 ej (by rw [← h]; exact e3)
                      · have := (HKG.out k hk4).2
                        have := hw42
                        omega
                  have HKN2 : Hid (∀ i j, i < 4 → j < 4 → i ≠ j → gs i ≠ gs j) := HKD2
                  clear RD HGr hb5 hr5 hkp he0 hrow0 hIk HGk HBk ck hpt5 B3k hw4k HPTk
                  go_wp2
                  go_roundw
                  case rel => exact ⟨k + 1, b5', by omega, by go_num, rfl, HbN.out, HrN.out, KDN.out, KCN.out, hkbN, hIN, HGN, HBN, B3N, hw4N, HPN.out⟩
                  case measure => simp [intOf]; omega
              · obtain rfl : k = 4 := by omega
                have HS4 := rdF_split (d := d) hbase hT
                rw [hhf] at HS4
                have hb' : Hid (b = (rdF Q (d + 1) at_ x y s).isSome) := by
                  show _ = _
                  rw [HS4, hb]
                  by_cases e : Q.L at_ = 0
                  · rw [if_pos e, decide_eq_true e, Bool.true_and]
                  · rw [if_neg e, decide_eq_false e]; rfl
                have hr' : Hid (∀ e, rdF Q (d + 1) at_ x y s = some e → e ≤ Q.N ∧ RowAt A off Q.N cap e u11) := fun e he => by
                  rw [HS4] at he
                  split at he
                  · rename_i h; exact hrw e he h
                  · cases he
                have HPF : Hid (∀ e, rdF Q (d + 1) at_ x y s = some e → PTr (okB g w.heap.size) wr (trQ Q (d + 1 - 1) at_ x y s) x y s lv g) := fun e he => by
                  rw [HS4] at he
                  split at he
                  · rename_i hl
                    obtain ⟨K, h1, h2⟩ := trQ_nodeQ (s := s) hT (by rw [hhf]; exact he)
                    rw [Nat.add_sub_cancel, h1]
                    refine ⟨.inl rfl, kb, kc, gs, B3k, hkbk, .inr (by omega), fun j hj => ⟨KCk j hj, ?_⟩⟩
                    rw [h2 j hj, hhf]
                    exact PTr.keep (Nat.le_refl _) (fun _ _ _ => rfl) (fun b hb _ => by
                      rcases hb with h | h
                      · exact .inr (by have := (KG j hj).1; omega)
                      · exact .inr (by omega)) (HPTk.out e he hl j hj)
                  · cases he
                clear hb hrw KDk KCk ih KD2 KN KG HS4
                go_wp2
                refine bodyPost_ret (v := .tuple #[u11, .bool b]) (by simp [results, Try.results50, go_sem]) rfl ?_
                exact ⟨_, _, rfl, hb'.out, hr'.out, HGk, HPF.out⟩
        · rw [decide_eq_true hzs]
          have hno : rdF Q (d + 1) at_ x y s = none := rdF_no (decide_eq_false (fun h => hzs h.2.2.2))
          clear C0 B0 HB hS hBl
          go_wp2
          refine bodyPost_ret (v := .tuple #[.slice none 0 0, .bool false]) (by simp [results, Try.results50, go_sem]) rfl ?_
          exact ⟨_, _, rfl, by rw [hno]; rfl, (fun e he => by rw [hno] at he; cases he), HG, (fun e he => by rw [hno] at he; cases he)⟩
      · have hno : rdF Q (d + 1) at_ x y s = none := rdF_no (decide_eq_false (fun h => hxy ⟨h.2.1, h.2.2.1⟩))
        refine qrB (F := w.heap.size) (g := g) (bx := Q.X at_) (by_ := Q.Y at_) (x := x) (y := y) (fun w => by
          rw [eqSpR]
          congr 1
          refine Bool.eq_false_iff.2 fun hh => hxy ?_
          simpa using hh) rfl rfl (C0.c 0 rfl) hCl (C0.c 1 rfl) hCl (B0.c 0 rfl) hgz (B0.c 1 rfl) hgz rfl ?_
        rintro ⟨tm, df⟩ Wy hz hdf hoff hx hBy
        simp only at hz hdf hoff hx
        change tm.getD 50 undef = .bool true at hx
        subst hdf
        have htm := tmps_fold [32, 33, 34, 35, 36, 37, 38, 39, 40, 41, 42, 43, 44, 45, 46, 47, 48, 49, 50] tm _ hz hoff
        simp only [List.foldl, List.setIfInBounds_toArray, List.set_cons_zero, List.set_cons_succ, hx] at htm
        clear hz hoff
        generalize tm.getD 32 undef = py0, tm.getD 33 undef = py1, tm.getD 34 undef = py2, tm.getD 35 undef = py3, tm.getD 36 undef = py4, tm.getD 37 undef = py5, tm.getD 38 undef = py6, tm.getD 39 undef = py7, tm.getD 40 undef = py8, tm.getD 41 undef = py9, tm.getD 42 undef = py10, tm.getD 43 undef = py11, tm.getD 44 undef = py12, tm.getD 45 undef = py13, tm.getD 46 undef = py14, tm.getD 47 undef = py15, tm.getD 48 undef = py16, tm.getD 49 undef = py17 at htm
        clear hx
        subst htm
        replace HG := grown_trans HG (grown_of hBy _)
        clear hBy C0 B0 HB hS hBl
        go_wp2
        refine bodyPost_ret (v := .tuple #[.slice none 0 0, .bool false]) (by simp [results, Try.results50, go_sem]) rfl ?_
        exact ⟨_, _, rfl, by rw [hno]; rfl, (fun e he => by rw [hno] at he; cases he), HG, (fun e he => by rw [hno] at he; cases he)⟩
    · have h1 : Q.N - at_ = 0 := by omega
      rw [h1]
      have hno : rdF Q (d + 1) at_ x y s = none := rdF_no (decide_eq_false (fun h => hat h.1))
      go_enter Try.func50, Try.ntmps50
      clear hS hBl
      go_wp2
      refine bodyPost_ret (v := .tuple #[.slice none 0 0, .bool false]) (by simp [results, Try.results50, go_sem]) rfl ?_
      exact ⟨_, _, rfl, by rw [hno]; rfl, (fun e he => by rw [hno] at he; cases he), grown_of (Below.refl _ _) _, (fun e he => by rw [hno] at he; cases he)⟩
end Go.Proofs.Ytaagmdhbfbikfaa

/- Rows of blocks copied and held against one another. -/
namespace Go.Proofs.Ytaagmdhbfbikfaa
open Go.RowKit
set_option maxRecDepth 100000 in
set_option maxHeartbeats 2000000 in
theorem toBlock_any (x y z : Int) (t : Bool) (ao : Option Addr) (m cap : Nat) (e : Nat → Int) (hm : m ≤ 1048576) (w : World) (hS : NoIn w ao m e) : Calls Try.prog 45 #[.agg #[.int .i64 x, .int .i64 y, .int .i64 z, .bool t, .slice ao m cap]] w (fun r w' => ∃ g, r = .returned (.agg #[.int .i64 x, .int .i64 y, .int .i64 z, .bool t, .slice (some ⟨g, 0, none⟩) m m]) ∧ w.heap.size < g ∧ w'.rowIs g 2 m (fun i => .int .i64 (e i)) ∧ Below w.heap.size w w') := by
  have B0 : Blk ((w.alloc (.cells #[.int .i64 x, .int .i64 y, .int .i64 z, .bool t, .slice ao m cap] 83)).alloc (.cells #[.int .i64 0, .int .i64 0, .int .i64 0, .bool false, .slice none 0 0] 95)) w.heap.size [.int .i64 x, .int .i64 y, .int .i64 z, .bool t, .slice ao m cap] := (Blk.new w [.int .i64 x, .int .i64 y, .int .i64 z, .bool t, .slice ao m cap] 83 rfl).alloc _
  have B1 : Blk ((w.alloc (.cells #[.int .i64 x, .int .i64 y, .int .i64 z, .bool t, .slice ao m cap] 83)).alloc (.cells #[.int .i64 0, .int .i64 0, .int .i64 0, .bool false, .slice none 0 0] 95)) (w.heap.size + 1) [.int .i64 0, .int .i64 0, .int .i64 0, .bool false, .slice none 0 0] := Blk.new (w.alloc (.cells #[.int .i64 x, .int .i64 y, .int .i64 z, .bool t, .slice ao m cap] 83)) [.int .i64 0, .int .i64 0, .int .i64 0, .bool false, .slice none 0 0] 95 (by simp)
  have HB : Below w.heap.size w ((w.alloc (.cells #[.int .i64 x, .int .i64 y, .int .i64 z, .bool t, .slice ao m cap] 83)).alloc (.cells #[.int .i64 0, .int .i64 0, .int .i64 0, .bool false, .slice none 0 0] 95)) := ((Below.refl _ w).alloc (Nat.le_refl _) _).alloc (by simp) _
  have HS : Hid (NoIn ((w.alloc (.cells #[.int .i64 x, .int .i64 y, .int .i64 z, .bool t, .slice ao m cap] 83)).alloc (.cells #[.int .i64 0, .int .i64 0, .int .i64 0, .bool false, .slice none 0 0] 95)) ao m e) := hS.step HB
  have TN := fun w h => toNoS_any ao m cap e hm w h
  clear hS
  go_enter Try.func45, Try.ntmps45
  go_upto_region 1 with fail
  have hs : ((w.alloc (.cells #[.int .i64 x, .int .i64 y, .int .i64 z, .bool t, .slice ao m cap] 83)).alloc (.cells #[.int .i64 0, .int .i64 0, .int .i64 0, .bool false, .slice none 0 0] 95)).heap.size = w.heap.size + 2 := by simp
  generalize ((w.alloc (.cells #[.int .i64 x, .int .i64 y, .int .i64 z, .bool t, .slice ao m cap] 83)).alloc (.cells #[.int .i64 0, .int .i64 0, .int .i64 0, .bool false, .slice none 0 0] 95)) = W1 at *
  have e0 := (B0.alloc (.cells #[.int .i64 0, .int .i64 0, .int .i64 0, .bool false, .slice none 0 0] 95)).c 0 rfl; have e1 := (B0.alloc (.cells #[.int .i64 x, .int .i64 0, .int .i64 0, .bool false, .slice none 0 0] 95)).c 1 rfl; have e2 := (B0.alloc (.cells #[.int .i64 x, .int .i64 y, .int .i64 0, .bool false, .slice none 0 0] 95)).c 2 rfl; have e3 := (B0.alloc (.cells #[.int .i64 x, .int .i64 y, .int .i64 z, .bool false, .slice none 0 0] 95)).c 3 rfl
  replace B0 := B0.alloc (.cells #[.int .i64 x, .int .i64 y, .int .i64 z, .bool t, .slice none 0 0] 95)
  replace B1 := B1.alloc (.cells #[.int .i64 x, .int .i64 y, .int .i64 z, .bool t, .slice none 0 0] 95)
  have B2 := Blk.new W1 [.int .i64 x, .int .i64 y, .int .i64 z, .bool t, .slice none 0 0] 95 (g := w.heap.size + 2) hs.symm
  replace HS : Hid (NoIn (W1.alloc (.cells #[.int .i64 x, .int .i64 y, .int .i64 z, .bool t, .slice none 0 0] 95)) ao m e) := HS.out.step ((Below.refl _ _).alloc (Nat.le_refl _) _)
  replace HB := HB.alloc HB.size (.cells #[.int .i64 x, .int .i64 y, .int .i64 z, .bool t, .slice none 0 0] 95)
  go_upto_region 6 with fail
  clear e0 e1 e2 e3
  generalize (W1.alloc (.cells #[.int .i64 x, .int .i64 y, .int .i64 z, .bool t, .slice none 0 0] 95)) = W2 at *
  clear hs
  have hl2 := B2.lt
  have e4 := B0.c 4 rfl
  go_wp2_with fail
  refine (TN _ HS.out).mono ?_
  rintro r w1 ⟨g, rfl, hg, R, hB⟩
  replace B1 := B1.step hB; replace B2 := B2.step hB
  replace HB := HB.trans (hB.mono HB.size)
  clear hB TN e4 B0 HS
  have BN := B2.setI 4 (by simp) (.slice (some ⟨g, 0, none⟩) m m)
  have BM := B1.setO (p := ⟨w.heap.size + 2, 4, none⟩) (by show w.heap.size + 1 ≠ w.heap.size + 2; omega) (.slice (some ⟨g, 0, none⟩) m m)
  have HN := HB.setCell (p := ⟨w.heap.size + 2, 4, none⟩) (by show w.heap.size ≤ w.heap.size + 2; omega) (.slice (some ⟨g, 0, none⟩) m m)
  have RN : (w1.setCell ⟨w.heap.size + 2, 4, none⟩ (.slice (some ⟨g, 0, none⟩) m m)).rowIs g 2 m (fun i => .int .i64 (e i)) := R.setOther (by show g ≠ w.heap.size + 2; omega) _
  have d4 := B2.c 4 rfl; have f4 := B2.f 4 rfl
  clear B1 B2 HB R
  go_upto_region 7 with fail
  clear d4 f4
  simp only [List.set_cons_zero, List.set_cons_succ] at BN
  generalize (w1.setCell ⟨w.heap.size + 2, 4, none⟩ (.slice (some ⟨g, 0, none⟩) m m)) = W3 at *
  have e0 := BN.c 0 rfl; have e1 := BN.c 1 rfl; have e2 := BN.c 2 rfl; have e3 := BN.c 3 rfl; have e4 := BN.c 4 rfl
  have g0 := BM.c 0 rfl; have g1 := BM.c 1 rfl; have g2 := BM.c 2 rfl; have g3 := BM.c 3 rfl; have g4 := BM.c 4 rfl; have h0 := BM.f 0 rfl; have h1 := BM.f 1 rfl; have h2 := BM.f 2 rfl; have h3 := BM.f 3 rfl; have h4 := BM.f 4 rfl
  have BF : Hid (Blk (((((W3.setCell ⟨(w.heap.size + 1), 0, none⟩ (.int .i64 x)).setCell ⟨(w.heap.size + 1), 1, none⟩ (.int .i64 y)).setCell ⟨(w.heap.size + 1), 2, none⟩ (.int .i64 z)).setCell ⟨(w.heap.size + 1), 3, none⟩ (.bool t)).setCell ⟨(w.heap.size + 1), 4, none⟩ (.slice (some ⟨g, 0, none⟩) m m)) (w.heap.size + 1) [.int .i64 x, .int .i64 y, .int .i64 z, .bool t, .slice (some ⟨g, 0, none⟩) m m]) := ((((BM.setI 0 (by decide) _).setI 1 (by simp) _).setI 2 (by simp) _).setI 3 (by simp) _).setI 4 (by simp) _
  have RF : Hid ((((((W3.setCell ⟨(w.heap.size + 1), 0, none⟩ (.int .i64 x)).setCell ⟨(w.heap.size + 1), 1, none⟩ (.int .i64 y)).setCell ⟨(w.heap.size + 1), 2, none⟩ (.int .i64 z)).setCell ⟨(w.heap.size + 1), 3, none⟩ (.bool t)).setCell ⟨(w.heap.size + 1), 4, none⟩ (.slice (some ⟨g, 0, none⟩) m m)).rowIs g 2 m (fun i => .int .i64 (e i))) := by
    have hne : g ≠ w.heap.size + 1 := by omega
    exact ((((RN.setOther hne _).setOther hne _).setOther hne _).setOther hne _).setOther hne _
  clear BM BN RN
  go_wp2
  have r0 := BF.out.c 0 rfl; have r1 := BF.out.c 1 rfl; have r2 := BF.out.c 2 rfl; have r3 := BF.out.c 3 rfl; have r4 := BF.out.c 4 rfl
  refine bodyPost_ret (v := .agg #[.int .i64 x, .int .i64 y, .int .i64 z, .bool t, .slice (some ⟨g, 0, none⟩) m m]) (by simp [results, Try.results45, go_sem, r0, r1, r2, r3, r4]) rfl ?_
  exact ⟨g, rfl, by omega, RF.out, ((((HN.setCell (Nat.le_succ _) _).setCell (Nat.le_succ _) _).setCell (Nat.le_succ _) _).setCell (Nat.le_succ _) _).setCell (Nat.le_succ _) _⟩
/-- The cells of a row of blocks. -/
def blV (Q : QD) (S : Nat → Nat) (k : Nat) : Value := match k % 5 with
  | 0 => .int .i64 (Q.X (k / 5))
  | 1 => .int .i64 (Q.Y (k / 5))
  | 2 => .int .i64 (Q.Z (k / 5))
  | 3 => .bool (Q.T (k / 5))
  | _ => .slice (some ⟨S (k / 5), 0, none⟩) (Q.L (k / 5)) (Q.L (k / 5))
def blZ (k : Nat) : Value := match k % 5 with
  | 3 => .bool false
  | 4 => .slice none 0 0
  | _ => .int .i64 0
theorem blV0 (Q : QD) (S : Nat → Nat) (c : Nat) : blV Q S (c * 5) = .int .i64 (Q.X c) := by unfold blV; rw [show (c * 5) % 5 = 0 by omega, show (c * 5) / 5 = c by omega]; rfl
theorem blV1 (Q : QD) (S : Nat → Nat) (c : Nat) : blV Q S (c * 5 + 1) = .int .i64 (Q.Y c) := by unfold blV; rw [show (c * 5 + 1) % 5 = 1 by omega, show (c * 5 + 1) / 5 = c by omega]; rfl
theorem blV2 (Q : QD) (S : Nat → Nat) (c : Nat) : blV Q S (c * 5 + 2) = .int .i64 (Q.Z c) := by unfold blV; rw [show (c * 5 + 2) % 5 = 2 by omega, show (c * 5 + 2) / 5 = c by omega]; rfl
theorem blV3 (Q : QD) (S : Nat → Nat) (c : Nat) : blV Q S (c * 5 + 3) = .bool (Q.T c) := by unfold blV; rw [show (c * 5 + 3) % 5 = 3 by omega, show (c * 5 + 3) / 5 = c by omega]; rfl
theorem blV4 (Q : QD) (S : Nat → Nat) (c : Nat) : blV Q S (c * 5 + 4) = .slice (some ⟨S c, 0, none⟩) (Q.L c) (Q.L c) := by unfold blV; rw [show (c * 5 + 4) % 5 = 4 by omega, show (c * 5 + 4) / 5 = c by omega]; rfl
theorem Try.infoBlk : (Try.prog.info? 95).map (fun i => (i.zero, i.size, i.bytes)) = some (some (.agg #[.int .i64 0, .int .i64 0, .int .i64 0, .bool false, .slice none 0 0]), 5, 56) := by kernel_rfl
theorem make_blocks (n : Nat) (hn : n ≤ 1048576) (w : World) : (Instr.makeSlice 29 (.int .i64 (n : Int)) (.int .i64 (n : Int))).run Try.prog w = .ok (.slice (some ⟨w.heap.size, 0, none⟩) n n) (w.alloc (.cells (madeCells #[.int .i64 0, .int .i64 0, .int .i64 0, .bool false, .slice none 0 0] (n * 5)) 95)) := by
  obtain ⟨i, hi, hzz⟩ := Option.map_eq_some_iff.1 Try.infoBlk
  simp only [Prod.mk.injEq] at hzz
  obtain ⟨hz, hs, hb⟩ := hzz
  have hr := run_make (P := Try.prog) w 29 95 i (.agg #[.int .i64 0, .int .i64 0, .int .i64 0, .bool false, .slice none 0 0]) Try.underlying29 hi hz .i64 .i64 n n (by omega) (Int.le_refl _) (by rw [hb]; omega) (by omega)
  simp only [Int.toNat_natCast, hs, Value.cells] at hr
  exact hr
theorem row_blocks (w : World) (n : Nat) (T : TypeId) : (w.alloc (.cells (madeCells #[.int .i64 0, .int .i64 0, .int .i64 0, .bool false, .slice none 0 0] (n * 5)) T)).rowIs w.heap.size T (n * 5) blZ := by
  have h := World.rowIs_alloc w (madeCells #[.int .i64 0, .int .i64 0, .int .i64 0, .bool false, .slice none 0 0] (n * 5)) T blZ (fun i hi => by
    rw [size_madeCells] at hi
    unfold blZ
    simp [madeCells, hi]
    rcases (show i % 5 = 0 ∨ i % 5 = 1 ∨ i % 5 = 2 ∨ i % 5 = 3 ∨ i % 5 = 4 by omega) with h | h | h | h | h <;> simp [h])
  rwa [size_madeCells] at h
/-- So far the row holds what was copied, behind it zeros. -/
def cpBl (Q : QD) (S : Nat → Nat) (c : Nat) (i : Nat) : Value := if i < c * 5 then blV Q S i else blZ i
theorem blV_same {Q : QD} {S S' : Nat → Nat} {c i : Nat} (h : ∀ j, j < c → S' j = S j) (hi : i < c * 5) : blV Q S' i = blV Q S i := by
  unfold blV
  rw [h (i / 5) (by omega)]
theorem cpBl_step {w : World} {g n c b : Nat} {T : TypeId} {Q : QD} {S : Nat → Nat} (h : w.rowIs g T (n * 5) (cpBl Q S c)) :
    (((((w.setCell ⟨g, c * 5, none⟩ (.int .i64 (Q.X c))).setCell ⟨g, c * 5 + 1, none⟩ (.int .i64 (Q.Y c))).setCell ⟨g, c * 5 + 2, none⟩ (.int .i64 (Q.Z c))).setCell ⟨g, c * 5 + 3, none⟩ (.bool (Q.T c))).setCell ⟨g, c * 5 + 4, none⟩ (.slice (some ⟨b, 0, none⟩) (Q.L c) (Q.L c))).rowIs g T (n * 5) (cpBl Q (fun j => if j = c then b else S j) (c + 1)) := by
  refine (((((h.set (c * 5) _).set (c * 5 + 1) _).set (c * 5 + 2) _).set (c * 5 + 3) _).set (c * 5 + 4) _).congr (fun i hi => ?_)
  unfold cpBl
  by_cases h4 : i = c * 5 + 4
  · subst h4; rw [if_pos rfl, if_pos (by omega), blV4]; simp
  by_cases h3 : i = c * 5 + 3
  · subst h3; rw [if_neg (by omega), if_pos rfl, if_pos (by omega), blV3]
  by_cases h2 : i = c * 5 + 2
  · subst h2; rw [if_neg (by omega), if_neg (by omega), if_pos rfl, if_pos (by omega), blV2]
  by_cases h1 : i = c * 5 + 1
  · subst h1; rw [if_neg (by omega), if_neg (by omega), if_neg (by omega), if_pos rfl, if_pos (by omega), blV1]
  by_cases h0 : i = c * 5
  · subst h0; rw [if_neg (by omega), if_neg (by omega), if_neg (by omega), if_neg (by omega), if_pos rfl, if_pos (by omega), blV0]
  rw [if_neg h4, if_neg h3, if_neg h2, if_neg h1, if_neg h0]
  by_cases hl : i < c * 5
  · rw [if_pos hl, if_pos (by omega)]
    exact (blV_same (fun j hj => if_neg (by omega)) hl).symm
  · rw [if_neg hl, if_neg (by omega)]
/-- Blocks that were copied: their row, their numbers. -/
structure BlRow (Q : QD) (w : World) (b g : Nat) (S : Nat → Nat) : Prop where
  row : w.rowIs g 95 (Q.N * 5) (blV Q S)
  lt : b ≤ g
  ids : ∀ j, j < Q.N → b ≤ S j ∧ S j ≠ g ∧ w.rowIs (S j) 2 (Q.L j) (fun i => .int .i64 (Q.E j i))
theorem BlRow.in {Q : QD} {w : World} {b g : Nat} {S : Nat → Nat} (h : BlRow Q w b g S) : BlIn Q w g 0 (fun i => (some ⟨S i, 0, none⟩, Q.L i)) := fun i hi => by
  refine ⟨h.row.lt, ?_, ?_, ?_, ?_, ?_, noIn_row (h.ids i hi).2.2⟩
  · rw [Nat.zero_add, h.row.cell (by omega), blV0]
  · rw [Nat.zero_add, h.row.cell (by omega), blV1]
  · rw [Nat.zero_add, h.row.cell (by omega), blV2]
  · rw [Nat.zero_add, h.row.cell (by omega), blV3]
  · rw [Nat.zero_add, h.row.cell (by omega), blV4]
theorem BlRow.step {Q : QD} {w w' : World} {b g : Nat} {S : Nat → Nat} (h : BlRow Q w b g S) (hB : Below w.heap.size w w') : BlRow Q w' b g S :=
  ⟨rowI_step h.row hB, h.lt, fun j hj => ⟨(h.ids j hj).1, (h.ids j hj).2.1, rowI_step (h.ids j hj).2.2 hB⟩⟩
set_option maxRecDepth 100000 in
set_option maxHeartbeats 4000000 in
theorem toBlockS_any (Q : QD) (bo : Option Addr) (cap A off : Nat) (so : Nat → Option Addr × Nat) (hN : Q.N ≤ 1048576) (hL : ∀ i, i < Q.N → Q.L i ≤ 1048576) (hbo : 0 < Q.N → bo = some ⟨A, off, none⟩) (w : World) (hBl : BlIn Q w A off so) : Calls Try.prog 24 #[.slice bo Q.N cap] w (fun r w' => ∃ g S, r = .returned (.slice (some ⟨g, 0, none⟩) Q.N Q.N) ∧ BlRow Q w' w.heap.size g S ∧ Below w.heap.size w w') := by
  obtain ⟨n, hn⟩ : ∃ n, Q.N = n := ⟨_, rfl⟩
  have HN : Hid (Q.N = n) := hn
  have HL : Hid (∀ i, i < n → Q.L i ≤ 1048576) := by rw [← hn]; exact hL
  have HBO : Hid (0 < n → bo = some ⟨A, off, none⟩) := by rw [← hn]; exact hbo
  have HBL : Hid (BlIn Q w A off so) := hBl
  have MK := make_blocks n (by omega)
  have hnI : (n : Int) ≤ 1048576 := by omega
  rw [hn]
  clear hn hL hbo hBl hN
  go_enter Try.func24, Try.ntmps24
  go_wp2_with fail
  have R0 := row_blocks w n 95
  have B0 : Below w.heap.size w (w.alloc (.cells (madeCells #[.int .i64 0, .int .i64 0, .int .i64 0, .bool false, .slice none 0 0] (n * 5)) 95)) := (Below.refl _ _).alloc (Nat.le_refl _) _
  generalize w.alloc (.cells (madeCells #[.int .i64 0, .int .i64 0, .int .i64 0, .bool false, .slice none 0 0] (n * 5)) 95) = W1 at *
  clear MK
  go_loopw [4] (fun i wr => ∃ (c : Nat) (S : Nat → Nat), c ≤ n ∧ i = .int .i64 c ∧ wr.rowIs w.heap.size 95 (n * 5) (cpBl Q S c) ∧ (∀ j, j < c → w.heap.size ≤ S j ∧ S j ≠ w.heap.size ∧ wr.rowIs (S j) 2 (Q.L j) (fun i => .int .i64 (Q.E j i))) ∧ Below w.heap.size w wr) (fun i _ => n - (intOf i).toNat)
  case atStart => exact ⟨0, fun _ => 0, by omega, rfl, R0.congr (fun i _ => by unfold cpBl; simp), fun j hj => absurd hj (by omega), B0⟩
  case round =>
    clear R0 B0
    obtain ⟨c, S, hc, rfl, R, hp, HB⟩ := hrel
    have HP : Hid (∀ j, j < c → w.heap.size ≤ S j ∧ S j ≠ w.heap.size ∧ wr.rowIs (S j) 2 (Q.L j) (fun i => .int .i64 (Q.E j i))) := hp
    clear hp
    by_cases hcn : c < n
    · obtain rfl := HBO.out (by omega)
      obtain ⟨hA, c0, c1, c2, c3, c4, hNo⟩ := HBL.out.below HB c (by rw [HN.out]; exact hcn)
      have hcI : (c : Int) < n := by omega
      have TL := fun w h => toBlock_any (Q.X c) (Q.Y c) (Q.Z c) (Q.T c) (so c).1 (Q.L c) (so c).2 (Q.E c) (HL.out c hcn) w h
      have hlr := R.lt
      go_wp2_with fail
      refine (TL _ hNo).mono ?_
      rintro e w1 ⟨g, rfl, hg, RG, hB⟩
      replace R := rowI_step R hB
      have HP2 : Hid (∀ j, j < c → w.heap.size ≤ S j ∧ S j ≠ w.heap.size ∧ w1.rowIs (S j) 2 (Q.L j) (fun i => .int .i64 (Q.E j i))) := fun j hj => ⟨(HP.out j hj).1, (HP.out j hj).2.1, rowI_step (HP.out j hj).2.2 hB⟩
      replace HB := HB.trans (hB.mono HB.size)
      have p0 := R.cell (i := c * 5) (by omega); have p1 := R.cell (i := c * 5 + 1) (by omega); have p2 := R.cell (i := c * 5 + 2) (by omega); have p3 := R.cell (i := c * 5 + 3) (by omega); have p4 := R.cell (i := c * 5 + 4) (by omega)
      have f0 := R.frozen (c * 5); have f1 := R.frozen (c * 5 + 1); have f2 := R.frozen (c * 5 + 2); have f3 := R.frozen (c * 5 + 3); have f4 := R.frozen (c * 5 + 4)
      have RN := cpBl_step (b := g) R
      have HPN : Hid (∀ j, j < c + 1 → w.heap.size ≤ (if j = c then g else S j) ∧ (if j = c then g else S j) ≠ w.heap.size ∧ (((((w1.setCell ⟨w.heap.size, c * 5, none⟩ (.int .i64 (Q.X c))).setCell ⟨w.heap.size, c * 5 + 1, none⟩ (.int .i64 (Q.Y c))).setCell ⟨w.heap.size, c * 5 + 2, none⟩ (.int .i64 (Q.Z c))).setCell ⟨w.heap.size, c * 5 + 3, none⟩ (.bool (Q.T c))).setCell ⟨w.heap.size, c * 5 + 4, none⟩ (.slice (some ⟨g, 0, none⟩) (Q.L c) (Q.L c))).rowIs (if j = c then g else S j) 2 (Q.L j) (fun i => .int .i64 (Q.E j i))) := fun j hj => by
        by_cases h : j = c
        · subst h
          rw [if_pos rfl]
          have hne : g ≠ w.heap.size := by omega
          exact ⟨by omega, hne, ((((RG.setOther hne _).setOther hne _).setOther hne _).setOther hne _).setOther hne _⟩
        · rw [if_neg h]
          have h3 := HP2.out j (by omega)
          have hne : S j ≠ w.heap.size := h3.2.1
          exact ⟨h3.1, hne, ((((h3.2.2.setOther hne _).setOther hne _).setOther hne _).setOther hne _).setOther hne _⟩
      have HN2 : Below w.heap.size w (((((w1.setCell ⟨w.heap.size, c * 5, none⟩ (.int .i64 (Q.X c))).setCell ⟨w.heap.size, c * 5 + 1, none⟩ (.int .i64 (Q.Y c))).setCell ⟨w.heap.size, c * 5 + 2, none⟩ (.int .i64 (Q.Z c))).setCell ⟨w.heap.size, c * 5 + 3, none⟩ (.bool (Q.T c))).setCell ⟨w.heap.size, c * 5 + 4, none⟩ (.slice (some ⟨g, 0, none⟩) (Q.L c) (Q.L c))) := ((((HB.setCell (by simp) _).setCell (by simp) _).setCell (by simp) _).setCell (by simp) _).setCell (by simp) _
      clear hB c0 c1 c2 c3 c4 hA R HB TL hlr hg HP HP2 RG hNo
      go_wp2
      go_roundw
      case rel => exact ⟨c + 1, _, by omega, by go_num, RN, HPN.out, HN2⟩
      case measure => simp [intOf]; omega
    · obtain rfl : c = n := by omega
      have RN : Hid (BlRow Q wr w.heap.size w.heap.size S) := ⟨(by rw [HN.out]; exact R.congr (fun i hi => by unfold cpBl; rw [if_pos hi])), Nat.le_refl _, fun j hj => HP.out j (by rw [← HN.out]; exact hj)⟩
      clear R HP HBL HBO HL
      go_wp2
      go_ret
      exact ⟨_, S, rfl, RN.out, HB⟩
end Go.Proofs.Ytaagmdhbfbikfaa

/- Blocks held against one another; trees copied and held against one another. -/
namespace Go.Proofs.Ytaagmdhbfbikfaa
open Go.RowKit
set_option maxRecDepth 100000 in
set_option maxHeartbeats 2000000 in
theorem eqBlock_same (x y z : Int) (t : Bool) (ao co : Option Addr) (m mc md : Nat) (e : Nat → Int) (hm : m ≤ 1048576) (w : World) (hA : NoIn w ao m e) (hC : NoIn w co m e) : Calls Try.prog 52 #[.agg #[.int .i64 x, .int .i64 y, .int .i64 z, .bool t, .slice ao m mc], .agg #[.int .i64 x, .int .i64 y, .int .i64 z, .bool t, .slice co m md]] w (VP (.bool true) w) := by
  have B0 := (Blk.new w [.int .i64 x, .int .i64 y, .int .i64 z, .bool t, .slice ao m mc] 95 rfl).alloc (.cells #[.int .i64 x, .int .i64 y, .int .i64 z, .bool t, .slice co m md] 95)
  have B1 := Blk.new (w.alloc (.cells #[.int .i64 x, .int .i64 y, .int .i64 z, .bool t, .slice ao m mc] 95)) [.int .i64 x, .int .i64 y, .int .i64 z, .bool t, .slice co m md] 95 (g := w.heap.size + 1) (by simp)
  have HB := ((Below.refl _ w).alloc (Nat.le_refl _) (.cells #[.int .i64 x, .int .i64 y, .int .i64 z, .bool t, .slice ao m mc] 95)).alloc (by simp) (.cells #[.int .i64 x, .int .i64 y, .int .i64 z, .bool t, .slice co m md] 95)
  have HA := hA.step HB
  have HC := hC.step HB
  have EP := fun w h h' => eqNoS_any ao co m mc md e hm w h h'
  clear hA hC
  go_enter Try.func52, Try.ntmps52
  go_upto_region 1 with fail
  generalize ((w.alloc (.cells #[.int .i64 x, .int .i64 y, .int .i64 z, .bool t, .slice ao m mc] 95)).alloc (.cells #[.int .i64 x, .int .i64 y, .int .i64 z, .bool t, .slice co m md] 95)) = W1 at *
  have p0 := B0.c 0 rfl; have p1 := B0.c 1 rfl; have p2 := B0.c 2 rfl; have p3 := B0.c 3 rfl; have p4 := B0.c 4 rfl
  have q0 := B1.c 0 rfl; have q1 := B1.c 1 rfl; have q2 := B1.c 2 rfl; have q3 := B1.c 3 rfl; have q4 := B1.c 4 rfl
  clear B0 B1
  go_wp2_with fail
  refine (EP _ HA HC).mono ?_
  rintro r w1 ⟨rfl, hB⟩
  have HB2 := HB.trans (hB.mono HB.size)
  clear hB HB p0 p1 p2 p3 p4 q0 q1 q2 q3 q4 EP HA HC
  go_wp2
  go_ret
  exact ⟨rfl, HB2⟩
def VqeJ (A off D od n ca cb c m mc md : Nat) (ao co : Option Addr) (x y z : Int) (t : Bool) (_B : Nat) : Nat → Value → World → Prop
  | 0, v, _ => v = .slice (some ⟨A, off, none⟩) n ca
  | 1, v, _ => v = .int .i64 (c : Int)
  | 2, v, _ => v = .pointer (some ⟨A, off + c * 5, none⟩)
  | 3, v, _ => v = .agg #[.int .i64 x, .int .i64 y, .int .i64 z, .bool t, .slice ao m mc]
  | 4, v, _ => v = .slice (some ⟨D, od, none⟩) n cb
  | 5, v, _ => v = .int .i64 (c : Int)
  | 6, v, _ => v = .pointer (some ⟨D, od + c * 5, none⟩)
  | 7, v, _ => v = .agg #[.int .i64 x, .int .i64 y, .int .i64 z, .bool t, .slice co m md]
  | 8, v, _ => v = .bool true
  | 9, v, _ => v = .bool false
  | _, _, _ => True
theorem VqeJ.mono {A off D od n ca cb c m mc md : Nat} {ao co : Option Addr} {x y z : Int} {t : Bool} {B j : Nat} {v : Value} {W W2 : World} (_hB : Below W.heap.size W W2) (h : VqeJ A off D od n ca cb c m mc md ao co x y z t B j v W) : VqeJ A off D od n ca cb c m mc md ao co x y z t B j v W2 := by
  unfold VqeJ at *
  split <;> simp only at h <;> first | exact h | trivial
set_option maxRecDepth 100000 in
set_option maxHeartbeats 4000000 in
theorem qeJ {Q : Exit → Act → World → Prop} {A off D od n ca cb c m mc md : Nat} {ao co : Option Addr} {x y z : Int} {t : Bool} {e : Nat → Int} {w0 : World} {a0 : Act} {idq : Nat} {t0 t1 t2 t3 t4 t5 t6 t7 t8 t9 : TypeId} {q0 q1 q2 q3 q4 q5 q6 q7 q8 q9 : String}
    (hcn : c < n) (hn : n ≤ 1048576) (hm : m ≤ 1048576) (hNA : NoIn w0 ao m e) (hNB : NoIn w0 co m e) (h0 : a0.tmps[0]? = some (.slice (some ⟨A, off, none⟩) n ca)) (h1 : a0.tmps[1]? = some (.slice (some ⟨D, od, none⟩) n cb)) (h5 : a0.tmps[5]? = some (.int .i64 (c : Int))) (k0 : w0.cell? ⟨A, off + c * 5, none⟩ = some (.int .i64 x)) (l0 : (⟨A, off + c * 5, none⟩ : Addr).block < w0.heap.size) (k1 : w0.cell? ⟨A, off + c * 5 + 1, none⟩ = some (.int .i64 y)) (l1 : (⟨A, off + c * 5 + 1, none⟩ : Addr).block < w0.heap.size) (k2 : w0.cell? ⟨A, off + c * 5 + 2, none⟩ = some (.int .i64 z)) (l2 : (⟨A, off + c * 5 + 2, none⟩ : Addr).block < w0.heap.size) (k3 : w0.cell? ⟨A, off + c * 5 + 3, none⟩ = some (.bool t)) (l3 : (⟨A, off + c * 5 + 3, none⟩ : Addr).block < w0.heap.size) (k4 : w0.cell? ⟨A, off + c * 5 + 4, none⟩ = some (.slice ao m mc)) (l4 : (⟨A, off + c * 5 + 4, none⟩ : Addr).block < w0.heap.size) (k5 : w0.cell? ⟨D, od + c * 5, none⟩ = some (.int .i64 x)) (l5 : (⟨D, od + c * 5, none⟩ : Addr).block < w0.heap.size) (k6 : w0.cell? ⟨D, od + c * 5 + 1, none⟩ = some (.int .i64 y)) (l6 : (⟨D, od + c * 5 + 1, none⟩ : Addr).block < w0.heap.size) (k7 : w0.cell? ⟨D, od + c * 5 + 2, none⟩ = some (.int .i64 z)) (l7 : (⟨D, od + c * 5 + 2, none⟩ : Addr).block < w0.heap.size) (k8 : w0.cell? ⟨D, od + c * 5 + 3, none⟩ = some (.bool t)) (l8 : (⟨D, od + c * 5 + 3, none⟩ : Addr).block < w0.heap.size) (k9 : w0.cell? ⟨D, od + c * 5 + 4, none⟩ = some (.slice co m md)) (l9 : (⟨D, od + c * 5 + 4, none⟩ : Addr).block < w0.heap.size) (hz : a0.tmps.size = 27)
    (hQ : ∀ aq W, aq.tmps.size = a0.tmps.size → aq.defers = a0.defers → (∀ e, e ∉ ([17, 18, 19, 20, 21, 22, 23, 24, 25, 26] : List Nat) → aq.tmps[e]? = a0.tmps[e]?) → VqeJ A off D od n ca cb c m mc md ao co x y z t w0.heap.size 9 (aq.tmps.getD 26 undef) W → Below w0.heap.size w0 W → Q .normal aq W) :
    (Code.region idq #[{ dst := some 17, op := Op.move (Operand.tmp 0), type := t0, pos := q0, after := #[], guard := none },
    { dst := some 18, op := Op.move (Operand.tmp 5), type := t1, pos := q1, after := #[], guard := none },
    { dst := some 19, op := Op.indexAddr 29 (Operand.tmp 17) (Operand.tmp 18), type := t2, pos := q2, after := #[{ on := 0, ground := Ground.data }, { on := 1, ground := Ground.data }], guard := none },
    { dst := some 20, op := Op.load 95 (Operand.tmp 19), type := t3, pos := q3, after := #[{ on := 2, ground := Ground.data }], guard := none },
    { dst := some 21, op := Op.move (Operand.tmp 1), type := t4, pos := q4, after := #[], guard := none },
    { dst := some 22, op := Op.move (Operand.tmp 5), type := t5, pos := q5, after := #[], guard := none },
    { dst := some 23, op := Op.indexAddr 29 (Operand.tmp 21) (Operand.tmp 22), type := t6, pos := q6, after := #[{ on := 4, ground := Ground.data }, { on := 5, ground := Ground.data }], guard := none },
    { dst := some 24, op := Op.load 95 (Operand.tmp 23), type := t7, pos := q7, after := #[{ on := 6, ground := Ground.data }], guard := none },
    { dst := some 25, op := Op.call { callee := Callee.value (Operand.func 52), args := #[Operand.tmp 20, Operand.tmp 24], argTypes := #[95, 95] }, type := t8, pos := q8, after := #[{ on := 3, ground := Ground.data }, { on := 7, ground := Ground.data }], guard := none },
    { dst := some 26, op := Op.unOp UnOp.not 4 (Operand.tmp 25), type := t9, pos := q9, after := #[{ on := 8, ground := Ground.data }], guard := none }] true).wp Try.prog Q a0 w0 := by
  have hS : distS [some 17, some 18, some 19, some 20, some 21, some 22, some 23, some 24, some 25, some 26] = true := rfl
  refine wp_region_q (by kernel_rfl) w0.heap.size [some 17, some 18, some 19, some 20, some 21, some 22, some 23, some 24, some 25, some 26] (VqeJ A off D od n ca cb c m mc md ao co x y z t w0.heap.size) rfl ?_ ?_
  · intro Q lq aq W iq oq hJ hl ho hall
    have hJ2 := hJ
    obtain ⟨z1, z2, z3, z4, z5, z6, z7⟩ := hJ
    have g0 : aq.tmps.getD 0 undef = .slice (some ⟨A, off, none⟩) n ca := by rw [Array.getD_eq_getD_getElem?, z4 0 (by decide), h0]; rfl
    have g1 : aq.tmps.getD 1 undef = .slice (some ⟨D, od, none⟩) n cb := by rw [Array.getD_eq_getD_getElem?, z4 1 (by decide), h1]; rfl
    have g5 : aq.tmps.getD 5 undef = .int .i64 (c : Int) := by rw [Array.getD_eq_getD_getElem?, z4 5 (by decide), h5]; rfl
    have c0 : W.cell? ⟨A, off + c * 5, none⟩ = some (.int .i64 x) := (z5.cell l0).trans k0
    have c1 : W.cell? ⟨A, off + c * 5 + 1, none⟩ = some (.int .i64 y) := (z5.cell l1).trans k1
    have c2 : W.cell? ⟨A, off + c * 5 + 2, none⟩ = some (.int .i64 z) := (z5.cell l2).trans k2
    have c3 : W.cell? ⟨A, off + c * 5 + 3, none⟩ = some (.bool t) := (z5.cell l3).trans k3
    have c4 : W.cell? ⟨A, off + c * 5 + 4, none⟩ = some (.slice ao m mc) := (z5.cell l4).trans k4
    have c5 : W.cell? ⟨D, od + c * 5, none⟩ = some (.int .i64 x) := (z5.cell l5).trans k5
    have c6 : W.cell? ⟨D, od + c * 5 + 1, none⟩ = some (.int .i64 y) := (z5.cell l6).trans k6
    have c7 : W.cell? ⟨D, od + c * 5 + 2, none⟩ = some (.int .i64 z) := (z5.cell l7).trans k7
    have c8 : W.cell? ⟨D, od + c * 5 + 3, none⟩ = some (.bool t) := (z5.cell l8).trans k8
    have c9 : W.cell? ⟨D, od + c * 5 + 4, none⟩ = some (.slice co m md) := (z5.cell l9).trans k9
    match iq, ho with
    | 0, ho =>
      cases ho
      refine wpOp_of rfl rfl ?_
      have hK := fun (v : Value) (W2 : World) hW hT hv => hJ2.put hS 0 17 rfl (by omega) (W' := W2) hW hT v hv
      clear ho hall hl hQ
      generalize InvQ _ _ _ w0 a0 (lq.setIfInBounds 0 true) = K at hK ⊢
      clear hJ2 hS z1 z2 z3 z4 z6 z7
      go_simp
      exact hK _ _ z5 (fun _ _ h => h) rfl
    | 1, ho =>
      cases ho
      refine wpOp_of rfl rfl ?_
      have hK := fun (v : Value) (W2 : World) hW hT hv => hJ2.put hS 1 18 rfl (by omega) (W' := W2) hW hT v hv
      clear ho hall hl hQ
      generalize InvQ _ _ _ w0 a0 (lq.setIfInBounds 1 true) = K at hK ⊢
      clear hJ2 hS z1 z2 z3 z4 z6 z7
      go_simp
      exact hK _ _ z5 (fun _ _ h => h) rfl
    | 2, ho =>
      cases ho
      refine wpOp_of rfl rfl ?_
      have f0 : (aq.tmps.getD 17 undef) = .slice (some ⟨A, off, none⟩) n ca := z6 0 17 (hall { on := 0, ground := Ground.data } (by simp) rfl) rfl
      have f1 : (aq.tmps.getD 18 undef) = .int .i64 (c : Int) := z6 1 18 (hall { on := 1, ground := Ground.data } (by simp) rfl) rfl
      have hcI : (c : Int) < n := by omega
      have hnI : (n : Int) ≤ 1048576 := by omega
      have hK := fun (v : Value) (W2 : World) hW hT hv => hJ2.put hS 2 19 rfl (by omega) (W' := W2) hW hT v hv
      clear ho hall hl hQ
      generalize InvQ _ _ _ w0 a0 (lq.setIfInBounds 2 true) = K at hK ⊢
      clear hJ2 hS z1 z2 z3 z4 z6 z7
      go_simp
      exact hK _ _ z5 (fun _ _ h => h) rfl
    | 3, ho =>
      cases ho
      refine wpOp_of rfl rfl ?_
      have f2 : (aq.tmps.getD 19 undef) = .pointer (some ⟨A, off + c * 5, none⟩) := z6 2 19 (hall { on := 2, ground := Ground.data } (by simp) rfl) rfl
      have hK := fun (v : Value) (W2 : World) hW hT hv => hJ2.put hS 3 20 rfl (by omega) (W' := W2) hW hT v hv
      clear ho hall hl hQ
      generalize InvQ _ _ _ w0 a0 (lq.setIfInBounds 3 true) = K at hK ⊢
      clear hJ2 hS z1 z2 z3 z4 z6 z7
      go_simp
      exact hK _ _ z5 (fun _ _ h => h) rfl
    | 4, ho =>
      cases ho
      refine wpOp_of rfl rfl ?_
      have hK := fun (v : Value) (W2 : World) hW hT hv => hJ2.put hS 4 21 rfl (by omega) (W' := W2) hW hT v hv
      clear ho hall hl hQ
      generalize InvQ _ _ _ w0 a0 (lq.setIfInBounds 4 true) = K at hK ⊢
      clear hJ2 hS z1 z2 z3 z4 z6 z7
      go_simp
      exact hK _ _ z5 (fun _ _ h => h) rfl
    | 5, ho =>
      cases ho
      refine wpOp_of rfl rfl ?_
      have hK := fun (v : Value) (W2 : World) hW hT hv => hJ2.put hS 5 22 rfl (by omega) (W' := W2) hW hT v hv
      clear ho hall hl hQ
      generalize InvQ _ _ _ w0 a0 (lq.setIfInBounds 5 true) = K at hK ⊢
      clear hJ2 hS z1 z2 z3 z4 z6 z7
      go_simp
      exact hK _ _ z5 (fun _ _ h => h) rfl
    | 6, ho =>
      cases ho
      refine wpOp_of rfl rfl ?_
      have f4 : (aq.tmps.getD 21 undef) = .slice (some ⟨D, od, none⟩) n cb := z6 4 21 (hall { on := 4, ground := Ground.data } (by simp) rfl) rfl
      have f5 : (aq.tmps.getD 22 undef) = .int .i64 (c : Int) := z6 5 22 (hall { on := 5, ground := Ground.data } (by simp) rfl) rfl
      have hcI : (c : Int) < n := by omega
      have hnI : (n : Int) ≤ 1048576 := by omega
      have hK := fun (v : Value) (W2 : World) hW hT hv => hJ2.put hS 6 23 rfl (by omega) (W' := W2) hW hT v hv
      clear ho hall hl hQ
      generalize InvQ _ _ _ w0 a0 (lq.setIfInBounds 6 true) = K at hK ⊢
      clear hJ2 hS z1 z2 z3 z4 z6 z7
      go_simp
      exact hK _ _ z5 (fun _ _ h => h) rfl
    | 7, ho =>
      cases ho
      refine wpOp_of rfl rfl ?_
      have f6 : (aq.tmps.getD 23 undef) = .pointer (some ⟨D, od + c * 5, none⟩) := z6 6 23 (hall { on := 6, ground := Ground.data } (by simp) rfl) rfl
      have hK := fun (v : Value) (W2 : World) hW hT hv => hJ2.put hS 7 24 rfl (by omega) (W' := W2) hW hT v hv
      clear ho hall hl hQ
      generalize InvQ _ _ _ w0 a0 (lq.setIfInBounds 7 true) = K at hK ⊢
      clear hJ2 hS z1 z2 z3 z4 z6 z7
      go_simp
      exact hK _ _ z5 (fun _ _ h => h) rfl
    | 8, ho =>
      cases ho
      refine wpOp_of rfl rfl ?_
      have f3 : (aq.tmps.getD 20 undef) = .agg #[.int .i64 x, .int .i64 y, .int .i64 z, .bool t, .slice ao m mc] := z6 3 20 (hall { on := 3, ground := Ground.data } (by simp) rfl) rfl
      have f7 : (aq.tmps.getD 24 undef) = .agg #[.int .i64 x, .int .i64 y, .int .i64 z, .bool t, .slice co m md] := z6 7 24 (hall { on := 7, ground := Ground.data } (by simp) rfl) rfl
      have hK := fun (v : Value) (W2 : World) hW hT hv => hJ2.put hS 8 25 rfl (by omega) (W' := W2) hW hT v hv
      clear ho hall hl hQ
      generalize InvQ _ _ _ w0 a0 (lq.setIfInBounds 8 true) = K at hK ⊢
      clear hJ2 hS z1 z2 z3 z4 z6 z7
      go_simp
      refine (eqBlock_same x y z t ao co m mc md e hm W (hNA.step z5) (hNB.step z5)).mono ?_
      rintro e v1 ⟨rfl, hBv⟩
      exact hK _ _ (z5.trans (hBv.mono z5.size)) (fun j v h => h.mono hBv) rfl
    | 9, ho =>
      cases ho
      refine wpOp_of rfl rfl ?_
      have f8 : (aq.tmps.getD 25 undef) = .bool true := z6 8 25 (hall { on := 8, ground := Ground.data } (by simp) rfl) rfl
      have hK := fun (v : Value) (W2 : World) hW hT hv => hJ2.put hS 9 26 rfl (by omega) (W' := W2) hW hT v hv
      clear ho hall hl hQ
      generalize InvQ _ _ _ w0 a0 (lq.setIfInBounds 9 true) = K at hK ⊢
      clear hJ2 hS z1 z2 z3 z4 z6 z7
      go_simp
      exact hK _ _ z5 (fun _ _ h => h) rfl
    | iq + 10, ho => simp at ho
  · intro lq aq W hJ hr
    obtain ⟨z1, z2, z3, z4, z5, z6, z7⟩ := hJ
    have hl := listed_of hr [0, 1, 2, 3, 4, 5, 6, 7, 8, 9] [] (by simp) (by kernel_rfl) (by rw [z1]; decide)
    exact hQ aq W z2 z3 (fun e he => z4 e (by simpa using he)) (z6 9 26 (hl 9 (by simp)) rfl) z5
set_option maxRecDepth 100000 in
set_option maxHeartbeats 2000000 in
theorem eqBlockS_any (Q : QD) (ao bo : Option Addr) (ca cb A off D od : Nat) (so ro : Nat → Option Addr × Nat) (hN : Q.N ≤ 1048576) (hL : ∀ i, i < Q.N → Q.L i ≤ 1048576) (w : World) (hao : 0 < Q.N → ao = some ⟨A, off, none⟩) (hbo : 0 < Q.N → bo = some ⟨D, od, none⟩) (hA : BlIn Q w A off so) (hC : BlIn Q w D od ro) : Calls Try.prog 27 #[.slice ao Q.N ca, .slice bo Q.N cb] w (VP (.bool true) w) := by
  obtain ⟨n, hn⟩ : ∃ n, Q.N = n := ⟨_, rfl⟩
  have HN : Hid (Q.N = n) := hn
  have HL : Hid (∀ i, i < n → Q.L i ≤ 1048576) := by rw [← hn]; exact hL
  have HAO : Hid (0 < n → ao = some ⟨A, off, none⟩) := by rw [← hn]; exact hao
  have HBO : Hid (0 < n → bo = some ⟨D, od, none⟩) := by rw [← hn]; exact hbo
  have HA : Hid (BlIn Q w A off so) := hA
  have HC : Hid (BlIn Q w D od ro) := hC
  have hnI : (n : Int) ≤ 1048576 := by omega
  have hn2 : n ≤ 1048576 := by omega
  rw [hn]
  clear hA hC hn hL hao hbo hN
  go_enter Try.func27, Try.ntmps27
  go_wp2_with fail
  go_loopw [5] (fun i wr => ∃ c : Nat, c ≤ n ∧ i = .int .i64 c ∧ Below w.heap.size w wr) (fun i _ => n - (intOf i).toNat)
  case atStart => exact ⟨0, by omega, rfl, Below.refl _ _⟩
  case round =>
    obtain ⟨c, hc, rfl, HB⟩ := hrel
    by_cases hcn : c < n
    · obtain rfl := HAO.out (by omega)
      obtain rfl := HBO.out (by omega)
      obtain ⟨hA, q0, q1, q2, q3, q4, hNA⟩ := HA.out.below HB c (by rw [HN.out]; exact hcn)
      obtain ⟨hD, r0, r1, r2, r3, r4, hNB⟩ := HC.out.below HB c (by rw [HN.out]; exact hcn)
      have hcI : (c : Int) < n := by omega
      go_upto_region 6 with fail
      refine qeJ (A := A) (off := off) (D := D) (od := od) (n := n) (ca := ca) (cb := cb) (c := c) (m := Q.L c) (mc := (so c).2) (md := (ro c).2) (ao := (so c).1) (co := (ro c).1) (x := Q.X c) (y := Q.Y c) (z := Q.Z c) (t := Q.T c) (e := Q.E c) hcn hn2 (HL.out c hcn) hNA hNB rfl rfl rfl q0 hA q1 hA q2 hA q3 hA q4 hA r0 hD r1 hD r2 hD r3 hD r4 hD rfl ?_
      rintro ⟨tm, df⟩ Wz hz hdf hoff hx hBz
      simp only at hz hdf hoff hx
      change tm.getD 26 undef = .bool false at hx
      subst hdf
      have htm := tmps_fold [17, 18, 19, 20, 21, 22, 23, 24, 25, 26] tm _ hz hoff
      simp only [List.foldl, List.setIfInBounds_toArray, List.set_cons_zero, List.set_cons_succ, hx] at htm
      clear hz hoff
      generalize tm.getD 17 undef = pz0, tm.getD 18 undef = pz1, tm.getD 19 undef = pz2, tm.getD 20 undef = pz3, tm.getD 21 undef = pz4, tm.getD 22 undef = pz5, tm.getD 23 undef = pz6, tm.getD 24 undef = pz7, tm.getD 25 undef = pz8 at htm
      clear hx
      subst htm
      have HB2 := HB.trans (hBz.mono HB.size)
      clear HB hBz q0 q1 q2 q3 q4 r0 r1 r2 r3 r4 hNA hNB
      go_wp2
      go_roundw
      case rel => exact ⟨c + 1, by omega, by go_num, HB2⟩
      case measure => simp [intOf]; omega
    · obtain rfl : c = n := by omega
      clear HA HC
      go_wp2
      go_ret
      exact ⟨rfl, HB⟩
/-- A tree that was copied: its items' row, its blocks' row, their numbers. -/
structure QuRow (Q : QD) (w : World) (b gi gb : Nat) (S : Nat → Nat) : Prop where
  its : w.rowIs gi 75 (Q.m * 5) (fun i => .int .i64 (xI Q i))
  lt : b ≤ gi
  bls : BlRow Q w b gb S
  d1 : gi ≠ gb
  d2 : ∀ j, j < Q.N → S j ≠ gi
theorem QuRow.step {Q : QD} {w w' : World} {b gi gb : Nat} {S : Nat → Nat} (h : QuRow Q w b gi gb S) (hB : Below w.heap.size w w') : QuRow Q w' b gi gb S :=
  ⟨rowI_step h.its hB, h.lt, h.bls.step hB, h.d1, h.d2⟩
theorem QuRow.setOther {Q : QD} {w : World} {b gi gb g : Nat} {S : Nat → Nat} (h : QuRow Q w b gi gb S) (hg : g < b) (k : Nat) (v : Value) : QuRow Q (w.setCell ⟨g, k, none⟩ v) b gi gb S :=
  ⟨h.its.setOther (by show gi ≠ g; have := h.lt; omega) v, h.lt, ⟨h.bls.row.setOther (by show gb ≠ g; have := h.bls.lt; omega) v, h.bls.lt, fun j hj => ⟨(h.bls.ids j hj).1, (h.bls.ids j hj).2.1, (h.bls.ids j hj).2.2.setOther (by show S j ≠ g; have := (h.bls.ids j hj).1; omega) v⟩⟩, h.d1, h.d2⟩
set_option maxRecDepth 100000 in
set_option maxHeartbeats 4000000 in
theorem toQuad_any (Q : QD) (ao bo : Option Addr) (cap bcap A off : Nat) (so : Nat → Option Addr × Nat) (m d : Int) (hm : Q.m ≤ 1048576) (hN : Q.N ≤ 1048576) (hL : ∀ i, i < Q.N → Q.L i ≤ 1048576) (hbo : 0 < Q.N → bo = some ⟨A, off, none⟩) (w : World) (hS : ItIn Q w ao (List.range Q.m)) (hBl : BlIn Q w A off so) : Calls Try.prog 8 #[.agg #[.int .i64 m, .int .i64 d, .slice ao Q.m cap, .slice bo Q.N bcap]] w (fun r w' => ∃ gi gb S, r = .returned (.agg #[.int .i64 m, .int .i64 d, .slice (some ⟨gi, 0, none⟩) Q.m Q.m, .slice (some ⟨gb, 0, none⟩) Q.N Q.N]) ∧ QuRow Q w' w.heap.size gi gb S ∧ Below w.heap.size w w') := by
  have B0 : Blk ((w.alloc (.cells #[.int .i64 m, .int .i64 d, .slice ao Q.m cap, .slice bo Q.N bcap] 25)).alloc (.cells #[.int .i64 0, .int .i64 0, .slice none 0 0, .slice none 0 0] 31)) w.heap.size [.int .i64 m, .int .i64 d, .slice ao Q.m cap, .slice bo Q.N bcap] := (Blk.new w [.int .i64 m, .int .i64 d, .slice ao Q.m cap, .slice bo Q.N bcap] 25 rfl).alloc _
  have B1 : Blk ((w.alloc (.cells #[.int .i64 m, .int .i64 d, .slice ao Q.m cap, .slice bo Q.N bcap] 25)).alloc (.cells #[.int .i64 0, .int .i64 0, .slice none 0 0, .slice none 0 0] 31)) (w.heap.size + 1) [.int .i64 0, .int .i64 0, .slice none 0 0, .slice none 0 0] := Blk.new (w.alloc (.cells #[.int .i64 m, .int .i64 d, .slice ao Q.m cap, .slice bo Q.N bcap] 25)) [.int .i64 0, .int .i64 0, .slice none 0 0, .slice none 0 0] 31 (by simp)
  have HB : Below w.heap.size w ((w.alloc (.cells #[.int .i64 m, .int .i64 d, .slice ao Q.m cap, .slice bo Q.N bcap] 25)).alloc (.cells #[.int .i64 0, .int .i64 0, .slice none 0 0, .slice none 0 0] 31)) := ((Below.refl _ w).alloc (Nat.le_refl _) _).alloc (by simp) _
  have T1 := fun w h => toItemS_any Q ao cap hm w h
  have T2 := fun w h => toBlockS_any Q bo bcap A off so hN hL hbo w h
  have HS : Hid (ItIn Q w ao (List.range Q.m)) := hS
  have HBL : Hid (BlIn Q w A off so) := hBl
  clear hS hBl
  go_enter Try.func8, Try.ntmps8
  go_upto_region 1 with fail
  have hs : ((w.alloc (.cells #[.int .i64 m, .int .i64 d, .slice ao Q.m cap, .slice bo Q.N bcap] 25)).alloc (.cells #[.int .i64 0, .int .i64 0, .slice none 0 0, .slice none 0 0] 31)).heap.size = w.heap.size + 2 := by simp
  generalize ((w.alloc (.cells #[.int .i64 m, .int .i64 d, .slice ao Q.m cap, .slice bo Q.N bcap] 25)).alloc (.cells #[.int .i64 0, .int .i64 0, .slice none 0 0, .slice none 0 0] 31)) = W1 at *
  have e0 := (B0.alloc (.cells #[.int .i64 0, .int .i64 0, .slice none 0 0, .slice none 0 0] 31)).c 0 rfl; have e1 := (B0.alloc (.cells #[.int .i64 m, .int .i64 0, .slice none 0 0, .slice none 0 0] 31)).c 1 rfl
  replace B0 := B0.alloc (.cells #[.int .i64 m, .int .i64 d, .slice none 0 0, .slice none 0 0] 31)
  replace B1 := B1.alloc (.cells #[.int .i64 m, .int .i64 d, .slice none 0 0, .slice none 0 0] 31)
  have B2 := Blk.new W1 [.int .i64 m, .int .i64 d, .slice none 0 0, .slice none 0 0] 31 (g := w.heap.size + 2) hs.symm
  replace HB := HB.alloc HB.size (.cells #[.int .i64 m, .int .i64 d, .slice none 0 0, .slice none 0 0] 31)
  go_upto_region 4 with fail
  clear e0 e1
  generalize (W1.alloc (.cells #[.int .i64 m, .int .i64 d, .slice none 0 0, .slice none 0 0] 31)) = W2 at *
  clear hs
  have hl2 := B2.lt
  have e2 := B0.c 2 rfl
  go_wp2_with fail
  refine (T1 _ (HS.out.step HB)).mono ?_
  rintro r w1 ⟨gi, rfl, hgi, R1, hB⟩
  replace B0 := B0.step hB; replace B1 := B1.step hB; replace B2 := B2.step hB
  replace HB := HB.trans (hB.mono HB.size)
  clear hB T1 e2
  have d2 := B2.c 2 rfl; have f2 := B2.f 2 rfl
  have hr1 := R1.lt
  replace B0 := B0.setO (p := ⟨w.heap.size + 2, 2, none⟩) (by show w.heap.size ≠ w.heap.size + 2; omega) (.slice (some ⟨gi, 0, none⟩) Q.m Q.m)
  replace B1 := B1.setO (p := ⟨w.heap.size + 2, 2, none⟩) (by show w.heap.size + 1 ≠ w.heap.size + 2; omega) (.slice (some ⟨gi, 0, none⟩) Q.m Q.m)
  replace B2 := B2.setI 2 (by simp) (.slice (some ⟨gi, 0, none⟩) Q.m Q.m)
  replace R1 := R1.setOther (a := ⟨w.heap.size + 2, 2, none⟩) (by show gi ≠ w.heap.size + 2; omega) (.slice (some ⟨gi, 0, none⟩) Q.m Q.m)
  replace HB := HB.setCell (p := ⟨w.heap.size + 2, 2, none⟩) (by show w.heap.size ≤ w.heap.size + 2; omega) (.slice (some ⟨gi, 0, none⟩) Q.m Q.m)
  simp only [List.set_cons_zero, List.set_cons_succ] at B2
  go_upto_region 5 with fail
  clear d2 f2
  have hsz : (w1.setCell ⟨w.heap.size + 2, 2, none⟩ (.slice (some ⟨gi, 0, none⟩) Q.m Q.m)).heap.size = w1.heap.size := by simp [World.setCell]
  have hgi1 : gi < (w1.setCell ⟨w.heap.size + 2, 2, none⟩ (.slice (some ⟨gi, 0, none⟩) Q.m Q.m)).heap.size := by rw [hsz]; exact hr1
  clear hsz hr1
  generalize (w1.setCell ⟨w.heap.size + 2, 2, none⟩ (.slice (some ⟨gi, 0, none⟩) Q.m Q.m)) = W3 at *
  have hl3 := B2.lt
  have e3 := B0.c 3 rfl
  go_wp2_with fail
  refine (T2 _ (HBL.out.below HB)).mono ?_
  rintro r w4 ⟨gb, S, rfl, R2, hB⟩
  replace B1 := B1.step hB; replace B2 := B2.step hB
  replace HB := HB.trans (hB.mono HB.size)
  replace R1 := rowI_step R1 hB
  have hgb := R2.lt
  have RQ : QuRow Q w4 (w.heap.size + 3) gi gb S := ⟨R1, by omega, ⟨R2.row, by omega, fun j hj => ⟨by have := (R2.ids j hj).1; omega, (R2.ids j hj).2⟩⟩, by omega, fun j hj => by have := (R2.ids j hj).1; omega⟩
  clear hB T2 e3 B0 R1 R2
  have d3 := B2.c 3 rfl; have f3 := B2.f 3 rfl
  have BN := B2.setI 3 (by simp) (.slice (some ⟨gb, 0, none⟩) Q.N Q.N)
  have BM := B1.setO (p := ⟨w.heap.size + 2, 3, none⟩) (by show w.heap.size + 1 ≠ w.heap.size + 2; omega) (.slice (some ⟨gb, 0, none⟩) Q.N Q.N)
  have HN := HB.setCell (p := ⟨w.heap.size + 2, 3, none⟩) (by show w.heap.size ≤ w.heap.size + 2; omega) (.slice (some ⟨gb, 0, none⟩) Q.N Q.N)
  have RQ2 : QuRow Q (w4.setCell ⟨w.heap.size + 2, 3, none⟩ (.slice (some ⟨gb, 0, none⟩) Q.N Q.N)) (w.heap.size + 3) gi gb S := RQ.setOther (by omega) 3 _
  simp only [List.set_cons_zero, List.set_cons_succ] at BN
  clear B1 B2 HB RQ
  go_upto_region 6 with fail
  clear d3 f3
  generalize (w4.setCell ⟨w.heap.size + 2, 3, none⟩ (.slice (some ⟨gb, 0, none⟩) Q.N Q.N)) = W5 at *
  have e0 := BN.c 0 rfl; have e1 := BN.c 1 rfl; have e2 := BN.c 2 rfl; have e3 := BN.c 3 rfl
  have g0 := BM.c 0 rfl; have g1 := BM.c 1 rfl; have g2 := BM.c 2 rfl; have g3 := BM.c 3 rfl; have h0 := BM.f 0 rfl; have h1 := BM.f 1 rfl; have h2 := BM.f 2 rfl; have h3 := BM.f 3 rfl
  have BF : Hid (Blk ((((W5.setCell ⟨(w.heap.size + 1), 0, none⟩ (.int .i64 m)).setCell ⟨(w.heap.size + 1), 1, none⟩ (.int .i64 d)).setCell ⟨(w.heap.size + 1), 2, none⟩ (.slice (some ⟨gi, 0, none⟩) Q.m Q.m)).setCell ⟨(w.heap.size + 1), 3, none⟩ (.slice (some ⟨gb, 0, none⟩) Q.N Q.N)) (w.heap.size + 1) [.int .i64 m, .int .i64 d, .slice (some ⟨gi, 0, none⟩) Q.m Q.m, .slice (some ⟨gb, 0, none⟩) Q.N Q.N]) := (((BM.setI 0 (by decide) _).setI 1 (by simp) _).setI 2 (by simp) _).setI 3 (by simp) _
  have RF : Hid (QuRow Q ((((W5.setCell ⟨(w.heap.size + 1), 0, none⟩ (.int .i64 m)).setCell ⟨(w.heap.size + 1), 1, none⟩ (.int .i64 d)).setCell ⟨(w.heap.size + 1), 2, none⟩ (.slice (some ⟨gi, 0, none⟩) Q.m Q.m)).setCell ⟨(w.heap.size + 1), 3, none⟩ (.slice (some ⟨gb, 0, none⟩) Q.N Q.N)) (w.heap.size + 3) gi gb S) := (((RQ2.setOther (by omega) 0 _).setOther (by omega) 1 _).setOther (by omega) 2 _).setOther (by omega) 3 _
  clear BM BN RQ2
  go_wp2
  have r0 := BF.out.c 0 rfl; have r1 := BF.out.c 1 rfl; have r2 := BF.out.c 2 rfl; have r3 := BF.out.c 3 rfl
  refine bodyPost_ret (v := .agg #[.int .i64 m, .int .i64 d, .slice (some ⟨gi, 0, none⟩) Q.m Q.m, .slice (some ⟨gb, 0, none⟩) Q.N Q.N]) (by simp [results, Try.results8, go_sem, r0, r1, r2, r3]) rfl ?_
  refine ⟨gi, gb, S, rfl, ?_, (((HN.setCell (Nat.le_succ _) _).setCell (Nat.le_succ _) _).setCell (Nat.le_succ _) _).setCell (Nat.le_succ _) _⟩
  exact ⟨RF.out.its, by have := RF.out.lt; omega, ⟨RF.out.bls.row, by have := RF.out.bls.lt; omega, fun j hj => ⟨by have := (RF.out.bls.ids j hj).1; omega, (RF.out.bls.ids j hj).2⟩⟩, RF.out.d1, RF.out.d2⟩
end Go.Proofs.Ytaagmdhbfbikfaa
