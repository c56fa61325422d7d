/- Part 12 of the walks that the proof leans on. -/
import Derived.Test.YthgodemncbmmgaaPart11
import Derived.Test.YthgodemncbmmgaaPart3
import Derived.Test.YthgodemncbmmgaaRows
import Derived.ProofKit
import Derived.Lib.SmallJoins
/- The sides of a ring as a row: the law. -/
namespace Go.Proofs.Ythgodemncbmmgaa
open Go.RowKit
theorem tuN_le2 (n : Nat) (p : Ps) (h : n ≤ 1048576) : tuN n p ≤ 1048576 := by
  unfold tuN
  split <;> omega
set_option maxRecDepth 100000 in
set_option maxHeartbeats 8000000 in
theorem lawRingSegs_any (ao : Option Addr) (n cap : Nat) (p : Ps) (hn : n ≤ 9223372036854775807) (w : World) (hS : SpIn w ao n p) : Calls Try.prog 6 #[.agg #[.slice ao n cap]] w (BoolP true w) := by
  have BA := Blk.new w [.slice ao n cap] 31 rfl
  have HB : Below w.heap.size w (w.alloc (.cells #[.slice ao n cap] 31)) := (Below.refl _ w).alloc (Nat.le_refl _) _
  have SZ := szRing_any ao n cap 1048576 (by omega) (by omega) hn
  have HS : Hid (SpIn w ao n p) := hS
  clear hS
  go_enter Try.func6, Try.ntmps6
  go_upto_region 1 with fail
  generalize w.alloc (.cells #[.slice ao n cap] 31) = W at *
  by_cases hs : n ≤ 1048576
  · rw [if_pos (by omega)] at SZ
    have TR := fun w h => toRing_any ao n cap p hs w h
    have SP : ∀ g w, w.rowIs g 77 (n * 2) (fun i => .int .i64 (spW p i)) → Calls Try.prog 22 #[.agg #[.slice (some ⟨g, 0, none⟩) n n]] w (fun e w' => ∃ v, e = .returned v ∧ SgOwn w' w.heap.size v (tuN n p) (sdW n p) ∧ Below w.heap.size w w') := fun g w R => (specSegs_all _ n n p hs w (spIn_row R)).mono fun e w' ⟨v, he, ho, hb⟩ => ⟨v, he, SgOwn.of ho, hb⟩
    have IM : ∀ g w, w.rowIs g 77 (n * 2) (fun i => .int .i64 (spW p i)) → Calls Try.prog 23 #[.agg #[.slice (some ⟨g, 0, none⟩) n n]] w (fun e w' => ∃ v, e = .returned v ∧ SgOwn w' w.heap.size v (tuN n p) (sdW n p) ∧ Below w.heap.size w w') := fun g w R => (implSegs_all _ n n p hs (Nat.le_refl _) (by omega) w (spIn_row R)).mono fun e w' ⟨v, he, ho, hb⟩ => ⟨v, he, SgOwn.of ho, hb⟩
    have hm := tuN_le2 n p hs
    revert SP IM hm
    generalize tuN n p = m
    generalize sdW n p = q
    intro SP IM hm
    have hsI : (n : Int) ≤ 1048576 := by omega
    have cBA := BA.c 0 rfl
    go_wp2_with fail
    refine (SZ _).mono ?_
    rintro e w1 ⟨rfl, hB⟩
    replace HB := HB.trans (hB.mono HB.size); replace BA := BA.step hB
    clear hB
    clear SZ cBA
    have hz : ¬ ((1048576 : Int) - n < 0) := by omega
    have cBA := BA.c 0 rfl
    go_wp2_with fail
    refine (TR _ (HS.out.step HB)).mono ?_
    rintro e w2 ⟨ga, rfl, la, Ra, hB⟩
    replace HB := HB.trans (hB.mono HB.size); replace BA := BA.step hB
    clear hB
    clear cBA
    go_wp2_with fail
    refine (SP ga _ Ra).mono ?_
    rintro e w3 ⟨v1, rfl, N1, hB⟩
    replace HB := HB.trans (hB.mono HB.size); replace BA := BA.step hB
    clear hB
    have q1 : Hid (∀ g, v1.ownBlock = some g → g < w3.heap.size) := fun g hg => (N1.lt hg).2
    have hw3 : w.heap.size < w3.heap.size := BA.lt
    clear Ra la SP
    have cBA := BA.c 0 rfl
    go_wp2_with fail
    refine (TR _ (HS.out.step HB)).mono ?_
    rintro e w4 ⟨g2, rfl, l2, R2, hB⟩
    have s4 := hB.size
    clear cBA
    replace HB := HB.trans (hB.mono HB.size); replace BA := BA.step hB; replace N1 := N1.step hB
    clear hB
    have zg2 := R2.lt
    have B2 := Blk.new w4 [.slice (some ⟨g2, 0, none⟩) n n] 35 rfl
    replace BA := BA.alloc (.cells #[.slice (some ⟨g2, 0, none⟩) n n] 35)
    replace N1 := N1.step ((Below.refl _ _).alloc (Nat.le_refl _) (.cells #[.slice (some ⟨g2, 0, none⟩) n n] 35))
    replace R2 := rows_step R2 ((Below.refl _ _).alloc (Nat.le_refl _) (.cells #[.slice (some ⟨g2, 0, none⟩) n n] 35))
    replace HB := HB.alloc HB.size (.cells #[.slice (some ⟨g2, 0, none⟩) n n] 35)
    have cB2 := B2.c 0 rfl
    go_wp2_with fail
    have zzW4 : (w4.alloc (.cells #[.slice (some ⟨g2, 0, none⟩) n n] 35)).heap.size = w4.heap.size + 1 := by simp
    generalize w4.alloc (.cells #[.slice (some ⟨g2, 0, none⟩) n n] 35) = W4 at *
    refine (IM g2 _ R2).mono ?_
    rintro e w5 ⟨v2, rfl, N2, hB⟩
    have s5 := hB.size
    clear cB2
    replace HB := HB.trans (hB.mono HB.size); replace BA := BA.step hB; replace B2 := B2.step hB; replace N1 := N1.step hB; replace R2 := rows_step R2 hB
    clear hB
    have q2 : Hid (∀ g, v2.ownBlock = some g → W4.heap.size ≤ g ∧ g < w5.heap.size) := fun g hg => N2.lt hg
    go_wp2_with fail
    refine (eqSegs_own hm _ N2 N1).mono ?_
    rintro e w6 ⟨rfl, hB⟩
    have s6 := hB.size
    replace HB := HB.trans (hB.mono HB.size); replace BA := BA.step hB; replace B2 := B2.step hB; replace N1 := N1.step hB; replace N2 := N2.step hB; replace R2 := rows_step R2 hB
    clear hB
    have HK : ∀ w', Below w6.heap.size w6 w' → (fun w' => w'.cell? ⟨w4.heap.size, 0, none⟩ = some (.slice (some ⟨g2, 0, none⟩) n n) ∧ w'.cell? ⟨w.heap.size, 0, none⟩ = some (.slice ao n cap)) w' := fun w' hB => ⟨(B2.step hB).c 0 rfl, (BA.step hB).c 0 rfl⟩
    have CH : Below w6.heap.size w6 w6 := Below.refl _ _
    have HTR : Hid (∀ W, Below w6.heap.size w6 W → Calls Try.prog 15 #[.agg #[.slice ao n cap]] W (fun e w' => ∃ g, e = .returned (.agg #[.slice (some ⟨g, 0, none⟩) n n]) ∧ W.heap.size ≤ g ∧ w'.rowIs g 77 (n * 2) (fun i => .int .i64 (spW p i)) ∧ Below W.heap.size W w')) := fun W h => TR W (HS.out.step (HB.trans (h.mono HB.size)))
    have HEQ : Hid (∀ W, Below w6.heap.size w6 W → ∀ g7, W.rowIs g7 77 (n * 2) (fun i => .int .i64 (spW p i)) → Calls Try.prog 17 #[.agg #[.slice (some ⟨g2, 0, none⟩) n n], .agg #[.slice (some ⟨g7, 0, none⟩) n n]] W (BoolP true W)) := fun W h g7 R7 => eqRing_any _ _ n n n p hs W (spIn_row (rows_step R2 h)) (spIn_row R7)
    go_upto_region 10 with fail
    go_region_held3 (fun w' => w'.cell? ⟨w4.heap.size, 0, none⟩ = some (.slice (some ⟨g2, 0, none⟩) n n) ∧ w'.cell? ⟨w.heap.size, 0, none⟩ = some (.slice ao n cap)) (first | (with_reducible exact HK _ CH) | (with_reducible exact HK _ CH.drew))
      (first
        | (go_at_call 15; refine (HTR.out _ (by first | (with_reducible exact CH) | (with_reducible exact CH.drew))).mono ?_; rintro e w7 ⟨g7, rfl, _, R7, hB⟩; (first | (have CH1 := CH.trans (hB.mono CH.size)) | (have CH1 := CH.drew.trans (hB.mono CH.drew.size))); clear CH; have CH := CH1; clear CH1; clear hB)
        | (go_at_call 17; refine (HEQ.out _ (by first | (with_reducible exact CH) | (with_reducible exact CH.drew)) g7 (by first | (with_reducible exact R7) | (with_reducible exact R7.drew))).mono ?_; rintro e w8 ⟨rfl, hB⟩; (first | (have CH1 := CH.trans (hB.mono CH.size)) | (have CH1 := CH.drew.trans (hB.mono CH.drew.size))); clear CH; have CH := CH1; clear CH1; clear hB))
    have hB : Below w6.heap.size w6 w8 := CH
    clear CH HK HTR HEQ R7
    have s8 := hB.size
    replace HB := HB.trans (hB.mono HB.size); replace BA := BA.step hB; replace B2 := B2.step hB; replace N1 := N1.step hB; replace N2 := N2.step hB; replace R2 := rows_step R2 hB
    clear hB
    have cB2 := B2.c 0 rfl
    go_wp2_with fail
    refine (markRing_any _ n p g2 hs _ (SpOwn.row R2 (Nat.le_refl _) hs)).mono ?_
    rintro e w9 ⟨rfl, _, KM⟩
    clear cB2
    replace KM : OtherB (some g2) w8 w9 := KM
    replace HB := KM.2.2 w (fun g hg => by cases hg; omega) HB
    replace BA := KM.blk (fun e => by have := Option.some.inj e; omega) BA
    replace B2 := KM.blk (fun e => by have := Option.some.inj e; omega) B2
    replace N1 := KM.gown N1 (fun g hg e => by have e2 := Option.some.inj e; have := q1.out g hg; omega)
    replace N2 := KM.gown N2 (fun g hg e => by have e2 := Option.some.inj e; have := (q2.out g hg).1; omega)
    clear KM R2
    have hk1 : ¬ ((n : Int) * 2 + 1 < 0) := by omega
    go_wp2_with fail
    refine (eqSegs_own hm _ N2 N1).mono ?_
    rintro e w10 ⟨rfl, hB⟩
    replace HB := HB.trans (hB.mono HB.size); replace BA := BA.step hB; replace B2 := B2.step hB; replace N1 := N1.step hB; replace N2 := N2.step hB
    clear hB
    go_wp2_with fail
    refine (markSegO_any _ m q _ hm _ N2).mono ?_
    rintro e w11 ⟨rfl, N2', KM⟩
    replace HB := KM.2.2 w (fun g hg => by have := q2.out g hg; omega) HB
    replace BA := KM.blk (fun e => by have := q2.out _ e.symm; omega) BA
    replace B2 := KM.blk (fun e => by have := q2.out _ e.symm; omega) B2
    replace N1 := KM.gown N1 (fun g hg e => by have := q1.out g hg; have := q2.out _ e.symm; omega)
    clear KM N2
    have N2 := N2'
    clear N2' q1 q2
    have hk2 : ¬ ((m : Int) * 4 + 1 < 0) := by omega
    have hk3 : (((m : Int) * 4 + 1) != ((m : Int) * 4 + 1)) = false := by simp
    go_wp2_with fail
    refine (heldSegO_any _ m _ hm _ N2).mono ?_
    rintro e w12 ⟨rfl, hB⟩
    replace HB := HB.trans (hB.mono HB.size); replace BA := BA.step hB; replace B2 := B2.step hB; replace N1 := N1.step hB; replace N2 := N2.step hB
    clear hB
    have cBA := BA.c 0 rfl
    go_wp2_with fail
    refine (TR _ (HS.out.step HB)).mono ?_
    rintro e w13 ⟨g13, rfl, _, R13, hB⟩
    clear cBA
    replace HB := HB.trans (hB.mono HB.size); replace BA := BA.step hB; replace B2 := B2.step hB; replace N1 := N1.step hB; replace N2 := N2.step hB
    clear hB
    go_wp2_with fail
    refine (IM g13 _ R13).mono ?_
    rintro e w14 ⟨v4, rfl, N4, hB⟩
    replace HB := HB.trans (hB.mono HB.size); replace BA := BA.step hB; replace B2 := B2.step hB; replace N1 := N1.step hB; replace N2 := N2.step hB
    clear hB
    clear R13 IM TR
    go_wp2_with fail
    refine (eqSegs_own hm _ N4 N1).mono ?_
    rintro e w15 ⟨rfl, hB⟩
    replace HB := HB.trans (hB.mono HB.size); replace BA := BA.step hB; replace B2 := B2.step hB; replace N1 := N1.step hB; replace N2 := N2.step hB; replace N4 := N4.step hB
    clear hB
    go_wp2_with fail
    refine (heldSegO_any _ m _ hm _ N2).mono ?_
    rintro e w16 ⟨rfl, hB⟩
    replace HB := HB.trans (hB.mono HB.size); replace BA := BA.step hB; replace B2 := B2.step hB; replace N1 := N1.step hB; replace N2 := N2.step hB; replace N4 := N4.step hB
    clear hB
    clear BA B2 N1 N2 N4
    go_wp2
    go_ret
    exact ⟨rfl, HB⟩
  · rw [if_neg (by omega)] at SZ
    have cBA := BA.c 0 rfl
    go_wp2_with fail
    refine (SZ _).mono ?_
    rintro e w1 ⟨rfl, hB⟩
    replace HB := HB.trans (hB.mono HB.size)
    clear SZ cBA hB BA
    go_wp2
    go_ret
    exact ⟨rfl, HB⟩
end Go.Proofs.Ythgodemncbmmgaa

/- How spots and segments read as data, beside points: opened and shut. -/
namespace Go.Proofs.Ythgodemncbmmgaa
open Go.ChangeShapes Go.WideShapes Go.ChangeAt Go.RowKit Go.Joins
abbrev Wf (x : Int) : Prop := (Lit.int .i64 x).wf = true
abbrev SpD {H : Type} (x y : Int) : DataW H := .agg [.lit (.int .i64 x), .lit (.int .i64 y)]
theorem trod_spot {H : Type} {enc : TypeId × Value → H} {w : World} {base : Nat} {spare : TypeId → Bool} {held : Bool} {n : Nat} {c0 c1 : Value} {y : DataW H × List MemPlace} (h : DataW.trod enc Try.prog w base spare held n 112 [c0, c1] = some y) :
    ∃ a b : Int, c0 = .int .i64 a ∧ c1 = .int .i64 b ∧ y = (SpD a b, []) ∧ Wf a ∧ Wf b := by
  obtain ⟨y0, y1, m, hx, _, h0, h1⟩ := trod_struct2 Try.underlying112 h
  obtain ⟨a, e0, rfl, wa⟩ := DataW.trod_int Try.underlying2 h0
  obtain ⟨b, e1, rfl, wb⟩ := DataW.trod_int Try.underlying2 h1
  have k : Try.prog.cellsOf 2 = 1 := by kernel_rfl
  simp [k] at e0 e1
  exact ⟨a, b, e0, e1, hx, wa, wb⟩
end Go.Proofs.Ythgodemncbmmgaa

/- What the row of a law asks of the program as a whole, each by itself. -/
namespace Go.Proofs.Ythgodemncbmmgaa
open Go.ChangeShapes Go.WideShapes Go.ChangeAt Go.RowKit Go.Joins
theorem jn_laid : laidOutB Try.pinned.checked.prog = true := by kernel_rfl
theorem jn_maps : mapsRowed Try.pinned.checked.prog = true := by kernel_rfl
theorem jn_enter : Try.pinned.checked.prog.mayEnter = true := by kernel_rfl
theorem jn_heard : Try.pinned.checked.prog.stopsHeard = true := by kernel_rfl
end Go.Proofs.Ythgodemncbmmgaa
