/- Part 16 of the walks that the proof leans on. -/
import Derived.Test.YteakhlipmmfilaaGreatQy15
import Derived.Test.YteakhlipmmfilaaGreatQy8
import Derived.Test.YteakhlipmmfilaaGreatQy1
import Derived.Shelf.SlSortCmp.WholeK
import Derived.Test.YteakhlipmmfilaaGreatQy7
import Derived.Shelf.SlSortCmp.NoneTotal
import Derived.Test.YteakhlipmmfilaaGreatQy9
import Derived.RangeFuncLeaves
import Derived.Maps.OwnIn
namespace Go.Proofs.YteakhlipmmfilaaGreat
open Go.RowKit
set_option maxRecDepth 100000 in
set_option maxHeartbeats 8000000 in
theorem segs4_any (g : Nat) (ao : Option Addr) (n cap : Nat) (cs : List Int) (w : World) (R : Rdr w g ao n cap cs) :
   Calls Tryz.prog 42 #[.pointer (some ⟨g, 0, none⟩), .int .i64 4] w (SgsP g ao n cap cs w) := by
 have hg := R.lt
 obtain ⟨i0, hi, hz0, hz1, hz2⟩ := info_parts Tryz.infoSegD
 have O0 : SgRow (w.alloc (.cells #[] 53)) w.heap.size (.slice (some ⟨w.heap.size, 0, none⟩) 0 0) 0 [] := ⟨by
   have := World.ownsRow_made (e := 53) (size := 4) (base := w.heap.size) w #[] 0 (Nat.le_refl _) (by decide) rfl
   simpa using this, fun z hz => by simp at hz⟩
 replace R := R.alloc (.cells #[] 53)
 have K := (Kept.refl g w).alloc (.cells #[] 53)
 go_enter Tryz.func42, Tryz.ntmps42
 go_wp2_with fail
 refine (below_any 5 (by decide) (by decide) g ao n cap cs _ R).mono ?_
 rintro e w1 ⟨_, rfl, ⟨m, rfl, m0, m1⟩, R1, K1⟩
 replace O0 := O0.kept K1 hg
 replace K := K.trans K1
 clear R K1
 have R := R1
 clear R1
 go_wp2_with fail
 go_loopw [5, 7] (fun o i wr => ∃ (c : Nat) (L : List Int), (c : Int) ≤ m ∧ i = .int .i64 c ∧ SgRow wr w.heap.size o c L ∧ Rdr wr g ao n cap cs ∧ Kept g w wr) (fun _ i _ => m.toNat - (intOf i).toNat)
 case atStart => exact ⟨0, [], by omega, rfl, O0, R, K⟩
 case round =>
   clear O0 R K
   obtain ⟨c, L, hcm, rfl, O, R, K⟩ := hrel
   by_cases hlt : (c : Int) < m
   · go_wp2_with fail
     refine (spot_any g ao n cap cs _ R).mono ?_
     rintro e w2 ⟨_, rfl, ⟨x, y, rfl, x0, x1, y0, y1⟩, R1, K1⟩
     replace O := O.kept K1 hg
     replace K := K.trans K1
     clear R K1
     have X2 := Blk.new w2 [.int .i64 x, .int .i64 y] 51 rfl
     rw [show ([.int .i64 x, .int .i64 y] : List Value).toArray = #[.int .i64 x, .int .i64 y] from rfl] at X2
     have R := R1.alloc (.cells #[.int .i64 x, .int .i64 y] 51)
     have hk2 := K.size
     have hv2 : ∀ k, u5.ownBlock = some k → k < w2.heap.size := fun k hk => (O.own.lt k hk).2
     replace K := K.alloc (.cells #[.int .i64 x, .int .i64 y] 51)
     replace O := O.alloc (.cells #[.int .i64 x, .int .i64 y] 51)
     clear R1
     go_wp2_with fail
     refine (spot_any g ao n cap cs _ R).mono ?_
     rintro e w3 ⟨_, rfl, ⟨r, s, rfl, r0, r1, s0, s1⟩, R1, K1⟩
     replace O := O.kept K1 hg
     replace K := K.trans K1
     replace X2 := X2.kept K1 (by omega)
     clear R K1
     have hx2 := X2.lt
     have X3 := Blk.new w3 [.int .i64 r, .int .i64 s] 51 rfl
     rw [show ([.int .i64 r, .int .i64 s] : List Value).toArray = #[.int .i64 r, .int .i64 s] from rfl] at X3
     have T : SgSt w (w3.alloc (.cells #[.int .i64 r, .int .i64 s] 51)) g ao n cap cs u5 c L w2.heap.size w3.heap.size := ⟨R1.alloc _, K.alloc _, O.alloc _, ⟨x, y, by constructor <;> omega, by constructor <;> omega, X2.alloc _⟩, ⟨r, s, by constructor <;> omega, by constructor <;> omega, X3⟩, hg, hk2, hx2, hv2⟩
     clear R1 K O X2 X3 x0 x1 y0 y1 r0 r1 s0 s1
     go_upto_region 8 with fail
     revert T
     generalize (w3.alloc (.cells #[.int .i64 r, .int .i64 s] 51)) = W8
     intro T
     clear hx2 hv2 hk2
     generalize w2.heap.size = GA at *
     generalize w3.heap.size = GB at *
     go_cut [31] (fun pv wx => (∃ t : Bool, pv = .bool t ∧ (t = true → 0 < c)) ∧ SgSt w wx g ao n cap cs u5 c L GA GB)
     case first =>
       rcases Nat.eq_zero_or_pos c with h0 | h0
       · have i0' : ¬ (0 : Int) < (c : Int) := by omega
         clear h0
         go_wp2_with fail
         go_meet
         case rel => exact ⟨⟨false, rfl, fun h => by cases h⟩, T⟩
       · have i0' : (0 : Int) < (c : Int) := by omega
         go_wp2_with fail
         refine (once_any 3 (by decide) (by decide) g ao n cap cs _ T.rdr).mono ?_
         rintro e w4 ⟨_, rfl, ⟨t, rfl⟩, R1, K1⟩
         replace T := T.draw R1 K1
         clear R1 K1
         go_wp2
         go_meet
         case rel => exact ⟨⟨t, rfl, fun _ => h0⟩, T⟩
     case rest =>
       clear T
       obtain ⟨⟨t, rfl, ht⟩, T⟩ := hcut
       rename_i hk
       refine hk _ _ ?_
       clear hk
       go_cut [] (fun wx => SgSt w wx g ao n cap cs u5 c L GA GB)
       case first =>
         cases t
         · go_wp2
           go_meet
           case rel => exact T
         · have h0 := ht rfl
           obtain ⟨gr, cap', a, b, d, e, hu, hbr, hgr, c0, c1, c2, c3, c3', ia, ib, id, ie⟩ := T.row.four (i := c - 1) (by omega)
           obtain ⟨k, hk⟩ : ∃ k, k = c - 1 := ⟨_, rfl⟩
           rw [← hk] at c0 c1 c2 c3 c3'
           subst hu
           have wC : IntKind.i64.wrap ((c : Int) - 1) = (k : Int) := by rw [IntKind.wrap_i64]; omega
           have kc : (k : Int) < (c : Int) := by omega
           obtain ⟨p, q, ip, iq, A⟩ := T.a
           obtain ⟨a0, af0, a1, af1⟩ := A.cf2
           have al := A.lt
           have Q := T.putA id ie
           clear A T ht hk
           go_wp2
           go_meet
           case rel => exact Q
       case rest =>
         clear T
         have T := hcut
         clear hcut ht
         go_upto_region 10 with fail
         go_cut [43] (fun pv wx => (∃ t : Bool, pv = .bool t ∧ (t = true → 0 < c)) ∧ SgSt w wx g ao n cap cs u5 c L GA GB)
         case first =>
           rcases Nat.eq_zero_or_pos c with h0 | h0
           · have i0' : ¬ (0 : Int) < (c : Int) := by omega
             clear h0
             go_wp2_with fail
             go_meet
             case rel => exact ⟨⟨false, rfl, fun h => by cases h⟩, T⟩
           · have i0' : (0 : Int) < (c : Int) := by omega
             go_wp2_with fail
             refine (once_any 6 (by decide) (by decide) g ao n cap cs _ T.rdr).mono ?_
             rintro e w4 ⟨_, rfl, ⟨t, rfl⟩, R1, K1⟩
             replace T := T.draw R1 K1
             clear R1 K1
             go_wp2
             go_meet
             case rel => exact ⟨⟨t, rfl, fun _ => h0⟩, T⟩
         case rest =>
           clear T
           obtain ⟨⟨t, rfl, ht⟩, T⟩ := hcut
           rename_i hk
           refine hk _ _ ?_
           clear hk
           go_cut [] (fun wx => SgSt w wx g ao n cap cs u5 c L GA GB)
           case first =>
             cases t
             · go_wp2
               go_meet
               case rel => exact T
             · have h0 := ht rfl
               obtain ⟨gr, cap', a, b, d, e, hu, hbr, hgr, c0, c1, c2, c3, c3', ia, ib, id, ie⟩ := T.row.four (i := c - 1) (by omega)
               obtain ⟨k, hk⟩ : ∃ k, k = c - 1 := ⟨_, rfl⟩
               rw [← hk] at c0 c1 c2 c3 c3'
               subst hu
               have wC : IntKind.i64.wrap ((c : Int) - 1) = (k : Int) := by rw [IntKind.wrap_i64]; omega
               have kc : (k : Int) < (c : Int) := by omega
               have hrl : gr < GA := T.hv gr rfl
               clear ht hk c3
               go_upto_region 11 with fail
               refine sgX (GA := GA) (GB := GB) (GR := gr) (k := k) (c := c) (cap := cap') (C := c) (a := a) (b := b) (d := d) (e := e) (d2 := IntKind.i64.wrap (2 * d)) (e2 := IntKind.i64.wrap (2 * e)) (x2 := IntKind.i64.wrap (IntKind.i64.wrap (2 * d) - a)) (y2 := IntKind.i64.wrap (IntKind.i64.wrap (2 * e) - b)) T.hb wC kc rfl rfl rfl rfl ia ib (wrap_i _) (wrap_i _) rfl rfl rfl rfl c0 hrl c1 hrl c2 hrl c3' hrl rfl (by obtain ⟨p, q, ip, iq, A⟩ := T.a; obtain ⟨r, s, ir, is, B⟩ := T.b; exact ⟨⟨p, q, ip, iq, A.drew⟩, r, s, ir, is, B.drew⟩) ?_
               rintro ⟨tm, df⟩ Wz hz hdf hoff hBz ⟨ha, hb⟩
               simp only at hz hdf hoff
               subst hdf
               have htm := tmps_fold [44, 45, 46, 47, 48, 49, 50, 51, 52, 53, 54, 55, 56, 57, 58, 59, 60, 61, 62, 63, 64, 65, 66, 67, 68, 69, 70, 71, 72, 73, 74, 75, 76, 77, 78, 79, 80, 81, 82] tm _ hz hoff
               simp only [List.foldl, List.setIfInBounds_toArray, List.set_cons_zero, List.set_cons_succ] at htm
               clear hz hoff
               generalize tm.getD 44 undef = sl0, tm.getD 45 undef = sl1, tm.getD 46 undef = sl2, tm.getD 47 undef = sl3, tm.getD 48 undef = sl4, tm.getD 49 undef = sl5, tm.getD 50 undef = sl6, tm.getD 51 undef = sl7, tm.getD 52 undef = sl8, tm.getD 53 undef = sl9, tm.getD 54 undef = sl10, tm.getD 55 undef = sl11, tm.getD 56 undef = sl12, tm.getD 57 undef = sl13, tm.getD 58 undef = sl14, tm.getD 59 undef = sl15, tm.getD 60 undef = sl16, tm.getD 61 undef = sl17, tm.getD 62 undef = sl18, tm.getD 63 undef = sl19, tm.getD 64 undef = sl20, tm.getD 65 undef = sl21, tm.getD 66 undef = sl22, tm.getD 67 undef = sl23, tm.getD 68 undef = sl24, tm.getD 69 undef = sl25, tm.getD 70 undef = sl26, tm.getD 71 undef = sl27, tm.getD 72 undef = sl28, tm.getD 73 undef = sl29, tm.getD 74 undef = sl30, tm.getD 75 undef = sl31, tm.getD 76 undef = sl32, tm.getD 77 undef = sl33, tm.getD 78 undef = sl34, tm.getD 79 undef = sl35, tm.getD 80 undef = sl36, tm.getD 81 undef = sl37, tm.getD 82 undef = sl38 at htm
               subst htm
               have Q := T.low hBz ha hb
               clear hBz ha hb T c0 c1 c2 c3'
               go_wp2
               go_meet
               case rel => exact Q
           case rest =>
             clear T
             have T := hcut
             clear hcut ht
             go_upto_region 12 with fail
             go_cut [85] (fun pv wx => (∃ t : Bool, pv = .bool t) ∧ SgSt w wx g ao n cap cs u5 c L GA GB)
             case first =>
               obtain ⟨p, q, ip, iq, A⟩ := T.a
               obtain ⟨r, s, ir, is, B⟩ := T.b
               obtain ⟨a0, a1⟩ := A.cs2
               obtain ⟨b0, b1⟩ := B.cs2
               have E := eqSpo p q r s
               generalize (decide (p = r) && decide (q = s)) = t at E
               clear A B ip iq ir is
               go_wp2
               go_meet
               case rel => exact ⟨⟨t, rfl⟩, T⟩
             case rest =>
               clear T
               obtain ⟨⟨t, rfl⟩, T⟩ := hcut
               rename_i hk
               refine hk _ _ ?_
               clear hk
               go_cut [] (fun wx => SgSt w wx g ao n cap cs u5 c L GA GB)
               case first =>
                 cases t
                 · go_wp2
                   go_meet
                   case rel => exact T
                 · obtain ⟨r, s, ir, is, B⟩ := T.b
                   obtain ⟨b0, bf0, b1, bf1⟩ := B.cf2
                   have bl := B.lt
                   obtain ⟨s', hs'⟩ : ∃ s', IntKind.i64.wrap (s + 1) = s' := ⟨_, rfl⟩
                   have is' : I64 s' := hs' ▸ wrap_i _
                   have Q := T.putB is'
                   clear T B ir is is'
                   go_wp2
                   go_meet
                   case rel => exact Q
               case rest =>
                 clear T
                 have T := hcut
                 clear hcut
                 obtain ⟨p, q, ip, iq, A⟩ := T.a
                 obtain ⟨r, s, ir, is, B⟩ := T.b
                 obtain ⟨a0, a1⟩ := A.cs2
                 obtain ⟨b0, b1⟩ := B.cs2
                 obtain ⟨a, b, d, e, k, ia, ib, id, ie, CS⟩ := segOf_ex p q r s ip iq ir is
                 clear A B ip iq ir is
                 go_wp2_with fail
                 clear a0 a1 b0 b1
                 refine (CS _).mono ?_
                 rintro ee w5 ⟨rfl, hB⟩
                 have O := T.row.step hB
                 have R := T.rdr.step hB
                 have K := T.kept.trans (Kept.of hB)
                 have hGA := T.ha
                 clear hB CS T
                 have X := Blk.new w5 [.int .i64 a, .int .i64 b, .int .i64 d, .int .i64 e] 53 rfl
                 rw [show ([.int .i64 a, .int .i64 b, .int .i64 d, .int .i64 e] : List Value).toArray = #[.int .i64 a, .int .i64 b, .int .i64 d, .int .i64 e] from rfl] at X
                 replace O := O.alloc (.cells #[.int .i64 a, .int .i64 b, .int .i64 d, .int .i64 e] 53)
                 replace R := R.alloc (.cells #[.int .i64 a, .int .i64 b, .int .i64 d, .int .i64 e] 53)
                 replace K := K.alloc (.cells #[.int .i64 a, .int .i64 b, .int .i64 d, .int .i64 e] 53)
                 go_upto_region 15 with fail
                 revert X O R K
                 generalize (w5.alloc (.cells #[.int .i64 a, .int .i64 b, .int .i64 d, .int .i64 e] 53)) = W5
                 generalize w5.heap.size = gs
                 intro X O R K
                 obtain ⟨x0, x1, x2, x3⟩ := X.cs4
                 have xl := X.lt
                 have hks := K.size
                 clear X
                 replace K := K.alloc (.cells #[.int .i64 a, .int .i64 b, .int .i64 d, .int .i64 e] 53)
                 replace R := R.alloc (.cells #[.int .i64 a, .int .i64 b, .int .i64 d, .int .i64 e] 53)
                 go_wp2_with (at_builtin; refine wpList_append_own _ rfl _ _ 24 rfl w.heap.size 53 i0 (.agg #[.int .i64 0, .int .i64 0, .int .i64 0, .int .i64 0]) 4 32 Tryz.underlying24 hi hz0 hz1 hz2 rfl (by decide) _ _ _ rfl (O.own.alloc _) ⟨W5.heap.size, 0, none⟩ 1 1 [.int .i64 a, .int .i64 b, .int .i64 d, .int .i64 e] rfl rfl (four_new _ _ _ _ _ _) (four_one _ _ _ _) (by unfold maxLen; omega) (by omega) (by simp; omega) ?_)
                 intro v' w6 hown2 hgrow2 hnn
                 have O2 := SgRow.app hown2 O.i64 ia ib id ie
                 have hlt2 : ∀ k, u5.ownBlock = some k → w.heap.size ≤ k := fun k hk => (O.own.lt k hk).1
                 have K2 := kept_grown K hgrow2 hlt2
                 have R2 := rdr_grown R hgrow2 (fun k hk => by have := hlt2 k hk; omega)
                 clear hown2 hgrow2 hnn O K R x0 x1 x2 x3 hlt2
                 go_wp2
                 go_roundw
                 case rel => exact ⟨c + 1, _, by omega, by go_num, O2, R2, K2⟩
                 case measure => simp [intOf]; omega
   · obtain rfl : m = (c : Int) := by omega
     have hc6 : c ≤ 6 := by omega
     go_wp2_with fail
     refine (once_any 40 (by decide) (by decide) g ao n cap cs _ R).mono ?_
     rintro e w2 ⟨_, rfl, ⟨t, rfl⟩, R1, K1⟩
     replace O := O.kept K1 hg
     replace K := K.trans K1
     clear R K1
     have R := R1
     clear R1
     cases t
     · go_wp2
       go_ret
       exact ⟨_, c, L, rfl, hc6, O, R, K⟩
     · rcases Nat.eq_zero_or_pos c with h0 | h0
       · have i0' : ¬ (0 : Int) < (c : Int) := by omega
         clear h0
         go_wp2
         go_ret
         exact ⟨_, c, L, rfl, hc6, O, R, K⟩
       · have i0' : (0 : Int) < (c : Int) := by omega
         go_wp2_with fail
         refine (below_pos c (by omega) (by omega) g ao n cap cs _ R).mono ?_
         rintro e w3 ⟨_, rfl, ⟨j', rfl, j0, j1⟩, R1, K1⟩
         replace O := O.kept K1 hg
         replace K := K.trans K1
         clear R K1
         have R := R1
         clear R1
         obtain ⟨j, rfl⟩ : ∃ j : Nat, j' = j := ⟨j'.toNat, by omega⟩
         go_wp2_with fail
         refine (seg_any g ao n cap cs _ R).mono ?_
         rintro e w4 ⟨_, rfl, ⟨a, b, d, e, rfl, ia, ib, id, ie⟩, R1, K1⟩
         replace O := O.kept K1 hg
         replace K := K.trans K1
         clear R K1
         have R := R1
         clear R1
         obtain ⟨gr, cap', hu, hbr, _, _⟩ := ownG_form O.own h0
         subst hu
         have hlen := O.len
         have B := ownG_blk O.own
         have bl := B.lt
         have hcf : ∀ i, i < 4 → (∃ u, w4.cell? ⟨gr, j * 4 + i, none⟩ = some u) ∧ w4.frozen? ⟨gr, j * 4 + i, none⟩ = false := fun i hi => by
           have hl2 : j * 4 + i < (L.map (Value.int .i64)).length := by rw [List.length_map]; omega
           exact ⟨⟨_, B.c (j * 4 + i) (List.getElem?_eq_getElem hl2)⟩, B.f (j * 4 + i) (List.getElem?_eq_getElem hl2)⟩
         obtain ⟨⟨v0, c0⟩, f0⟩ := hcf 0 (by decide)
         obtain ⟨⟨v1, c1⟩, f1⟩ := hcf 1 (by decide)
         obtain ⟨⟨v2, c2⟩, f2⟩ := hcf 2 (by decide)
         obtain ⟨⟨v3, c3⟩, f3⟩ := hcf 3 (by decide)
         simp only [Nat.add_zero] at c0 f0
         have Q := (((O.set (j * 4) ia).set (j * 4 + 1) ib).set (j * 4 + 2) id).set (j * 4 + 3) ie
         have K2 := (((K.setN (p := ⟨gr, j * 4, none⟩) hbr (by show g ≠ gr; omega) (.int .i64 a)).setN (p := ⟨gr, j * 4 + 1, none⟩) hbr (by show g ≠ gr; omega) (.int .i64 b)).setN (p := ⟨gr, j * 4 + 2, none⟩) hbr (by show g ≠ gr; omega) (.int .i64 d)).setN (p := ⟨gr, j * 4 + 3, none⟩) hbr (by show g ≠ gr; omega) (.int .i64 e)
         have R2 := (((R.setN (p := ⟨gr, j * 4, none⟩) (by show g < gr; omega) (.int .i64 a)).setN (p := ⟨gr, j * 4 + 1, none⟩) (by show g < gr; omega) (.int .i64 b)).setN (p := ⟨gr, j * 4 + 2, none⟩) (by show g < gr; omega) (.int .i64 d)).setN (p := ⟨gr, j * 4 + 3, none⟩) (by show g < gr; omega) (.int .i64 e)
         clear B O K R hcf
         go_wp2
         go_ret
         exact ⟨_, c, _, rfl, hc6, Q, R2, K2⟩
abbrev Sd := Int × Int × Int × Int
def sgLt (s t : Sd) : Bool := decide ((s.1 < t.1 ∨ (s.1 = t.1 ∧ s.2.1 < t.2.1)) ∨ ((s.1 = t.1 ∧ s.2.1 = t.2.1) ∧ (s.2.2.1 < t.2.2.1 ∨ (s.2.2.1 = t.2.2.1 ∧ s.2.2.2 < t.2.2.2))))
theorem sgLt_iff {s t : Sd} : sgLt s t = true ↔ (s.1 < t.1 ∨ (s.1 = t.1 ∧ s.2.1 < t.2.1)) ∨ ((s.1 = t.1 ∧ s.2.1 = t.2.1) ∧ (s.2.2.1 < t.2.2.1 ∨ (s.2.2.1 = t.2.2.1 ∧ s.2.2.2 < t.2.2.2))) := decide_eq_true_iff
def or2 (a b : Int) : Int := if a = 0 then b else a
def cfP (a b c d : Int) : Int := or2 (Lib.compareInt a c) (Lib.compareInt b d)
def cfS (s t : Sd) : Int := or2 (cfP s.1 s.2.1 t.1 t.2.1) (cfP s.2.2.1 s.2.2.2 t.2.2.1 t.2.2.2)
theorem cmp_cases (x y : Int) : (x < y ∧ Lib.compareInt x y = -1) ∨ (x = y ∧ Lib.compareInt x y = 0) ∨ (y < x ∧ Lib.compareInt x y = 1) := by
 unfold Lib.compareInt
 rcases Int.lt_trichotomy x y with h | h | h
 · exact .inl ⟨h, by simp [h]⟩
 · exact .inr (.inl ⟨h, by subst h; simp⟩)
 · exact .inr (.inr ⟨h, by simp [h]; omega⟩)
theorem cf_lt (s t : Sd) : ltOf cfS s t = sgLt s t := by
 obtain ⟨a, b, c, d⟩ := s
 obtain ⟨p, q, u, v⟩ := t
 have key : cfS (a, b, c, d) (p, q, u, v) < 0 ↔ (a < p ∨ (a = p ∧ b < q)) ∨ ((a = p ∧ b = q) ∧ (c < u ∨ (c = u ∧ d < v))) := by
   unfold cfS cfP or2
   simp only
   rcases cmp_cases a p with ⟨h1, e1⟩ | ⟨h1, e1⟩ | ⟨h1, e1⟩ <;> rcases cmp_cases b q with ⟨h2, e2⟩ | ⟨h2, e2⟩ | ⟨h2, e2⟩ <;> rcases cmp_cases c u with ⟨h3, e3⟩ | ⟨h3, e3⟩ | ⟨h3, e3⟩ <;> rcases cmp_cases d v with ⟨h4, e4⟩ | ⟨h4, e4⟩ | ⟨h4, e4⟩ <;> simp [e1, e2, e3, e4] <;> omega
 unfold ltOf sgLt
 exact decide_eq_decide.2 key
theorem sg_tot {s t : Sd} (h1 : sgLt s t = false) (h2 : sgLt t s = false) : s = t := by
 obtain ⟨a, b, c, d⟩ := s
 obtain ⟨p, q, u, v⟩ := t
 have h1 := of_decide_eq_false h1
 have h2 := of_decide_eq_false h2
 simp only at h1 h2
 have e1 : a = p := by omega
 have e2 : b = q := by omega
 have e3 : c = u := by omega
 have e4 : d = v := by omega
 rw [e1, e2, e3, e4]
theorem sg_swo : Sort.SWO (ltOf cfS) where
 irrefl x := by
   rw [cf_lt]
   exact decide_eq_false (by omega)
 trans x y z h1 h2 := by
   rw [cf_lt] at *
   have h1 := sgLt_iff.1 h1
   have h2 := sgLt_iff.1 h2
   exact sgLt_iff.2 (by omega)
 ntrans x y z h1 h2 := by
   rw [cf_lt] at *
   have h1 := of_decide_eq_false h1
   have h2 := of_decide_eq_false h2
   exact decide_eq_false (by omega)
def insS (out : List Sd) (s : Sd) : List Sd := out.takeWhile (fun t => sgLt t s) ++ s :: out.dropWhile (fun t => sgLt t s)
theorem insS_perm (out : List Sd) (s : Sd) : (insS out s).Perm (out ++ [s]) := by
 unfold insS
 refine List.perm_middle.trans ?_
 rw [List.takeWhile_append_dropWhile]
 exact List.perm_append_comm (l₁ := [s]) (l₂ := out)
def srtS (l : List Sd) : Prop := l.Pairwise (fun a b => sgLt b a = false)
theorem insS_sorted {out : List Sd} (h : srtS out) (s : Sd) : srtS (insS out s) := by
 induction out with
 | nil => exact List.pairwise_singleton _ _
 | cons a r ih =>
   have h' := List.pairwise_cons.1 h
   unfold insS
   cases hc : sgLt a s with
   | true =>
     rw [List.takeWhile_cons, List.dropWhile_cons, hc]
     simp only [if_true, List.cons_append]
     refine List.pairwise_cons.2 ⟨fun b hb => ?_, ih h'.2⟩
     have hb2 := (insS_perm r s).mem_iff.1 (show b ∈ insS r s from hb)
     rcases List.mem_append.1 hb2 with hb3 | hb3
     · exact h'.1 b hb3
     · obtain rfl := List.mem_singleton.1 hb3
       have h1 := sgLt_iff.1 hc
       exact decide_eq_false (by omega)
   | false =>
     rw [List.takeWhile_cons, List.dropWhile_cons, hc]
     refine List.pairwise_cons.2 ⟨fun b hb => ?_, h⟩
     rcases List.mem_cons.1 hb with rfl | hb
     · exact hc
     · have h1 := of_decide_eq_false hc
       have h2 := of_decide_eq_false (h'.1 b hb)
       exact decide_eq_false (by omega)
def allI (l : List Sd) : List Sd := l.foldl insS []
theorem fold_perm : ∀ (l out : List Sd), (l.foldl insS out).Perm (out ++ l)
 | [], out => by rw [List.append_nil]; exact List.Perm.refl _
 | s :: r, out => by
   refine (fold_perm r (insS out s)).trans ?_
   refine ((insS_perm out s).append_right r).trans ?_
   rw [List.append_assoc]
   exact List.Perm.refl _
theorem fold_sorted : ∀ (l out : List Sd), srtS out → srtS (l.foldl insS out)
 | [], _, h => h
 | s :: r, out, h => fold_sorted r (insS out s) (insS_sorted h s)
theorem sort_one {l d : List Sd} (hp : d.Perm l) (hs : srtS d) : d = allI l := by
 refine List.Perm.eq_of_pairwise (le := fun a b => sgLt b a = false) (fun a b _ _ h1 h2 => (sg_tot h2 h1)) hs (fold_sorted l [] List.Pairwise.nil) (hp.trans ?_)
 have := fold_perm l []
 rw [List.nil_append] at this
 exact this.symm
theorem allI_snoc (l : List Sd) (s : Sd) : allI (l ++ [s]) = insS (allI l) s := by
 unfold allI
 rw [List.foldl_append]
 rfl
theorem allI_len (l : List Sd) : (allI l).length = l.length := by
 have := (fold_perm l []).length_eq
 rw [List.nil_append] at this
 exact this
def GrB (w W : World) : Prop := ∃ (q : Nat) (os : Array Obj), W = Sort.grow (w.drewN q) os
theorem GrB.trans {a b c : World} (h : GrB a b) (k : GrB b c) : GrB a c := by
 obtain ⟨q, os, rfl⟩ := h
 obtain ⟨q', os', rfl⟩ := k
 refine ⟨q + q', os ++ os', ?_⟩
 show Sort.grow (Sort.grow ((a.drewN q).drewN q') os) os' = _
 rw [Sort.grow_grow, World.drewN_drewN]
theorem GrB.alloc (w : World) (o : Obj) : GrB w (w.alloc o) := ⟨0, #[o], by rw [Sort.alloc_eq_grow]; rfl⟩
theorem GrB.drew (w : World) : GrB w w.drew := ⟨1, #[], by rw [Sort.grow_empty]; rfl⟩
theorem GrB.below {w W : World} (h : GrB w W) : Below w.heap.size w W := by
 obtain ⟨q, os, rfl⟩ := h
 refine ⟨rfl, rfl, rfl, by show w.heap.size ≤ (w.heap ++ os).size; simp, fun k hk => ?_⟩
 show (w.heap ++ os)[k]? = w.heap[k]?
 rw [Array.getElem?_append_left hk]
def GrP (v : Value) (w : World) (e : Ending) (w' : World) : Prop := e = .returned v ∧ GrB w w'
set_option maxRecDepth 100000 in
set_option maxHeartbeats 4000000 in
theorem cmpE_any (x y : Int) (w : World) : Calls Tryz.prog 129 #[.int .i64 x, .int .i64 y] w (fun e w' => e = .returned (.int .i64 (Lib.compareInt x y)) ∧ w' = w) := by
 rcases cmp_cases x y with ⟨h, e⟩ | ⟨h, e⟩ | ⟨h, e⟩ <;> rw [e]
 · go_enter Tryz.func129, Tryz.ntmps129
   go_wp2
   go_ret
   exact ⟨rfl, rfl⟩
 · subst h
   go_enter Tryz.func129, Tryz.ntmps129
   go_wp2
   go_ret
   exact ⟨rfl, rfl⟩
 · have h2 : ¬ x < y := by omega
   go_enter Tryz.func129, Tryz.ntmps129
   go_wp2
   go_ret
   exact ⟨rfl, rfl⟩
set_option maxRecDepth 100000 in
set_option maxHeartbeats 4000000 in
theorem orE_any (g : Nat) (a b z : Int) (hz : or2 a b = z) (w : World) (h0 : w.cell? ⟨g, 0, none⟩ = some (.int .i64 a)) (h1 : w.cell? ⟨g, 1, none⟩ = some (.int .i64 b)) : Calls Tryz.prog 71 #[.slice (some ⟨g, 0, none⟩) 2 2] w (fun e w' => e = .returned (.int .i64 z) ∧ w' = w) := by
 unfold or2 at hz
 go_enter Tryz.func71, Tryz.ntmps71
 go_wp2_with fail
 go_loopw [8] (fun i wr => wr = w ∧ (i = .int .i64 0 ∨ (i = .int .i64 1 ∧ a = 0) ∨ (i = .int .i64 2 ∧ a = 0 ∧ b = 0))) (fun i _ => 2 - (intOf i).toNat)
 case atStart => exact ⟨rfl, .inl rfl⟩
 case round =>
   obtain ⟨rfl, rfl | ⟨rfl, ha⟩ | ⟨rfl, ha, hb⟩⟩ := hrel
   · by_cases ha : a = 0
     · have e0 : (a != 0) = false := by simp [ha]
       have HA : Hid (a = 0) := ha
       clear ha hz
       go_wp2
       go_roundw
       case rel => exact ⟨trivial, .inr (.inl ⟨rfl, HA.out⟩)⟩
       case measure => simp [intOf]
     · have e0 : (a != 0) = true := by simpa using ha
       rw [if_neg ha] at hz
       subst hz
       clear ha
       go_wp2
       go_ret
       exact ⟨rfl, rfl⟩
   · rw [if_pos ha] at hz
     have HA : Hid (a = 0) := ha
     by_cases hb : b = 0
     · have e0 : (b != 0) = false := by simp [hb]
       have HB : Hid (b = 0) := hb
       clear ha hb hz
       go_wp2
       go_roundw
       case rel => exact ⟨trivial, .inr (.inr ⟨rfl, HA.out, HB.out⟩)⟩
       case measure => simp [intOf]
     · have e0 : (b != 0) = true := by simpa using hb
       subst hz
       clear ha hb
       go_wp2
       go_ret
       exact ⟨rfl, rfl⟩
   · rw [if_pos ha] at hz
     obtain rfl : z = 0 := by rw [← hz]; exact hb
     clear ha hb h0 h1 hz
     go_wp2
     go_ret
     exact ⟨rfl, rfl⟩
def VogA (P2 P3 : Nat) (x y p q : Int) (_wb : World) (_B : Nat) : Nat → Value → World → Prop
 | 0, v, _ => v = .pointer (some ⟨P2, 0, none⟩)
 | 1, v, _ => v = .int .i64 x
 | 2, v, _ => v = .pointer (some ⟨P3, 0, none⟩)
 | 3, v, _ => v = .int .i64 p
 | 4, v, _ => v = .int .i64 (Lib.compareInt x p)
 | 5, v, _ => v = .pointer (some ⟨P2, 1, none⟩)
 | 6, v, _ => v = .int .i64 y
 | 7, v, _ => v = .pointer (some ⟨P3, 1, none⟩)
 | 8, v, _ => v = .int .i64 q
 | 9, v, _ => v = .int .i64 (Lib.compareInt y q)
 | 10, v, W => ∃ g, v = .slice (some ⟨g, 0, none⟩) 2 2 ∧ Blk W g [.int .i64 (Lib.compareInt x p), .int .i64 (Lib.compareInt y q)]
 | 11, v, _ => v = .int .i64 (or2 (Lib.compareInt x p) (Lib.compareInt y q))
 | 12, v, _ => v = .int .i64 (or2 (Lib.compareInt x p) (Lib.compareInt y q))
 | _, _, _ => True
theorem VogA.mono {P2 P3 : Nat} {x y p q : Int} {wb : World} {B j : Nat} {v : Value} {W W2 : World} (hB : Below W.heap.size W W2) (h : VogA P2 P3 x y p q wb B j v W) : VogA P2 P3 x y p q wb B j v W2 := by
 unfold VogA at *
 split <;> simp only at h <;> first | exact h | (obtain ⟨g9, e9, b9⟩ := h; exact ⟨g9, e9, b9.step hB⟩) | trivial
def SogA (_P2 _P3 : Nat) (_x _y _p _q : Int) (wb : World) (W : World) : Prop := GrB wb W
def JogA (P2 P3 : Nat) (x y p q : Int) (wb : World) (w0 : World) (a0 : Act) (lz : Array Bool) (az : Act) (W : World) : Prop := InvQ (w0.heap.size) [some 5, some 6, some 7, some 8, some 9, some 10, some 11, some 12, some 13, some 14, some 15, some 16, some 4] (VogA P2 P3 x y p q wb (w0.heap.size)) w0 a0 lz az W ∧ SogA P2 P3 x y p q wb W
set_option maxRecDepth 100000 in
set_option maxHeartbeats 4000000 in
theorem ogA {Q : Exit → Act → World → Prop} {P2 P3 : Nat} {x y p q : Int} {wb : World}  {w0 : World} {a0 : Act} {idq : Nat} {t0 t1 t2 t3 t4 t5 t6 t7 t8 t9 t10 t11 t12 : TypeId} {q0 q1 q2 q3 q4 q5 q6 q7 q8 q9 q10 q11 q12 : String}
    (h2 : a0.tmps[2]? = some (.pointer (some ⟨P2, 0, none⟩))) (h3 : a0.tmps[3]? = some (.pointer (some ⟨P3, 0, none⟩))) (k0 : w0.cell? ⟨P2, 0, none⟩ = some (.int .i64 x)) (l0 : (⟨P2, 0, none⟩ : Addr).block < w0.heap.size) (k1 : w0.cell? ⟨P2, 1, none⟩ = some (.int .i64 y)) (l1 : (⟨P2, 1, none⟩ : Addr).block < w0.heap.size) (k2 : w0.cell? ⟨P3, 0, none⟩ = some (.int .i64 p)) (l2 : (⟨P3, 0, none⟩ : Addr).block < w0.heap.size) (k3 : w0.cell? ⟨P3, 1, none⟩ = some (.int .i64 q)) (l3 : (⟨P3, 1, none⟩ : Addr).block < w0.heap.size) (hz : a0.tmps.size = 17) (hs0 : SogA P2 P3 x y p q wb w0.drew)
   (hQ : ∀ aq W, aq.tmps.size = a0.tmps.size → aq.defers = a0.defers → (∀ e, e ∉ ([5, 6, 7, 8, 9, 10, 11, 12, 13, 14, 15, 16, 4] : List Nat) → aq.tmps[e]? = a0.tmps[e]?) → VogA P2 P3 x y p q wb (w0.heap.size) 12 (aq.tmps.getD 4 undef) W → Below (w0.heap.size) w0 W → SogA P2 P3 x y p q wb W → Q .normal aq W) :
   (Code.region idq #[{ dst := some 5, op := Op.fieldAddr 51 (Operand.tmp 2) 0, type := t0, pos := q0, after := #[], guard := none },
   { dst := some 6, op := Op.load 2 (Operand.tmp 5), type := t1, pos := q1, after := #[{ on := 0, ground := Ground.data }], guard := none },
   { dst := some 7, op := Op.fieldAddr 51 (Operand.tmp 3) 0, type := t2, pos := q2, after := #[], guard := none },
   { dst := some 8, op := Op.load 2 (Operand.tmp 7), type := t3, pos := q3, after := #[{ on := 2, ground := Ground.data }], guard := none },
   { dst := some 9, op := Op.call { callee := Callee.value (Operand.func 129), args := #[Operand.tmp 6, Operand.tmp 8], argTypes := #[2, 2] }, type := t4, pos := q4, after := #[{ on := 1, ground := Ground.data }, { on := 3, ground := Ground.data }], guard := none },
   { dst := some 10, op := Op.fieldAddr 51 (Operand.tmp 2) 1, type := t5, pos := q5, after := #[], guard := none },
   { dst := some 11, op := Op.load 2 (Operand.tmp 10), type := t6, pos := q6, after := #[{ on := 5, ground := Ground.data }], guard := none },
   { dst := some 12, op := Op.fieldAddr 51 (Operand.tmp 3) 1, type := t7, pos := q7, after := #[], guard := none },
   { dst := some 13, op := Op.load 2 (Operand.tmp 12), type := t8, pos := q8, after := #[{ on := 7, ground := Ground.data }], guard := none },
   { dst := some 14, op := Op.call { callee := Callee.value (Operand.func 129), args := #[Operand.tmp 11, Operand.tmp 13], argTypes := #[2, 2] }, type := t9, pos := q9, after := #[{ on := 6, ground := Ground.data }, { on := 8, ground := Ground.data }, { on := 4, ground := Ground.chain }], guard := none },
   { dst := some 15, op := Op.buildSlice 163 2 #[(0, Operand.tmp 9), (1, Operand.tmp 14)], type := t10, pos := q10, after := #[{ on := 4, ground := Ground.data }, { on := 9, ground := Ground.data }], guard := none },
   { dst := some 16, op := Op.call { callee := Callee.value (Operand.func 71), args := #[Operand.tmp 15], argTypes := #[163] }, type := t11, pos := q11, after := #[{ on := 10, ground := Ground.data }, { on := 9, ground := Ground.chain }], guard := none },
   { dst := some 4, op := Op.assign (Operand.tmp 16), type := t12, pos := q12, after := #[{ on := 11, ground := Ground.data }, { on := 11, ground := Ground.chain }, { on := 0, ground := Ground.phase }, { on := 1, ground := Ground.phase }, { on := 2, ground := Ground.phase }, { on := 3, ground := Ground.phase }, { on := 4, ground := Ground.phase }, { on := 5, ground := Ground.phase }, { on := 6, ground := Ground.phase }, { on := 7, ground := Ground.phase }, { on := 8, ground := Ground.phase }, { on := 9, ground := Ground.phase }, { on := 10, ground := Ground.phase }, { on := 11, ground := Ground.phase }], guard := none }] true).wp Tryz.prog Q a0 w0 := by
 have hS : distS [some 5, some 6, some 7, some 8, some 9, some 10, some 11, some 12, some 13, some 14, some 15, some 16, some 4] = true := rfl
 refine wp_region_inv (by kernel_rfl) (JogA P2 P3 x y p q wb w0 a0) ⟨⟨rfl, rfl, rfl, fun _ _ => rfl, (Below.refl _ w0).drew, fun j d hj => ?_, fun j hj => ?_⟩, hs0⟩ ?_ ?_
 · exfalso
   rw [Array.getD_eq_getD_getElem?, Array.getElem?_replicate] at hj
   split at hj <;> simp at hj
 · exfalso
   rw [Array.getD_eq_getD_getElem?, Array.getElem?_replicate] at hj
   split at hj <;> simp at hj
 · intro lq aq W iq oq ⟨hJ, hs⟩ hl ho hall
   have hJ2 := hJ
   obtain ⟨z1, z2, z3, z4, z5, z6, z7⟩ := hJ
   have g2 : aq.tmps.getD 2 undef = .pointer (some ⟨P2, 0, none⟩) := by rw [Array.getD_eq_getD_getElem?, z4 2 (by decide), h2]; rfl
   have g3 : aq.tmps.getD 3 undef = .pointer (some ⟨P3, 0, none⟩) := by rw [Array.getD_eq_getD_getElem?, z4 3 (by decide), h3]; rfl
   have c0 : W.cell? ⟨P2, 0, none⟩ = some (.int .i64 x) := (z5.cell l0).trans k0
   have c1 : W.cell? ⟨P2, 1, none⟩ = some (.int .i64 y) := (z5.cell l1).trans k1
   have c2 : W.cell? ⟨P3, 0, none⟩ = some (.int .i64 p) := (z5.cell l2).trans k2
   have c3 : W.cell? ⟨P3, 1, none⟩ = some (.int .i64 q) := (z5.cell l3).trans k3
   match iq, ho with
   | 0, ho =>
     cases ho
     refine wpOp_of rfl rfl ?_
     have hK := fun (v : Value) (W2 : World) hW hT hv (hs : SogA P2 P3 x y p q wb W2) => show (JogA P2 P3 x y p q wb w0 a0) (lq.setIfInBounds 0 true) (aq.put (some 5) v) W2 from ⟨hJ2.put hS 0 5 rfl (by omega) (W' := W2) hW hT v hv, hs⟩
     clear ho hall hl hQ
     generalize (JogA P2 P3 x y p q wb w0 a0) (lq.setIfInBounds 0 true) = K at hK ⊢
     clear hJ2 hS z1 z2 z3 z4 z6 z7
     go_simp
     exact hK _ _ z5 (fun _ _ h => h) rfl hs
   | 1, ho =>
     cases ho
     refine wpOp_of rfl rfl ?_
     have f0 : (aq.tmps.getD 5 undef) = .pointer (some ⟨P2, 0, none⟩) := z6 0 5 (hall { on := 0, ground := Ground.data } (by simp) rfl) rfl
     have hK := fun (v : Value) (W2 : World) hW hT hv (hs : SogA P2 P3 x y p q wb W2) => show (JogA P2 P3 x y p q wb w0 a0) (lq.setIfInBounds 1 true) (aq.put (some 6) v) W2 from ⟨hJ2.put hS 1 6 rfl (by omega) (W' := W2) hW hT v hv, hs⟩
     clear ho hall hl hQ
     generalize (JogA P2 P3 x y p q wb w0 a0) (lq.setIfInBounds 1 true) = K at hK ⊢
     clear hJ2 hS z1 z2 z3 z4 z6 z7
     go_simp
     exact hK _ _ z5 (fun _ _ h => h) rfl hs
   | 2, ho =>
     cases ho
     refine wpOp_of rfl rfl ?_
     have hK := fun (v : Value) (W2 : World) hW hT hv (hs : SogA P2 P3 x y p q wb W2) => show (JogA P2 P3 x y p q wb w0 a0) (lq.setIfInBounds 2 true) (aq.put (some 7) v) W2 from ⟨hJ2.put hS 2 7 rfl (by omega) (W' := W2) hW hT v hv, hs⟩
     clear ho hall hl hQ
     generalize (JogA P2 P3 x y p q wb w0 a0) (lq.setIfInBounds 2 true) = K at hK ⊢
     clear hJ2 hS z1 z2 z3 z4 z6 z7
     go_simp
     exact hK _ _ z5 (fun _ _ h => h) rfl hs
   | 3, ho =>
     cases ho
     refine wpOp_of rfl rfl ?_
     have f2 : (aq.tmps.getD 7 undef) = .pointer (some ⟨P3, 0, none⟩) := z6 2 7 (hall { on := 2, ground := Ground.data } (by simp) rfl) rfl
     have hK := fun (v : Value) (W2 : World) hW hT hv (hs : SogA P2 P3 x y p q wb W2) => show (JogA P2 P3 x y p q wb w0 a0) (lq.setIfInBounds 3 true) (aq.put (some 8) v) W2 from ⟨hJ2.put hS 3 8 rfl (by omega) (W' := W2) hW hT v hv, hs⟩
     clear ho hall hl hQ
     generalize (JogA P2 P3 x y p q wb w0 a0) (lq.setIfInBounds 3 true) = K at hK ⊢
     clear hJ2 hS z1 z2 z3 z4 z6 z7
     go_simp
     exact hK _ _ z5 (fun _ _ h => h) rfl hs
   | 4, ho =>
     cases ho
     refine wpOp_of rfl rfl ?_
     have f1 : (aq.tmps.getD 6 undef) = .int .i64 x := z6 1 6 (hall { on := 1, ground := Ground.data } (by simp) rfl) rfl
     have f3 : (aq.tmps.getD 8 undef) = .int .i64 p := z6 3 8 (hall { on := 3, ground := Ground.data } (by simp) rfl) rfl
     have hK := fun (v : Value) (W2 : World) hW hT hv (hs : SogA P2 P3 x y p q wb W2) => show (JogA P2 P3 x y p q wb w0 a0) (lq.setIfInBounds 4 true) (aq.put (some 9) v) W2 from ⟨hJ2.put hS 4 9 rfl (by omega) (W' := W2) hW hT v hv, hs⟩
     clear ho hall hl hQ
     generalize (JogA P2 P3 x y p q wb w0 a0) (lq.setIfInBounds 4 true) = K at hK ⊢
     clear hJ2 hS z1 z2 z3 z4 z6 z7
     go_simp
     refine (cmpE_any x p W).mono ?_
     rintro e v1 ⟨rfl, rfl⟩
     exact hK _ _ z5 (fun _ _ h => h) rfl hs
   | 5, ho =>
     cases ho
     refine wpOp_of rfl rfl ?_
     have hK := fun (v : Value) (W2 : World) hW hT hv (hs : SogA P2 P3 x y p q wb W2) => show (JogA P2 P3 x y p q wb w0 a0) (lq.setIfInBounds 5 true) (aq.put (some 10) v) W2 from ⟨hJ2.put hS 5 10 rfl (by omega) (W' := W2) hW hT v hv, hs⟩
     clear ho hall hl hQ
     generalize (JogA P2 P3 x y p q wb w0 a0) (lq.setIfInBounds 5 true) = K at hK ⊢
     clear hJ2 hS z1 z2 z3 z4 z6 z7
     go_simp
     exact hK _ _ z5 (fun _ _ h => h) rfl hs
   | 6, ho =>
     cases ho
     refine wpOp_of rfl rfl ?_
     have f5 : (aq.tmps.getD 10 undef) = .pointer (some ⟨P2, 1, none⟩) := z6 5 10 (hall { on := 5, ground := Ground.data } (by simp) rfl) rfl
     have hK := fun (v : Value) (W2 : World) hW hT hv (hs : SogA P2 P3 x y p q wb W2) => show (JogA P2 P3 x y p q wb w0 a0) (lq.setIfInBounds 6 true) (aq.put (some 11) v) W2 from ⟨hJ2.put hS 6 11 rfl (by omega) (W' := W2) hW hT v hv, hs⟩
     clear ho hall hl hQ
     generalize (JogA P2 P3 x y p q wb w0 a0) (lq.setIfInBounds 6 true) = K at hK ⊢
     clear hJ2 hS z1 z2 z3 z4 z6 z7
     go_simp
     exact hK _ _ z5 (fun _ _ h => h) rfl hs
   | 7, ho =>
     cases ho
     refine wpOp_of rfl rfl ?_
     have hK := fun (v : Value) (W2 : World) hW hT hv (hs : SogA P2 P3 x y p q wb W2) => show (JogA P2 P3 x y p q wb w0 a0) (lq.setIfInBounds 7 true) (aq.put (some 12) v) W2 from ⟨hJ2.put hS 7 12 rfl (by omega) (W' := W2) hW hT v hv, hs⟩
     clear ho hall hl hQ
     generalize (JogA P2 P3 x y p q wb w0 a0) (lq.setIfInBounds 7 true) = K at hK ⊢
     clear hJ2 hS z1 z2 z3 z4 z6 z7
     go_simp
     exact hK _ _ z5 (fun _ _ h => h) rfl hs
   | 8, ho =>
     cases ho
     refine wpOp_of rfl rfl ?_
     have f7 : (aq.tmps.getD 12 undef) = .pointer (some ⟨P3, 1, none⟩) := z6 7 12 (hall { on := 7, ground := Ground.data } (by simp) rfl) rfl
     have hK := fun (v : Value) (W2 : World) hW hT hv (hs : SogA P2 P3 x y p q wb W2) => show (JogA P2 P3 x y p q wb w0 a0) (lq.setIfInBounds 8 true) (aq.put (some 13) v) W2 from ⟨hJ2.put hS 8 13 rfl (by omega) (W' := W2) hW hT v hv, hs⟩
     clear ho hall hl hQ
     generalize (JogA P2 P3 x y p q wb w0 a0) (lq.setIfInBounds 8 true) = K at hK ⊢
     clear hJ2 hS z1 z2 z3 z4 z6 z7
     go_simp
     exact hK _ _ z5 (fun _ _ h => h) rfl hs
   | 9, ho =>
     cases ho
     refine wpOp_of rfl rfl ?_
     have f6 : (aq.tmps.getD 11 undef) = .int .i64 y := z6 6 11 (hall { on := 6, ground := Ground.data } (by simp) rfl) rfl
     have f8 : (aq.tmps.getD 13 undef) = .int .i64 q := z6 8 13 (hall { on := 8, ground := Ground.data } (by simp) rfl) rfl
     have hK := fun (v : Value) (W2 : World) hW hT hv (hs : SogA P2 P3 x y p q wb W2) => show (JogA P2 P3 x y p q wb w0 a0) (lq.setIfInBounds 9 true) (aq.put (some 14) v) W2 from ⟨hJ2.put hS 9 14 rfl (by omega) (W' := W2) hW hT v hv, hs⟩
     clear ho hall hl hQ
     generalize (JogA P2 P3 x y p q wb w0 a0) (lq.setIfInBounds 9 true) = K at hK ⊢
     clear hJ2 hS z1 z2 z3 z4 z6 z7
     go_simp
     refine (cmpE_any y q W).mono ?_
     rintro e v1 ⟨rfl, rfl⟩
     exact hK _ _ z5 (fun _ _ h => h) rfl hs
   | 10, ho =>
     cases ho
     refine wpOp_of rfl rfl ?_
     have f4 : (aq.tmps.getD 9 undef) = .int .i64 (Lib.compareInt x p) := z6 4 9 (hall { on := 4, ground := Ground.data } (by simp) rfl) rfl
     have f9 : (aq.tmps.getD 14 undef) = .int .i64 (Lib.compareInt y q) := z6 9 14 (hall { on := 9, ground := Ground.data } (by simp) rfl) rfl
     rw [Array.getD_eq_getD_getElem?] at f4 f9
     have hK := fun (v : Value) (W2 : World) hW hT hv (hs : SogA P2 P3 x y p q wb W2) => show (JogA P2 P3 x y p q wb w0 a0) (lq.setIfInBounds 10 true) (aq.put (some 15) v) W2 from ⟨hJ2.put hS 10 15 rfl (by omega) (W' := W2) hW hT v hv, hs⟩
     clear ho hall hl hQ
     generalize (JogA P2 P3 x y p q wb w0 a0) (lq.setIfInBounds 10 true) = K at hK ⊢
     clear hJ2 hS z1 z2 z3 z4 z6 z7
     have hB1 := (Below.refl W.heap.size W).alloc (Nat.le_refl _) (.cells #[.int .i64 (Lib.compareInt x p), .int .i64 (Lib.compareInt y q)] 3)
     have BN := Blk.new W [.int .i64 (Lib.compareInt x p), .int .i64 (Lib.compareInt y q)] 3 rfl
     go_simp
     exact hK _ _ (z5.trans (hB1.mono z5.size)) (fun _ _ h => h.mono hB1) ⟨_, rfl, BN⟩ (hs.trans (GrB.alloc _ _))
   | 11, ho =>
     cases ho
     refine wpOp_of rfl rfl ?_
     have f10 : ∃ g, (aq.tmps.getD 15 undef) = .slice (some ⟨g, 0, none⟩) 2 2 ∧ Blk W g [.int .i64 (Lib.compareInt x p), .int .i64 (Lib.compareInt y q)] := z6 10 15 (hall { on := 10, ground := Ground.data } (by simp) rfl) rfl
     obtain ⟨g10, e10, B10⟩ := f10
     rw [Array.getD_eq_getD_getElem?] at e10
     have hK := fun (v : Value) (W2 : World) hW hT hv (hs : SogA P2 P3 x y p q wb W2) => show (JogA P2 P3 x y p q wb w0 a0) (lq.setIfInBounds 11 true) (aq.put (some 16) v) W2 from ⟨hJ2.put hS 11 16 rfl (by omega) (W' := W2) hW hT v hv, hs⟩
     clear ho hall hl hQ
     generalize (JogA P2 P3 x y p q wb w0 a0) (lq.setIfInBounds 11 true) = K at hK ⊢
     clear hJ2 hS z1 z2 z3 z4 z6 z7
     go_simp
     refine (orE_any g10 _ _ _ rfl W (B10.c 0 rfl) (B10.c 1 rfl)).mono ?_
     rintro e v1 ⟨rfl, rfl⟩
     exact hK _ _ z5 (fun _ _ h => h) rfl hs
   | 12, ho =>
     cases ho
     refine wpOp_of rfl rfl ?_
     have f11 : (aq.tmps.getD 16 undef) = .int .i64 (or2 (Lib.compareInt x p) (Lib.compareInt y q)) := z6 11 16 (hall { on := 11, ground := Ground.data } (by simp) rfl) rfl
     have hK := fun (v : Value) (W2 : World) hW hT hv (hs : SogA P2 P3 x y p q wb W2) => show (JogA P2 P3 x y p q wb w0 a0) (lq.setIfInBounds 12 true) (aq.put (some 4) v) W2 from ⟨hJ2.put hS 12 4 rfl (by omega) (W' := W2) hW hT v hv, hs⟩
     clear ho hall hl hQ
     generalize (JogA P2 P3 x y p q wb w0 a0) (lq.setIfInBounds 12 true) = K at hK ⊢
     clear hJ2 hS z1 z2 z3 z4 z6 z7
     go_simp
     exact hK _ _ z5 (fun _ _ h => h) rfl hs
   | iq + 13, ho => simp at ho
 · intro lq aq W ⟨hJ, hs⟩ hr
   obtain ⟨z1, z2, z3, z4, z5, z6, z7⟩ := hJ
   have hl := listed_of hr [0, 1, 2, 3, 4, 5, 6, 7, 8, 9, 10, 11, 12] [] (by simp) (by kernel_rfl) (by rw [z1]; decide)
   exact hQ aq W z2 z3 (fun e he => z4 e (by simpa using he)) (z6 12 4 (hl 12 (by simp)) rfl) z5 hs
set_option maxRecDepth 100000 in
set_option maxHeartbeats 4000000 in
theorem orderSpots_any (x y p q : Int) (w : World) : Calls Tryz.prog 72 #[.agg #[.int .i64 x, .int .i64 y], .agg #[.int .i64 p, .int .i64 q]] w (GrP (.int .i64 (cfP x y p q)) w) := by
 have B0 := (Blk.new w [.int .i64 x, .int .i64 y] 51 rfl).alloc (.cells #[.int .i64 p, .int .i64 q] 51)
 have B1 := Blk.new (w.alloc (.cells #[.int .i64 x, .int .i64 y] 51)) [.int .i64 p, .int .i64 q] 51 rfl
 simp only [World.size_alloc] at B1
 have HG : GrB w ((w.alloc (.cells #[.int .i64 x, .int .i64 y] 51)).alloc (.cells #[.int .i64 p, .int .i64 q] 51)) := (GrB.alloc _ _).trans (GrB.alloc _ _)
 go_enter Tryz.func72, Tryz.ntmps72
 go_upto_region 1 with fail
 change Blk ((w.alloc (.cells #[.int .i64 x, .int .i64 y] 51)).alloc (.cells #[.int .i64 p, .int .i64 q] 51)) w.heap.size [.int .i64 x, .int .i64 y] at B0
 change Blk ((w.alloc (.cells #[.int .i64 x, .int .i64 y] 51)).alloc (.cells #[.int .i64 p, .int .i64 q] 51)) (w.heap.size + 1) [.int .i64 p, .int .i64 q] at B1
 generalize ((w.alloc (.cells #[.int .i64 x, .int .i64 y] 51)).alloc (.cells #[.int .i64 p, .int .i64 q] 51)) = W1 at *
 refine ogA (P2 := w.heap.size) (P3 := w.heap.size + 1) (x := x) (y := y) (p := p) (q := q) (wb := W1) rfl rfl (B0.c 0 rfl) B0.lt (B0.c 1 rfl) B0.lt (B1.c 0 rfl) B1.lt (B1.c 1 rfl) B1.lt rfl (GrB.drew _) ?_
 rintro ⟨tm, df⟩ Wf hz hdf hoff v4 hBf hs
 simp only at hz hdf hoff v4
 replace v4 : tm.getD 4 undef = .int .i64 (cfP x y p q) := v4
 subst hdf
 have htm := tmps_fold [5, 6, 7, 8, 9, 10, 11, 12, 13, 14, 15, 16, 4] tm _ hz hoff
 simp only [List.foldl, List.setIfInBounds_toArray, List.set_cons_zero, List.set_cons_succ, v4] at htm
 clear hz hoff
 generalize tm.getD 5 undef = pt0, tm.getD 6 undef = pt1, tm.getD 7 undef = pt2, tm.getD 8 undef = pt3, tm.getD 9 undef = pt4, tm.getD 10 undef = pt5, tm.getD 11 undef = pt6, tm.getD 12 undef = pt7, tm.getD 13 undef = pt8, tm.getD 14 undef = pt9, tm.getD 15 undef = pt10, tm.getD 16 undef = pt11 at htm
 clear v4
 subst htm
 have HF : Hid (GrB w Wf) := HG.trans hs
 clear B0 B1 HG hBf hs
 go_wp2
 go_ret
 exact ⟨rfl, HF.out⟩
def VogB (P2 P3 : Nat) (a b c d p q r s : Int) (_wb : World) (_B : Nat) : Nat → Value → World → Prop
 | 0, v, _ => v = .pointer (some ⟨P2, 0, none⟩)
 | 1, v, _ => v = .agg #[.int .i64 a, .int .i64 b]
 | 2, v, _ => v = .pointer (some ⟨P3, 0, none⟩)
 | 3, v, _ => v = .agg #[.int .i64 p, .int .i64 q]
 | 4, v, _ => v = .int .i64 (cfP a b p q)
 | 5, v, _ => v = .pointer (some ⟨P2, 2, none⟩)
 | 6, v, _ => v = .agg #[.int .i64 c, .int .i64 d]
 | 7, v, _ => v = .pointer (some ⟨P3, 2, none⟩)
 | 8, v, _ => v = .agg #[.int .i64 r, .int .i64 s]
 | 9, v, _ => v = .int .i64 (cfP c d r s)
 | 10, v, W => ∃ g, v = .slice (some ⟨g, 0, none⟩) 2 2 ∧ Blk W g [.int .i64 (cfP a b p q), .int .i64 (cfP c d r s)]
 | 11, v, _ => v = .int .i64 (or2 (cfP a b p q) (cfP c d r s))
 | 12, v, _ => v = .int .i64 (or2 (cfP a b p q) (cfP c d r s))
 | _, _, _ => True
theorem VogB.mono {P2 P3 : Nat} {a b c d p q r s : Int} {wb : World} {B j : Nat} {v : Value} {W W2 : World} (hB : Below W.heap.size W W2) (h : VogB P2 P3 a b c d p q r s wb B j v W) : VogB P2 P3 a b c d p q r s wb B j v W2 := by
 unfold VogB at *
 split <;> simp only at h <;> first | exact h | (obtain ⟨g9, e9, b9⟩ := h; exact ⟨g9, e9, b9.step hB⟩) | trivial
def SogB (_P2 _P3 : Nat) (_a _b _c _d _p _q _r _s : Int) (wb : World) (W : World) : Prop := GrB wb W
def JogB (P2 P3 : Nat) (a b c d p q r s : Int) (wb : World) (w0 : World) (a0 : Act) (lz : Array Bool) (az : Act) (W : World) : Prop := InvQ (w0.heap.size) [some 5, some 6, some 7, some 8, some 9, some 10, some 11, some 12, some 13, some 14, some 15, some 16, some 4] (VogB P2 P3 a b c d p q r s wb (w0.heap.size)) w0 a0 lz az W ∧ SogB P2 P3 a b c d p q r s wb W
set_option maxRecDepth 100000 in
set_option maxHeartbeats 4000000 in
theorem ogB {Q : Exit → Act → World → Prop} {P2 P3 : Nat} {a b c d p q r s : Int} {wb : World}  {w0 : World} {a0 : Act} {idq : Nat} {t0 t1 t2 t3 t4 t5 t6 t7 t8 t9 t10 t11 t12 : TypeId} {q0 q1 q2 q3 q4 q5 q6 q7 q8 q9 q10 q11 q12 : String}
    (h2 : a0.tmps[2]? = some (.pointer (some ⟨P2, 0, none⟩))) (h3 : a0.tmps[3]? = some (.pointer (some ⟨P3, 0, none⟩))) (k0 : w0.cell? ⟨P2, 0, none⟩ = some (.int .i64 a)) (l0 : (⟨P2, 0, none⟩ : Addr).block < w0.heap.size) (k1 : w0.cell? ⟨P2, 1, none⟩ = some (.int .i64 b)) (l1 : (⟨P2, 1, none⟩ : Addr).block < w0.heap.size) (k2 : w0.cell? ⟨P2, 2, none⟩ = some (.int .i64 c)) (l2 : (⟨P2, 2, none⟩ : Addr).block < w0.heap.size) (k3 : w0.cell? ⟨P2, 3, none⟩ = some (.int .i64 d)) (l3 : (⟨P2, 3, none⟩ : Addr).block < w0.heap.size) (k4 : w0.cell? ⟨P3, 0, none⟩ = some (.int .i64 p)) (l4 : (⟨P3, 0, none⟩ : Addr).block < w0.heap.size) (k5 : w0.cell? ⟨P3, 1, none⟩ = some (.int .i64 q)) (l5 : (⟨P3, 1, none⟩ : Addr).block < w0.heap.size) (k6 : w0.cell? ⟨P3, 2, none⟩ = some (.int .i64 r)) (l6 : (⟨P3, 2, none⟩ : Addr).block < w0.heap.size) (k7 : w0.cell? ⟨P3, 3, none⟩ = some (.int .i64 s)) (l7 : (⟨P3, 3, none⟩ : Addr).block < w0.heap.size) (hz : a0.tmps.size = 17) (hs0 : SogB P2 P3 a b c d p q r s wb w0.drew)
   (hQ : ∀ aq W, aq.tmps.size = a0.tmps.size → aq.defers = a0.defers → (∀ e, e ∉ ([5, 6, 7, 8, 9, 10, 11, 12, 13, 14, 15, 16, 4] : List Nat) → aq.tmps[e]? = a0.tmps[e]?) → VogB P2 P3 a b c d p q r s wb (w0.heap.size) 12 (aq.tmps.getD 4 undef) W → Below (w0.heap.size) w0 W → SogB P2 P3 a b c d p q r s wb W → Q .normal aq W) :
   (Code.region idq #[{ dst := some 5, op := Op.fieldAddr 53 (Operand.tmp 2) 0, type := t0, pos := q0, after := #[], guard := none },
   { dst := some 6, op := Op.load 51 (Operand.tmp 5), type := t1, pos := q1, after := #[{ on := 0, ground := Ground.data }], guard := none },
   { dst := some 7, op := Op.fieldAddr 53 (Operand.tmp 3) 0, type := t2, pos := q2, after := #[], guard := none },
   { dst := some 8, op := Op.load 51 (Operand.tmp 7), type := t3, pos := q3, after := #[{ on := 2, ground := Ground.data }], guard := none },
   { dst := some 9, op := Op.call { callee := Callee.value (Operand.func 72), args := #[Operand.tmp 6, Operand.tmp 8], argTypes := #[51, 51] }, type := t4, pos := q4, after := #[{ on := 1, ground := Ground.data }, { on := 3, ground := Ground.data }], guard := none },
   { dst := some 10, op := Op.fieldAddr 53 (Operand.tmp 2) 1, type := t5, pos := q5, after := #[], guard := none },
   { dst := some 11, op := Op.load 51 (Operand.tmp 10), type := t6, pos := q6, after := #[{ on := 5, ground := Ground.data }], guard := none },
   { dst := some 12, op := Op.fieldAddr 53 (Operand.tmp 3) 1, type := t7, pos := q7, after := #[], guard := none },
   { dst := some 13, op := Op.load 51 (Operand.tmp 12), type := t8, pos := q8, after := #[{ on := 7, ground := Ground.data }], guard := none },
   { dst := some 14, op := Op.call { callee := Callee.value (Operand.func 72), args := #[Operand.tmp 11, Operand.tmp 13], argTypes := #[51, 51] }, type := t9, pos := q9, after := #[{ on := 6, ground := Ground.data }, { on := 8, ground := Ground.data }, { on := 4, ground := Ground.chain }], guard := none },
   { dst := some 15, op := Op.buildSlice 163 2 #[(0, Operand.tmp 9), (1, Operand.tmp 14)], type := t10, pos := q10, after := #[{ on := 4, ground := Ground.data }, { on := 9, ground := Ground.data }], guard := none },
   { dst := some 16, op := Op.call { callee := Callee.value (Operand.func 71), args := #[Operand.tmp 15], argTypes := #[163] }, type := t11, pos := q11, after := #[{ on := 10, ground := Ground.data }, { on := 9, ground := Ground.chain }], guard := none },
   { dst := some 4, op := Op.assign (Operand.tmp 16), type := t12, pos := q12, after := #[{ on := 11, ground := Ground.data }, { on := 11, ground := Ground.chain }, { on := 0, ground := Ground.phase }, { on := 1, ground := Ground.phase }, { on := 2, ground := Ground.phase }, { on := 3, ground := Ground.phase }, { on := 4, ground := Ground.phase }, { on := 5, ground := Ground.phase }, { on := 6, ground := Ground.phase }, { on := 7, ground := Ground.phase }, { on := 8, ground := Ground.phase }, { on := 9, ground := Ground.phase }, { on := 10, ground := Ground.phase }, { on := 11, ground := Ground.phase }], guard := none }] true).wp Tryz.prog Q a0 w0 := by
 have hS : distS [some 5, some 6, some 7, some 8, some 9, some 10, some 11, some 12, some 13, some 14, some 15, some 16, some 4] = true := rfl
 refine wp_region_inv (by kernel_rfl) (JogB P2 P3 a b c d p q r s wb w0 a0) ⟨⟨rfl, rfl, rfl, fun _ _ => rfl, (Below.refl _ w0).drew, fun j d hj => ?_, fun j hj => ?_⟩, hs0⟩ ?_ ?_
 · exfalso
   rw [Array.getD_eq_getD_getElem?, Array.getElem?_replicate] at hj
   split at hj <;> simp at hj
 · exfalso
   rw [Array.getD_eq_getD_getElem?, Array.getElem?_replicate] at hj
   split at hj <;> simp at hj
 · intro lq aq W iq oq ⟨hJ, hs⟩ hl ho hall
   have hJ2 := hJ
   obtain ⟨z1, z2, z3, z4, z5, z6, z7⟩ := hJ
   have g2 : aq.tmps.getD 2 undef = .pointer (some ⟨P2, 0, none⟩) := by rw [Array.getD_eq_getD_getElem?, z4 2 (by decide), h2]; rfl
   have g3 : aq.tmps.getD 3 undef = .pointer (some ⟨P3, 0, none⟩) := by rw [Array.getD_eq_getD_getElem?, z4 3 (by decide), h3]; rfl
   have c0 : W.cell? ⟨P2, 0, none⟩ = some (.int .i64 a) := (z5.cell l0).trans k0
   have c1 : W.cell? ⟨P2, 1, none⟩ = some (.int .i64 b) := (z5.cell l1).trans k1
   have c2 : W.cell? ⟨P2, 2, none⟩ = some (.int .i64 c) := (z5.cell l2).trans k2
   have c3 : W.cell? ⟨P2, 3, none⟩ = some (.int .i64 d) := (z5.cell l3).trans k3
   have c4 : W.cell? ⟨P3, 0, none⟩ = some (.int .i64 p) := (z5.cell l4).trans k4
   have c5 : W.cell? ⟨P3, 1, none⟩ = some (.int .i64 q) := (z5.cell l5).trans k5
   have c6 : W.cell? ⟨P3, 2, none⟩ = some (.int .i64 r) := (z5.cell l6).trans k6
   have c7 : W.cell? ⟨P3, 3, none⟩ = some (.int .i64 s) := (z5.cell l7).trans k7
   match iq, ho with
   | 0, ho =>
     cases ho
     refine wpOp_of rfl rfl ?_
     have hK := fun (v : Value) (W2 : World) hW hT hv (hs : SogB P2 P3 a b c d p q r s wb W2) => show (JogB P2 P3 a b c d p q r s wb w0 a0) (lq.setIfInBounds 0 true) (aq.put (some 5) v) W2 from ⟨hJ2.put hS 0 5 rfl (by omega) (W' := W2) hW hT v hv, hs⟩
     clear ho hall hl hQ
     generalize (JogB P2 P3 a b c d p q r s wb w0 a0) (lq.setIfInBounds 0 true) = K at hK ⊢
     clear hJ2 hS z1 z2 z3 z4 z6 z7
     go_simp
     exact hK _ _ z5 (fun _ _ h => h) rfl hs
   | 1, ho =>
     cases ho
     refine wpOp_of rfl rfl ?_
     have f0 : (aq.tmps.getD 5 undef) = .pointer (some ⟨P2, 0, none⟩) := z6 0 5 (hall { on := 0, ground := Ground.data } (by simp) rfl) rfl
     have hK := fun (v : Value) (W2 : World) hW hT hv (hs : SogB P2 P3 a b c d p q r s wb W2) => show (JogB P2 P3 a b c d p q r s wb w0 a0) (lq.setIfInBounds 1 true) (aq.put (some 6) v) W2 from ⟨hJ2.put hS 1 6 rfl (by omega) (W' := W2) hW hT v hv, hs⟩
     clear ho hall hl hQ
     generalize (JogB P2 P3 a b c d p q r s wb w0 a0) (lq.setIfInBounds 1 true) = K at hK ⊢
     clear hJ2 hS z1 z2 z3 z4 z6 z7
     go_simp
     exact hK _ _ z5 (fun _ _ h => h) rfl hs
   | 2, ho =>
     cases ho
     refine wpOp_of rfl rfl ?_
     have hK := fun (v : Value) (W2 : World) hW hT hv (hs : SogB P2 P3 a b c d p q r s wb W2) => show (JogB P2 P3 a b c d p q r s wb w0 a0) (lq.setIfInBounds 2 true) (aq.put (some 7) v) W2 from ⟨hJ2.put hS 2 7 rfl (by omega) (W' := W2) hW hT v hv, hs⟩
     clear ho hall hl hQ
     generalize (JogB P2 P3 a b c d p q r s wb w0 a0) (lq.setIfInBounds 2 true) = K at hK ⊢
     clear hJ2 hS z1 z2 z3 z4 z6 z7
     go_simp
     exact hK _ _ z5 (fun _ _ h => h) rfl hs
   | 3, ho =>
     cases ho
     refine wpOp_of rfl rfl ?_
     have f2 : (aq.tmps.getD 7 undef) = .pointer (some ⟨P3, 0, none⟩) := z6 2 7 (hall { on := 2, ground := Ground.data } (by simp) rfl) rfl
     have hK := fun (v : Value) (W2 : World) hW hT hv (hs : SogB P2 P3 a b c d p q r s wb W2) => show (JogB P2 P3 a b c d p q r s wb w0 a0) (lq.setIfInBounds 3 true) (aq.put (some 8) v) W2 from ⟨hJ2.put hS 3 8 rfl (by omega) (W' := W2) hW hT v hv, hs⟩
     clear ho hall hl hQ
     generalize (JogB P2 P3 a b c d p q r s wb w0 a0) (lq.setIfInBounds 3 true) = K at hK ⊢
     clear hJ2 hS z1 z2 z3 z4 z6 z7
     go_simp
     exact hK _ _ z5 (fun _ _ h => h) rfl hs
   | 4, ho =>
     cases ho
     refine wpOp_of rfl rfl ?_
     have f1 : (aq.tmps.getD 6 undef) = .agg #[.int .i64 a, .int .i64 b] := z6 1 6 (hall { on := 1, ground := Ground.data } (by simp) rfl) rfl
     have f3 : (aq.tmps.getD 8 undef) = .agg #[.int .i64 p, .int .i64 q] := z6 3 8 (hall { on := 3, ground := Ground.data } (by simp) rfl) rfl
     have hK := fun (v : Value) (W2 : World) hW hT hv (hs : SogB P2 P3 a b c d p q r s wb W2) => show (JogB P2 P3 a b c d p q r s wb w0 a0) (lq.setIfInBounds 4 true) (aq.put (some 9) v) W2 from ⟨hJ2.put hS 4 9 rfl (by omega) (W' := W2) hW hT v hv, hs⟩
     clear ho hall hl hQ
     generalize (JogB P2 P3 a b c d p q r s wb w0 a0) (lq.setIfInBounds 4 true) = K at hK ⊢
     clear hJ2 hS z1 z2 z3 z4 z6 z7
     go_simp
     refine (orderSpots_any a b p q W).mono ?_
     rintro e v1 ⟨rfl, hg⟩
     exact hK _ _ (z5.trans (hg.below.mono z5.size)) (fun _ _ h => h.mono hg.below) rfl (hs.trans hg)
   | 5, ho =>
     cases ho
     refine wpOp_of rfl rfl ?_
     have hK := fun (v : Value) (W2 : World) hW hT hv (hs : SogB P2 P3 a b c d p q r s wb W2) => show (JogB P2 P3 a b c d p q r s wb w0 a0) (lq.setIfInBounds 5 true) (aq.put (some 10) v) W2 from ⟨hJ2.put hS 5 10 rfl (by omega) (W' := W2) hW hT v hv, hs⟩
     clear ho hall hl hQ
     generalize (JogB P2 P3 a b c d p q r s wb w0 a0) (lq.setIfInBounds 5 true) = K at hK ⊢
     clear hJ2 hS z1 z2 z3 z4 z6 z7
     go_simp
     exact hK _ _ z5 (fun _ _ h => h) rfl hs
   | 6, ho =>
     cases ho
     refine wpOp_of rfl rfl ?_
     have f5 : (aq.tmps.getD 10 undef) = .pointer (some ⟨P2, 2, none⟩) := z6 5 10 (hall { on := 5, ground := Ground.data } (by simp) rfl) rfl
     have hK := fun (v : Value) (W2 : World) hW hT hv (hs : SogB P2 P3 a b c d p q r s wb W2) => show (JogB P2 P3 a b c d p q r s wb w0 a0) (lq.setIfInBounds 6 true) (aq.put (some 11) v) W2 from ⟨hJ2.put hS 6 11 rfl (by omega) (W' := W2) hW hT v hv, hs⟩
     clear ho hall hl hQ
     generalize (JogB P2 P3 a b c d p q r s wb w0 a0) (lq.setIfInBounds 6 true) = K at hK ⊢
     clear hJ2 hS z1 z2 z3 z4 z6 z7
     go_simp
     exact hK _ _ z5 (fun _ _ h => h) rfl hs
   | 7, ho =>
     cases ho
     refine wpOp_of rfl rfl ?_
     have hK := fun (v : Value) (W2 : World) hW hT hv (hs : SogB P2 P3 a b c d p q r s wb W2) => show (JogB P2 P3 a b c d p q r s wb w0 a0) (lq.setIfInBounds 7 true) (aq.put (some 12) v) W2 from ⟨hJ2.put hS 7 12 rfl (by omega) (W' := W2) hW hT v hv, hs⟩
     clear ho hall hl hQ
     generalize (JogB P2 P3 a b c d p q r s wb w0 a0) (lq.setIfInBounds 7 true) = K at hK ⊢
     clear hJ2 hS z1 z2 z3 z4 z6 z7
     go_simp
     exact hK _ _ z5 (fun _ _ h => h) rfl hs
   | 8, ho =>
     cases ho
     refine wpOp_of rfl rfl ?_
     have f7 : (aq.tmps.getD 12 undef) = .pointer (some ⟨P3, 2, none⟩) := z6 7 12 (hall { on := 7, ground := Ground.data } (by simp) rfl) rfl
     have hK := fun (v : Value) (W2 : World) hW hT hv (hs : SogB P2 P3 a b c d p q r s wb W2) => show (JogB P2 P3 a b c d p q r s wb w0 a0) (lq.setIfInBounds 8 true) (aq.put (some 13) v) W2 from ⟨hJ2.put hS 8 13 rfl (by omega) (W' := W2) hW hT v hv, hs⟩
     clear ho hall hl hQ
     generalize (JogB P2 P3 a b c d p q r s wb w0 a0) (lq.setIfInBounds 8 true) = K at hK ⊢
     clear hJ2 hS z1 z2 z3 z4 z6 z7
     go_simp
     exact hK _ _ z5 (fun _ _ h => h) rfl hs
   | 9, ho =>
     cases ho
     refine wpOp_of rfl rfl ?_
     have f6 : (aq.tmps.getD 11 undef) = .agg #[.int .i64 c, .int .i64 d] := z6 6 11 (hall { on := 6, ground := Ground.data } (by simp) rfl) rfl
     have f8 : (aq.tmps.getD 13 undef) = .agg #[.int .i64 r, .int .i64 s] := z6 8 13 (hall { on := 8, ground := Ground.data } (by simp) rfl) rfl
     have hK := fun (v : Value) (W2 : World) hW hT hv (hs : SogB P2 P3 a b c d p q r s wb W2) => show (JogB P2 P3 a b c d p q r s wb w0 a0) (lq.setIfInBounds 9 true) (aq.put (some 14) v) W2 from ⟨hJ2.put hS 9 14 rfl (by omega) (W' := W2) hW hT v hv, hs⟩
     clear ho hall hl hQ
     generalize (JogB P2 P3 a b c d p q r s wb w0 a0) (lq.setIfInBounds 9 true) = K at hK ⊢
     clear hJ2 hS z1 z2 z3 z4 z6 z7
     go_simp
     refine (orderSpots_any c d r s W).mono ?_
     rintro e v1 ⟨rfl, hg⟩
     exact hK _ _ (z5.trans (hg.below.mono z5.size)) (fun _ _ h => h.mono hg.below) rfl (hs.trans hg)
   | 10, ho =>
     cases ho
     refine wpOp_of rfl rfl ?_
     have f4 : (aq.tmps.getD 9 undef) = .int .i64 (cfP a b p q) := z6 4 9 (hall { on := 4, ground := Ground.data } (by simp) rfl) rfl
     have f9 : (aq.tmps.getD 14 undef) = .int .i64 (cfP c d r s) := z6 9 14 (hall { on := 9, ground := Ground.data } (by simp) rfl) rfl
     rw [Array.getD_eq_getD_getElem?] at f4 f9
     have hK := fun (v : Value) (W2 : World) hW hT hv (hs : SogB P2 P3 a b c d p q r s wb W2) => show (JogB P2 P3 a b c d p q r s wb w0 a0) (lq.setIfInBounds 10 true) (aq.put (some 15) v) W2 from ⟨hJ2.put hS 10 15 rfl (by omega) (W' := W2) hW hT v hv, hs⟩
     clear ho hall hl hQ
     generalize (JogB P2 P3 a b c d p q r s wb w0 a0) (lq.setIfInBounds 10 true) = K at hK ⊢
     clear hJ2 hS z1 z2 z3 z4 z6 z7
     have hB1 := (Below.refl W.heap.size W).alloc (Nat.le_refl _) (.cells #[.int .i64 (cfP a b p q), .int .i64 (cfP c d r s)] 3)
     have BN := Blk.new W [.int .i64 (cfP a b p q), .int .i64 (cfP c d r s)] 3 rfl
     go_simp
     exact hK _ _ (z5.trans (hB1.mono z5.size)) (fun _ _ h => h.mono hB1) ⟨_, rfl, BN⟩ (hs.trans (GrB.alloc _ _))
   | 11, ho =>
     cases ho
     refine wpOp_of rfl rfl ?_
     have f10 : ∃ g, (aq.tmps.getD 15 undef) = .slice (some ⟨g, 0, none⟩) 2 2 ∧ Blk W g [.int .i64 (cfP a b p q), .int .i64 (cfP c d r s)] := z6 10 15 (hall { on := 10, ground := Ground.data } (by simp) rfl) rfl
     obtain ⟨g10, e10, B10⟩ := f10
     rw [Array.getD_eq_getD_getElem?] at e10
     have hK := fun (v : Value) (W2 : World) hW hT hv (hs : SogB P2 P3 a b c d p q r s wb W2) => show (JogB P2 P3 a b c d p q r s wb w0 a0) (lq.setIfInBounds 11 true) (aq.put (some 16) v) W2 from ⟨hJ2.put hS 11 16 rfl (by omega) (W' := W2) hW hT v hv, hs⟩
     clear ho hall hl hQ
     generalize (JogB P2 P3 a b c d p q r s wb w0 a0) (lq.setIfInBounds 11 true) = K at hK ⊢
     clear hJ2 hS z1 z2 z3 z4 z6 z7
     go_simp
     refine (orE_any g10 _ _ _ rfl W (B10.c 0 rfl) (B10.c 1 rfl)).mono ?_
     rintro e v1 ⟨rfl, rfl⟩
     exact hK _ _ z5 (fun _ _ h => h) rfl hs
   | 12, ho =>
     cases ho
     refine wpOp_of rfl rfl ?_
     have f11 : (aq.tmps.getD 16 undef) = .int .i64 (or2 (cfP a b p q) (cfP c d r s)) := z6 11 16 (hall { on := 11, ground := Ground.data } (by simp) rfl) rfl
     have hK := fun (v : Value) (W2 : World) hW hT hv (hs : SogB P2 P3 a b c d p q r s wb W2) => show (JogB P2 P3 a b c d p q r s wb w0 a0) (lq.setIfInBounds 12 true) (aq.put (some 4) v) W2 from ⟨hJ2.put hS 12 4 rfl (by omega) (W' := W2) hW hT v hv, hs⟩
     clear ho hall hl hQ
     generalize (JogB P2 P3 a b c d p q r s wb w0 a0) (lq.setIfInBounds 12 true) = K at hK ⊢
     clear hJ2 hS z1 z2 z3 z4 z6 z7
     go_simp
     exact hK _ _ z5 (fun _ _ h => h) rfl hs
   | iq + 13, ho => simp at ho
 · intro lq aq W ⟨hJ, hs⟩ hr
   obtain ⟨z1, z2, z3, z4, z5, z6, z7⟩ := hJ
   have hl := listed_of hr [0, 1, 2, 3, 4, 5, 6, 7, 8, 9, 10, 11, 12] [] (by simp) (by kernel_rfl) (by rw [z1]; decide)
   exact hQ aq W z2 z3 (fun e he => z4 e (by simpa using he)) (z6 12 4 (hl 12 (by simp)) rfl) z5 hs
set_option maxRecDepth 100000 in
set_option maxHeartbeats 4000000 in
theorem orderSegs_any (a b c d p q r s : Int) (w : World) : Calls Tryz.prog 35 #[.agg #[.int .i64 a, .int .i64 b, .int .i64 c, .int .i64 d], .agg #[.int .i64 p, .int .i64 q, .int .i64 r, .int .i64 s]] w (GrP (.int .i64 (cfS (a, b, c, d) (p, q, r, s))) w) := by
 have B0 := (Blk.new w [.int .i64 a, .int .i64 b, .int .i64 c, .int .i64 d] 53 rfl).alloc (.cells #[.int .i64 p, .int .i64 q, .int .i64 r, .int .i64 s] 53)
 have B1 := Blk.new (w.alloc (.cells #[.int .i64 a, .int .i64 b, .int .i64 c, .int .i64 d] 53)) [.int .i64 p, .int .i64 q, .int .i64 r, .int .i64 s] 53 rfl
 simp only [World.size_alloc] at B1
 have HG : GrB w ((w.alloc (.cells #[.int .i64 a, .int .i64 b, .int .i64 c, .int .i64 d] 53)).alloc (.cells #[.int .i64 p, .int .i64 q, .int .i64 r, .int .i64 s] 53)) := (GrB.alloc _ _).trans (GrB.alloc _ _)
 go_enter Tryz.func35, Tryz.ntmps35
 go_upto_region 1 with fail
 change Blk ((w.alloc (.cells #[.int .i64 a, .int .i64 b, .int .i64 c, .int .i64 d] 53)).alloc (.cells #[.int .i64 p, .int .i64 q, .int .i64 r, .int .i64 s] 53)) w.heap.size [.int .i64 a, .int .i64 b, .int .i64 c, .int .i64 d] at B0
 change Blk ((w.alloc (.cells #[.int .i64 a, .int .i64 b, .int .i64 c, .int .i64 d] 53)).alloc (.cells #[.int .i64 p, .int .i64 q, .int .i64 r, .int .i64 s] 53)) (w.heap.size + 1) [.int .i64 p, .int .i64 q, .int .i64 r, .int .i64 s] at B1
 generalize ((w.alloc (.cells #[.int .i64 a, .int .i64 b, .int .i64 c, .int .i64 d] 53)).alloc (.cells #[.int .i64 p, .int .i64 q, .int .i64 r, .int .i64 s] 53)) = W1 at *
 refine ogB (P2 := w.heap.size) (P3 := w.heap.size + 1) (a := a) (b := b) (c := c) (d := d) (p := p) (q := q) (r := r) (s := s) (wb := W1) rfl rfl (B0.c 0 rfl) B0.lt (B0.c 1 rfl) B0.lt (B0.c 2 rfl) B0.lt (B0.c 3 rfl) B0.lt (B1.c 0 rfl) B1.lt (B1.c 1 rfl) B1.lt (B1.c 2 rfl) B1.lt (B1.c 3 rfl) B1.lt rfl (GrB.drew _) ?_
 rintro ⟨tm, df⟩ Wf hz hdf hoff v4 hBf hs
 simp only at hz hdf hoff v4
 replace v4 : tm.getD 4 undef = .int .i64 (cfS (a, b, c, d) (p, q, r, s)) := v4
 subst hdf
 have htm := tmps_fold [5, 6, 7, 8, 9, 10, 11, 12, 13, 14, 15, 16, 4] tm _ hz hoff
 simp only [List.foldl, List.setIfInBounds_toArray, List.set_cons_zero, List.set_cons_succ, v4] at htm
 clear hz hoff
 generalize tm.getD 5 undef = pt0, tm.getD 6 undef = pt1, tm.getD 7 undef = pt2, tm.getD 8 undef = pt3, tm.getD 9 undef = pt4, tm.getD 10 undef = pt5, tm.getD 11 undef = pt6, tm.getD 12 undef = pt7, tm.getD 13 undef = pt8, tm.getD 14 undef = pt9, tm.getD 15 undef = pt10, tm.getD 16 undef = pt11 at htm
 clear v4
 subst htm
 have HF : Hid (GrB w Wf) := HG.trans hs
 clear B0 B1 HG hBf hs
 go_wp2
 go_ret
 exact ⟨rfl, HF.out⟩
open Go.RowKit Go.Shelf
def sgfF : Nat → Nat
 | 6 => 34
 | 14 => 69
 | 15 => 70
 | 20 => 119
 | 21 => 120
 | 22 => 121
 | 23 => 122
 | 24 => 123
 | 25 => 124
 | 26 => 125
 | 27 => 126
 | 28 => 127
 | 29 => 128
 | 46 => 165
 | 47 => 166
 | 48 => 167
 | 49 => 168
 | 50 => 169
 | 57 => 189
 | n => n
def sgfT : Nat → Nat
 | 0 => 0
 | 3 => 3
 | 4 => 4
 | 5 => 5
 | 9 => 9
 | 22 => 24
 | 24 => 53
 | 25 => 70
 | 39 => 111
 | 45 => 153
 | 46 => 154
 | 50 => 158
 | 53 => 161
 | 55 => 40
 | 66 => 197
 | 70 => 200
 | 76 => 223
 | 77 => 224
 | n => n
set_option maxRecDepth 100000 in
set_option maxHeartbeats 4000000 in
theorem sgfLays : SlLaysF0.n6 Tryz.prog ⟨sgfF, sgfT, fun _ => 0⟩ where
 mixed := by kernel_rfl
 f6 := ⟨Tryz.f34.name, by kernel_rfl, Tryz.func34.trans (congrArg some (by kernel_rfl))⟩
 f14 := ⟨Tryz.f69.name, by kernel_rfl, Tryz.func69.trans (congrArg some (by kernel_rfl))⟩
 f15 := Tryz.func70.trans (congrArg some (by kernel_rfl))
 f20 := ⟨Tryz.f119.name, by kernel_rfl, Tryz.func119.trans (congrArg some (by kernel_rfl))⟩
 f21 := ⟨Tryz.f120.name, by kernel_rfl, Tryz.func120.trans (congrArg some (by kernel_rfl))⟩
 f22 := ⟨Tryz.f121.name, by kernel_rfl, Tryz.func121.trans (congrArg some (by kernel_rfl))⟩
 f23 := ⟨Tryz.f122.name, by kernel_rfl, Tryz.func122.trans (congrArg some (by kernel_rfl))⟩
 f24 := ⟨Tryz.f123.name, by kernel_rfl, Tryz.func123.trans (congrArg some (by kernel_rfl))⟩
 f25 := ⟨Tryz.f124.name, by kernel_rfl, Tryz.func124.trans (congrArg some (by kernel_rfl))⟩
 f26 := ⟨Tryz.f125.name, by kernel_rfl, Tryz.func125.trans (congrArg some (by kernel_rfl))⟩
 f27 := ⟨Tryz.f126.name, by kernel_rfl, Tryz.func126.trans (congrArg some (by kernel_rfl))⟩
 f28 := Tryz.func127.trans (congrArg some (by kernel_rfl))
 f29 := Tryz.func128.trans (congrArg some (by kernel_rfl))
 f46 := ⟨Tryz.f165.name, by kernel_rfl, Tryz.func165.trans (congrArg some (by kernel_rfl))⟩
 f47 := Tryz.func166.trans (congrArg some (by kernel_rfl))
 f48 := Tryz.func167.trans (congrArg some (by kernel_rfl))
 f49 := ⟨Tryz.f168.name, by kernel_rfl, Tryz.func168.trans (congrArg some (by kernel_rfl))⟩
 f50 := ⟨Tryz.f169.name, by kernel_rfl, Tryz.func169.trans (congrArg some (by kernel_rfl))⟩
 f57 := ⟨Tryz.f189.name, by kernel_rfl, Tryz.func189.trans (congrArg some (by kernel_rfl))⟩
 t0 := by kernel_rfl
 a0 := fun w => by kernel_rfl
 z0 := fun w => by kernel_rfl
 v0 := fun w => by kernel_rfl
 t3 := by kernel_rfl
 a3 := fun w => by kernel_rfl
 z3 := fun w => by kernel_rfl
 v3 := fun w => by kernel_rfl
 t4 := by kernel_rfl
 a4 := fun w => by kernel_rfl
 z4 := fun w => by kernel_rfl
 v4 := fun w => by kernel_rfl
 t5 := by kernel_rfl
 a5 := fun w => by kernel_rfl
 z5 := fun w => by kernel_rfl
 v5 := fun w => by kernel_rfl
 t9 := by kernel_rfl
 a9 := fun w => by kernel_rfl
 z9 := fun w => by kernel_rfl
 v9 := fun w => by kernel_rfl
 t22 := by kernel_rfl
 a22 := fun w => by kernel_rfl
 z22 := fun w => by kernel_rfl
 v22 := fun w => by kernel_rfl
 t25 := by kernel_rfl
 a25 := fun w => by kernel_rfl
 z25 := fun w => by kernel_rfl
 v25 := fun w => by kernel_rfl
 t39 := by kernel_rfl
 a39 := fun w => by kernel_rfl
 z39 := fun w => by kernel_rfl
 v39 := fun w => by kernel_rfl
 t45 := by kernel_rfl
 a45 := fun w => by kernel_rfl
 z45 := fun w => by kernel_rfl
 v45 := fun w => by kernel_rfl
 t46 := by kernel_rfl
 a46 := fun w => by kernel_rfl
 z46 := fun w => by kernel_rfl
 v46 := fun w => by kernel_rfl
 t50 := by kernel_rfl
 a50 := fun w => by kernel_rfl
 z50 := fun w => by kernel_rfl
 v50 := fun w => by kernel_rfl
 t53 := by kernel_rfl
 a53 := fun w => by kernel_rfl
 z53 := fun w => by kernel_rfl
 v53 := fun w => by kernel_rfl
 t55 := by kernel_rfl
 a55 := fun w => by kernel_rfl
 z55 := fun w => by kernel_rfl
 v55 := fun w => by kernel_rfl
 t66 := by kernel_rfl
 a66 := fun w => by kernel_rfl
 z66 := fun w => by kernel_rfl
 v66 := fun w => by kernel_rfl
 t70 := by kernel_rfl
 a70 := fun w => by kernel_rfl
 z70 := fun w => by kernel_rfl
 v70 := fun w => by kernel_rfl
 t76 := by kernel_rfl
 a76 := fun w => by kernel_rfl
 z76 := fun w => by kernel_rfl
 v76 := fun w => by kernel_rfl
 t77 := by kernel_rfl
 a77 := fun w => by kernel_rfl
 z77 := fun w => by kernel_rfl
 v77 := fun w => by kernel_rfl
open Go.RowKit Go.Shelf Go.Lib Go.Sort
def sdE (s : Sd) : List Value := [.int .i64 s.1, .int .i64 s.2.1, .int .i64 s.2.2.1, .int .i64 s.2.2.2]
theorem sdE_len (s : Sd) : (sdE s).length = 4 := rfl
theorem flat_at : ∀ (l : List Sd) (i j : Nat), j < 4 → (l.flatMap sdE)[i * 4 + j]? = (l[i]?).bind fun s => (sdE s)[j]?
 | [], i, j, _ => by simp
 | s :: r, 0, j, hj => by
   rw [List.flatMap_cons, List.getElem?_append_left (by rw [sdE_len]; omega), Nat.zero_mul, Nat.zero_add]
   rfl
 | s :: r, i + 1, j, hj => by
   rw [List.flatMap_cons, List.getElem?_append_right (by rw [sdE_len]; omega), sdE_len, show (i + 1) * 4 + j - 4 = i * 4 + j by omega, flat_at r i j hj]
   simp
theorem flat_len (l : List Sd) : (l.flatMap sdE).length = l.length * 4 := by
 induction l with
 | nil => rfl
 | cons s r ih => rw [List.flatMap_cons, List.length_append, ih, sdE_len, List.length_cons]; omega
theorem flatK_eq (l : List Sd) : (flatK sdE 4 l.toArray).toList = l.flatMap sdE := by
 apply List.ext_getElem?
 intro t
 rcases Nat.lt_or_ge t (l.length * 4) with h | h
 · obtain ⟨i, j, hj, rfl⟩ : ∃ i j, j < 4 ∧ t = i * 4 + j := ⟨t / 4, t % 4, Nat.mod_lt _ (by decide), by omega⟩
   have hi : i < l.length := by omega
   rw [flat_at l i j hj, List.getElem?_eq_getElem hi]
   have hs : i * 4 + j < (flatK sdE 4 l.toArray).size := by simp; omega
   rw [Array.getElem?_toList, Array.getElem?_eq_getElem hs]
   have hg := get_flatK sdE 4 l.toArray (i * 4 + j) (by simp; omega)
   rw [getElem!_pos (flatK sdE 4 l.toArray) (i * 4 + j) hs] at hg
   rw [hg, show (i * 4 + j) / 4 = i by omega, show (i * 4 + j) % 4 = j by omega, getElem!_pos l.toArray i (by simpa using hi)]
   simp only [List.getElem_toArray, Option.bind_some]
   rw [getElem!_pos (sdE l[i]) j (by rw [sdE_len]; exact hj), List.getElem?_eq_getElem (by rw [sdE_len]; exact hj)]
 · rw [List.getElem?_eq_none (by simp; omega), List.getElem?_eq_none (by rw [flat_len]; omega)]
theorem own_putF {w : World} {b g n cap sz q : Nat} {T : TypeId} {xs : List Value} {F : Array Value} (hO : w.ownsRow b T sz (.slice (some ⟨g, 0, none⟩) n cap) n xs) (hF : F.size = n * sz) : (putRow id (Sort.ahead w q) g 0 F).ownsRow b T sz (.slice (some ⟨g, 0, none⟩) n cap) n F.toList := by
 rcases hO.2 with ⟨h, _⟩ | ⟨g', cap', cur, h, hg, hc, h1, h2, h3, _⟩
 · cases h
 · cases h
   have hle : n * sz ≤ cap * sz := Nat.mul_le_mul_right _ h1
   refine ⟨by simpa using hF, .inr ⟨g, cap, putCells id 0 F cur, rfl, hg, ?_, h1, h2, by simp [putCells, h3], ?_⟩⟩
   · show ((Sort.ahead w q).heap.modify g _)[g]? = _
     rw [Array.getElem?_modify, if_pos rfl]
     show Option.map _ w.heap[g]? = _
     rw [hc]
     rfl
   · refine List.ext_getElem? fun i => ?_
     rcases Nat.lt_or_ge i (n * sz) with hi | hi
     · rw [List.getElem?_take_of_lt hi, Array.getElem?_toList]
       have hic : i < cur.size := by rw [h3]; omega
       have hid : i < F.size := by omega
       simp only [putCells, Array.getElem?_mapIdx, Array.getElem?_eq_getElem hic, Option.map_some]
       rw [if_pos ⟨Nat.zero_le _, by omega⟩, Array.getElem?_toList, Array.getElem?_eq_getElem hid]
       simp [hid]
     · rw [List.getElem?_eq_none (by rw [List.length_take]; omega), List.getElem?_eq_none (by simp; omega)]
theorem ownL_heap {w w' : World} {base n : Nat} {e : TypeId} {size : Nat} {v : Value} {xs : List Value} (h : w.ownsRow base e size v n xs) (hh : ∀ k, v.ownBlock = some k → w'.heap[k]? = w.heap[k]?) : w'.ownsRow base e size v n xs := by
 rcases h with ⟨h0, h1 | ⟨g, cap, cur, h1, h2, h3, h4⟩⟩
 · exact ⟨h0, .inl h1⟩
 · refine ⟨h0, .inr ⟨g, cap, cur, h1, h2, (hh g (by rw [h1]; rfl)).trans h3, h4⟩⟩
structure ButB (g : Nat) (w w' : World) : Prop where
 os : w'.os = w.os
 tape : w'.tape = w.tape
 output : w'.output = w.output
 size : w.heap.size ≤ w'.heap.size
 block : ∀ k, k < w.heap.size → k ≠ g → w'.heap[k]? = w.heap[k]?
theorem ButB.below {g B : Nat} {w0 w w' : World} (h : ButB g w w') (hB : Below B w0 w) (hg : B ≤ g) (hs : B ≤ w.heap.size) : Below B w0 w' :=
 hB.trans ⟨h.os, h.tape, h.output, h.size, fun k hk => h.block k (by omega) (by omega)⟩
theorem sort_merge (l : List Sd) : l.mergeSort (fun x y => !(ltOf cfS) y x) = allI l := by
 refine sort_one (List.mergeSort_perm _ _) ?_
 have h := List.pairwise_mergeSort (le := fun x y => !(ltOf cfS) y x) (fun a b c h1 h2 => by
   simp only [Bool.not_eq_true'] at *
   exact sg_swo.ntrans _ _ _ h2 h1) (fun a b => by
   rw [cf_lt, cf_lt, Bool.or_eq_true, Bool.not_eq_true', Bool.not_eq_true']
   cases h : sgLt b a with
   | false => exact .inl rfl
   | true =>
     refine .inr (decide_eq_false ?_)
     have h1 := sgLt_iff.1 h
     omega) l
 exact h.imp (fun {a b} hab => by
   rw [Bool.not_eq_true', cf_lt] at hab
   exact hab)
theorem one4 : ∀ (x : Sd), ∀ v ∈ sdE x, v.oneCell' = true := by
 intro x u hu
 simp only [sdE, List.mem_cons, List.not_mem_nil, or_false] at hu
 rcases hu with rfl | rfl | rfl | rfl <;> rfl
set_option maxRecDepth 100000 in
set_option maxHeartbeats 4000000 in
theorem sortSegs_any (b : Nat) (v : Value) (l : List Sd) (w : World) (hn : l.length ≤ 4000000) (hO : w.ownsRow b 53 4 v l.length (l.flatMap sdE)) : Calls Tryz.prog 34 #[v, .func (.func 35) #[] #[]] w (fun r w' => r = .returned (.tuple #[]) ∧ w'.ownsRow b 53 4 v l.length ((allI l).flatMap sdE) ∧ ((∃ g, v.ownBlock = some g ∧ ButB g w w') ∨ w' = w)) := by
 rcases hO.2 with ⟨h1, h2⟩ | ⟨g, cap, cur, h1, hg, hc, h3, h4, h5, h6⟩
 · subst h1
   obtain rfl : l = [] := List.eq_nil_of_length_eq_zero h2
   exact (AnyF.slices_SortFunc_none sgfLays none 0 _ w).mono fun r w' ⟨e, hw⟩ => ⟨e, by subst hw; exact hO, .inr hw⟩
 · subst h1
   have hH : HoldsK sdE 4 w g 0 l.toArray := fun t ht => by
     have ht2 : t < l.length * 4 := by simpa using ht
     have hcell := hO.cells rfl t _ (by rw [← flatK_eq, Array.getElem?_toList, Array.getElem?_eq_getElem ht])
     rw [Addr.add_lit] at hcell
     refine ⟨?_, ?_⟩
     · rw [getElem!_pos (flatK sdE 4 l.toArray) t ht]
       exact hcell
     · simp [World.frozen?, hc]
   have hgl : g < w.heap.size := (Array.getElem?_eq_some_iff.1 hc).1
   have hcmp : CmpLays Tryz.prog 35 #[] sdE 4 cfS g 0 l.toArray.size w := fun m os dk _ x y => by
     obtain ⟨a, b, c, d⟩ := x
     obtain ⟨p, q, r, s⟩ := y
     exact (orderSegs_any a b c d p q r s _).mono fun e w' h => h
   have hS := AnyQ.slices_SortFunc_total sgfLays 4 (fun w => by kernel_rfl) (fun w => by kernel_rfl) sdE sdE_len one4 cfS sg_swo 35 #[] g 0 cap l.toArray w (enters_of Tryz.func35 (by kernel_rfl) rfl) hcmp hH hgl (by simp; omega) (fun x y hx hy => by rw [cf_lt] at hx hy; exact sg_tot hx hy)
   rw [sort_merge] at hS
   have hsz : l.toArray.size = l.length := by simp
   rw [hsz] at hS
   refine hS.mono fun r w' ⟨e, q, os, hw⟩ => ⟨e, ?_, .inl ⟨g, rfl, ?_⟩⟩
   · subst hw
     have hF : (flatK sdE 4 (allI l).toArray).size = l.length * 4 := by simp [allI_len]
     have h9 := own_putF (q := q) hO hF
     rw [flatK_eq] at h9
     exact ownL_heap h9 (fun k hk => heap_grow_old _ os ((h9.lt k hk).2))
   · subst hw
     refine ⟨rfl, rfl, rfl, by simp [sortWorldK, putRowK, putRow, mapBlock, grow, Sort.ahead], fun k hk hne => ?_⟩
     refine (heap_grow_old _ os (by simpa [putRowK, putRow, mapBlock, Sort.ahead] using hk)).trans ?_
     show ((Sort.ahead w q).heap.modify g _)[k]? = _
     rw [Array.getElem?_modify, if_neg (Ne.symm hne)]
     rfl
open Go.RowKit Go.Shelf
attribute [local go_sem] Oper.semAt_some
def mkD (D : Nat) : Deferred := { target := .collected D, args := #[] }
theorem leaves_marks {F : Fence} {n : Nat} {P : Program} {fn : Func} {tmps : Array Value} {R : Ending → World → Prop} {u : FrameMode} (hu : u ≠ .run) : ∀ (ds : List Nat) (W : World), ds.Nodup → (∀ D ∈ ds, W.heap[D]? = some (.deferred (some []))) → (∀ W' : World, W'.os = W.os → W'.tape = W.tape → W'.output = W.output → W'.heap.size = W.heap.size → (∀ k, k ∉ ds → W'.heap[k]? = W.heap[k]?) → LeavesInM F n P fn tmps R [] u W') → LeavesInM F n P fn tmps R (ds.map mkD) u W
 | [], W, _, _, h => h W rfl rfl rfl rfl (fun _ _ => rfl)
 | D :: r, W, hnd, hd, h => by
   obtain ⟨h1, h2⟩ := List.nodup_cons.1 hnd
   refine ⟨hu, .inl ⟨D, W.putObj D (.deferred none), rfl, run_takeDeferred (hd D List.mem_cons_self), leaves_marks hu r _ h2 (fun D' h' => ?_) (fun W' e1 e2 e3 e4 e5 => h W' e1 e2 e3 (e4.trans (by simp)) (fun k hk => ?_))⟩⟩
   · exact (World.putObj_heap_other (by intro e; subst e; exact h1 h')).trans (hd D' (List.mem_cons_of_mem _ h'))
   · rw [List.mem_cons, not_or] at hk
     exact (e5 k hk.2).trans (World.putObj_heap_other hk.1)
def allS (L : Nat → Nat) (q : Nat → Ps) (c : Nat) : List Sd := (List.range c).flatMap fun i => (List.finRange (L i)).map fun x => sdA (L i) (q i) x.1
theorem allS_succ (L : Nat → Nat) (q : Nat → Ps) (c : Nat) : allS L q (c + 1) = allS L q c ++ (List.finRange (L c)).map fun x => sdA (L c) (q c) x.1 := by
 unfold allS
 rw [List.range_succ, List.flatMap_append]
 simp
theorem allS_le {n : Nat} {L : Nat → Nat} {q : Nat → Ps} (h : ∀ i, i < n → RgOk (L i) (q i)) (hn : n ≤ 6) : ∀ {c : Nat}, c ≤ n → (allS L q c).length ≤ 72 := by
 have key : ∀ c, c ≤ n → (allS L q c).length ≤ 12 * c := fun c => by
   induction c with
   | zero => intro _; exact Nat.le_refl _
   | succ c ih =>
     intro hc
     rw [allS_succ, List.length_append, List.length_map, List.length_finRange]
     have := ih (by omega)
     have := (h c (by omega)).h12
     omega
 intro c hc
 have := key c hc
 omega
theorem sdC_flat (n : Nat) (p : Ps) (pre : List (Fin n)) : sdC n p pre = (pre.map fun x => sdA n p x.1).flatMap sdE := by
 unfold sdC
 rw [List.flatMap_map]
 rfl
def LsP (l : List Sd) (w : World) (e : Ending) (w' : World) : Prop := ∃ v, e = .returned v ∧ w'.ownsRow w.heap.size 53 4 v l.length ((allI l).flatMap sdE) ∧ Below w.heap.size w w'
theorem own_cellsL {w : World} {base n : Nat} {e : TypeId} {size : Nat} {v : Value} {xs : List Value} (h : w.ownsRow base e size v n xs) {k : Nat} (hk : v.ownBlock = some k) {ds : List Deferred} : w.heap[k]? ≠ some (.deferred (some ds)) := by
 rcases h.2 with ⟨rfl, _⟩ | ⟨g, cap, cur, rfl, _, hc, _⟩
 · cases hk
 · obtain rfl : g = k := Option.some.inj hk
   rw [hc]
   intro e
   cases e
def LgI (L : Nat → Nat) (q : Nat → Ps) (B3 : Nat) (w : World) (c : Nat) (ds : List Nat) (W : World) : Prop :=
 (∃ v, Boxed W B3 24 v ∧ W.ownsRow (B3 + 1) 53 4 v (allS L q c).length ((allS L q c).flatMap sdE) ∧ True) ∧ Below w.heap.size w W ∧ ds.Nodup ∧ ∀ D ∈ ds, B3 < D ∧ W.heap[D]? = some (.deferred (some []))
set_option maxRecDepth 100000 in
set_option maxHeartbeats 8000000 in
theorem implLayerSegs_any (ao : Option Addr) (n cap : Nat) (S : Nat → Option Addr × Nat) (L : Nat → Nat) (q : Nat → Ps) (hn : n ≤ 1048576) (hcap : n ≤ cap) (hcap2 : cap ≤ 9223372036854775807) (hL : ∀ i, i < n → L i ≤ 1048576) (hC : ∀ i, i < n → L i ≤ (S i).2 ∧ (S i).2 ≤ 9223372036854775807) (hly : lyB n L q = true) (w : World) (hS : RgIn w ao n S L q) : Calls Tryz.prog 9 #[.slice ao n cap] w (LsP (allS L q n) w) := by
 have C := isLayer_any ao n cap S L q hn hcap hcap2 hL hC w hS
 rw [hly] at C
 obtain ⟨hn6, hrg⟩ := lyB_ok hly
 have hnI : (n : Int) ≤ 6 := by omega
 refine (callsIn_wide (n := 12)).1 ?_
 refine callsIn_of_wp_marks Tryz.func9 rfl trivial ?_ rfl
 simp only [Tryz.ntmps9, List.size_toArray, List.length_cons, List.length_nil, Nat.reduceAdd, Nat.reduceSub, Array.replicate_succ, Array.replicate_zero, List.push_toArray, List.append_toArray, List.nil_append, List.cons_append]
 gi_wp2_with (first
   | (refine ⟨trivial, ?_⟩; gi_at_call 32; refine (callsIn_wide.2 C).mono ?_; rintro e w1 ⟨rfl, hB1⟩))
 have HB0 : Below w.heap.size w (w1.alloc (.cells #[.slice none 0 0] 24)) := hB1.trans ((Below.refl _ _).alloc hB1.size _)
 have hb3 : w.heap.size ≤ w1.heap.size := hB1.size
 have H0 : LgI L q w1.heap.size w 0 [] (w1.alloc (.cells #[.slice none 0 0] 24)) := ⟨⟨_, Boxed.new w1 24 (.slice none 0 0), World.ownsRow_nil _ _ _ _, trivial⟩, HB0, List.nodup_nil, fun D h => by cases h⟩
 clear C hB1 HB0
 generalize w1.heap.size = B3 at *
 generalize (w1.alloc (.cells #[.slice none 0 0] 24)) = W1 at *
 refine wpIn_loop (fun a W => ∃ (c : Nat) (ds : List Nat) (u5 u14 u15 u16 u17 u18 u25 : Value), c ≤ n ∧ a = { tmps := #[.slice ao n cap, undef, .slice none 0 0, .pointer (some ⟨B3, 0, none⟩), undef, u5, undef, undef, .slice ao n cap, .bool true, .bool false, .slice ao n cap, .int .i64 (n : Int), .int .i64 (c : Int), u14, u15, u16, u17, u18, undef, undef, undef, undef, undef, undef, u25, undef, undef, undef], defers := ds.map mkD } ∧ LgI L q B3 w c ds W) (fun a _ => n - (intOf (a.tmps.getD 13 undef)).toNat) ⟨0, [], _, _, _, _, _, _, _, Nat.zero_le _, rfl, H0⟩ ?_
 clear H0
 rintro a W ⟨c, ds, u5, u14, u15, u16, u17, u18, u25, hcn, rfl, HI⟩
 have hcI : (c : Int) ≤ 6 := by omega
 by_cases hc : c < n
 · have hcnI : (c : Int) < (n : Int) := by omega
   obtain ⟨A, off, rfl, hA, r0, _⟩ := hS.step HI.2.1 c hc
   gi_wp2_with (first
     | (refine ⟨trivial, ?_⟩; gi_at_call 33; refine (callsIn_wide.2 (sides_any _ _ _ _)).mono ?_; rintro e w' ⟨rfl, rfl⟩))
   obtain ⟨⟨v, hv, hr, _⟩, hBw, hnd, hmkk⟩ := HI
   have hmk := fun D hD => (hmkk D hD).2
   have hmk3 := fun D hD => (hmkk D hD).1
   clear hmkk
   have hsW := hBw.size
   have hB3W : B3 < W.heap.size := hv.lt
   have hmkl : ∀ D ∈ ds, D < W.heap.size := fun D hD => (Array.getElem?_eq_some_iff.1 (hmk D hD)).1
   have hBA : Below W.heap.size W ((W.alloc (.cells #[.slice (S c).1 (L c) (S c).2] 57)).alloc (.cells #[.slice (S c).1 (L c) (S c).2] 57)) := ((Below.refl _ _).alloc (Nat.le_refl _) _).alloc (by simp) _
   have bS0 := (hv.alloc (.cells #[.slice (S c).1 (L c) (S c).2] 57)).alloc (.cells #[.slice (S c).1 (L c) (S c).2] 57)
   have hr0 := (hr.alloc (.cells #[.slice (S c).1 (L c) (S c).2] 57)).alloc (.cells #[.slice (S c).1 (L c) (S c).2] 57)
   have bN := Boxed.new (W.alloc (.cells #[.slice (S c).1 (L c) (S c).2] 57)) 57 (.slice (S c).1 (L c) (S c).2)
   simp only [World.size_alloc] at bN
   have hB0 : Below w.heap.size w ((W.alloc (.cells #[.slice (S c).1 (L c) (S c).2] 57)).alloc (.cells #[.slice (S c).1 (L c) (S c).2] 57)) := hBw.trans (hBA.mono hsW)
   have hmk0 : ∀ D ∈ ds, ((W.alloc (.cells #[.slice (S c).1 (L c) (S c).2] 57)).alloc (.cells #[.slice (S c).1 (L c) (S c).2] 57)).heap[D]? = some (.deferred (some [])) := fun D hD => (hBA.block D (hmkl D hD)).trans (hmk D hD)
   have hsz : ((W.alloc (.cells #[.slice (S c).1 (L c) (S c).2] 57)).alloc (.cells #[.slice (S c).1 (L c) (S c).2] 57)).heap.size = W.heap.size + 2 := by simp
   have rg := hrg c hc
   have hSp : SpIn w (S c).1 (L c) (q c) := by
     obtain ⟨_, _, _, _, _, h⟩ := hS c hc
     exact h
   clear hv hr hmk hBA
   obtain ⟨W0, hW0⟩ : ∃ W0, ((W.alloc (.cells #[.slice (S c).1 (L c) (S c).2] 57)).alloc (.cells #[.slice (S c).1 (L c) (S c).2] 57)) = W0 := ⟨_, rfl⟩
   rw [hW0] at bS0 hr0 bN hB0 hmk0 hsz ⊢
   clear hW0
   have hS0 : SpB w.heap.size W0 (S c).1 (L c) (q c) := (hSp.low).keep (fun k hk => hB0.block k hk)
   obtain ⟨i0, hi, hz0, hz1, hz2⟩ := info_parts Tryz.infoSeg2
   refine wpIn_rangeFunc_ownH rfl (by omega) (gf := 66) (lb := #[.pointer (some ⟨W.heap.size + 1, 0, none⟩)]) rfl trivial (enters_of Tryz.func66 (by kernel_rfl) rfl)
     (sides_stops (12 - 1) w.heap.size (W.heap.size + 1) (S c).1 (L c) (S c).2 (q c) rg.h3 rg.h12 rg.ok rg.one W0 (by omega) (by omega) bN.cell hS0) (fun h k => h.trans k) (KpB.put (by omega) (by omega)) (Below.refl _ _) (fun _ => rfl)
     (fun pre X => (∃ v, Boxed X B3 24 v ∧ X.ownsRow (B3 + 1) 53 4 v ((allS L q c).length + (pre).length) ((allS L q c).flatMap sdE ++ sdC (L c) (q c) (pre)) ∧ True) ∧ (Below w.heap.size w X ∧ W0.heap.size ≤ X.heap.size) ∧ (∀ D ∈ ds, X.heap[D]? = some (.deferred (some []))) ∧ Boxed X (W.heap.size + 1) 57 (.slice (S c).1 (L c) (S c).2))
     (fun _ _ _ => False)
     (OwnFrom.and (Own.from (holdsRow_own (B3 + 1) B3 24 53 4 (fun pre : List (Fin (L c)) => ((allS L q c).length + pre.length)) (fun pre => ((allS L q c).flatMap sdE ++ sdC (L c) (q c) pre)) (fun _ _ => True)) _) (OwnFrom.and (OwnFrom.and (ownFrom_below (Nat.le_refl _) (by omega)) (fun _ X Y row hs hg _ => Nat.le_trans hs hg.size)) (OwnFrom.and (fun _ X Y row hs hg hr' D hD => (hg.block D (Array.getElem?_eq_some_iff.1 (hs D hD)).1 (fun e => by have := (hr' D e.symm).1; have := hmkl D hD; omega)).trans (hs D hD)) (fun _ X Y row hs hg hr' => hs.kept hg (fun e => by have := (hr' _ e.symm).1; omega)))))
     (fun _ _ _ _ _ hs _ _ => hs.elim)
     ⟨⟨v, bS0, by simpa [sdC] using hr0, trivial⟩, ⟨hB0, Nat.le_refl _⟩, hmk0, bN⟩
     (fun x a' X => ∃ Bs, BoxV X Bs 53 [.int .i64 (sdA (L c) (q c) x.1).1, .int .i64 (sdA (L c) (q c) x.1).2.1, .int .i64 (sdA (L c) (q c) x.1).2.2.1, .int .i64 (sdA (L c) (q c) x.1).2.2.2] ∧ a' = { tmps := #[.slice (some ⟨A, off, none⟩) n cap, undef, .slice none 0 0, .pointer (some ⟨B3, 0, none⟩), undef, .pointer (some ⟨W.heap.size, 0, none⟩), undef, .pointer (some ⟨Bs, 0, none⟩), .slice (some ⟨A, off, none⟩) n cap, .bool true, .bool false, .slice (some ⟨A, off, none⟩) n cap, .int .i64 (n : Int), .int .i64 (c : Int), .bool true, .pointer (some ⟨A, off + c, none⟩), .agg #[.slice (S c).1 (L c) (S c).2], .agg #[.slice (S c).1 (L c) (S c).2], .func (.func 66) #[] #[.pointer (some ⟨W.heap.size + 1, 0, none⟩)], .int .i64 (x.1 : Int), .agg #[.int .i64 (sdA (L c) (q c) x.1).1, .int .i64 (sdA (L c) (q c) x.1).2.1, .int .i64 (sdA (L c) (q c) x.1).2.2.1, .int .i64 (sdA (L c) (q c) x.1).2.2.2], undef, undef, undef, undef, u25, undef, undef, undef], defers := [] })
     (fun x a' _ X Y row hs hg hr => by obtain ⟨Bs, e4, e5⟩ := hs; exact ⟨Bs, boxV_own Bs 53 (fun (_ : Unit) => [.int .i64 (sdA (L c) (q c) x.1).1, .int .i64 (sdA (L c) (q c) x.1).2.1, .int .i64 (sdA (L c) (q c) x.1).2.2.1, .int .i64 (sdA (L c) (q c) x.1).2.2.2]) () X Y row e4 hg (fun r e => (hr r e).2), e5⟩)
     ?assign ?body ?done ?stop
   case assign =>
     rintro l pre x X K ⟨⟨v, hv, hr, _⟩, ⟨hB1, hs1⟩, hm1, hn1⟩ hK
     unfold enS
     gi_wp2
     have hB2 : Below X.heap.size X (X.alloc (.cells #[.int .i64 (sdA (L c) (q c) x.1).1, .int .i64 (sdA (L c) (q c) x.1).2.1, .int .i64 (sdA (L c) (q c) x.1).2.2.1, .int .i64 (sdA (L c) (q c) x.1).2.2.2] 53)) := (Below.refl _ X).alloc (Nat.le_refl _) _
     have hsX := hB1.size
     have b2 := BoxV.new X 53 [.int .i64 (sdA (L c) (q c) x.1).1, .int .i64 (sdA (L c) (q c) x.1).2.1, .int .i64 (sdA (L c) (q c) x.1).2.2.1, .int .i64 (sdA (L c) (q c) x.1).2.2.2]
     exact hK _ _ (below_keeps hB2) (KpB.of hB2 (by omega) (by omega)) ⟨⟨v, hv.alloc _, hr.alloc _, trivial⟩, ⟨hB1.trans (hB2.mono hB1.size), Nat.le_trans hs1 hB2.size⟩, fun D hD => (hB2.block D (Array.getElem?_eq_some_iff.1 (hm1 D hD)).1).trans (hm1 D hD), hn1.alloc _⟩ ⟨_, b2, rfl⟩
   case body =>
     rintro l pre x a' X hl ⟨r, hr0⟩ ⟨⟨v, hv, hr, _⟩, ⟨hB1, hs1⟩, hm1, hn1⟩ ⟨Bs, bB, rfl⟩ hlt
     have cv := hv.cell
     have s0 := bB.blk.c 0 rfl; have s1 := bB.blk.c 1 rfl; have s2 := bB.blk.c 2 rfl; have s3 := bB.blk.c 3 rfl
     have hlen : (allS L q c).length ≤ 72 := allS_le hrg hn6 hcn
     have hpl : pre.length ≤ 12 := by have := rg.h12; omega
     gi_wp2_with (gi_at_builtin; refine wpListIn_append_own _ rfl _ _ 24 rfl (B3 + 1) 53 i0 (.agg #[.int .i64 0, .int .i64 0, .int .i64 0, .int .i64 0]) 4 32 Tryz.underlying24 hi hz0 hz1 hz2 rfl (by decide) _ _ _ rfl (hr.alloc _) ⟨X.heap.size, 0, none⟩ 1 1 [.int .i64 (sdA (L c) (q c) x.1).1, .int .i64 (sdA (L c) (q c) x.1).2.1, .int .i64 (sdA (L c) (q c) x.1).2.2.1, .int .i64 (sdA (L c) (q c) x.1).2.2.2] rfl rfl (cell_four_new _ _ _ _ _ _) (one_cell4 _ _ _ _) (by unfold maxLen; omega) (by omega) (by simp; omega) ?_)
     intro v' w2 hown' hgrow hnn
     obtain ⟨g', cap', rfl⟩ := ownsRow_succ hown'
     have hvo : ∀ j, v.ownBlock = some j → B3 + 1 ≤ j := fun j hj => (hr.lt j hj).1
     have hvN : v.ownBlock ≠ some (W.heap.size + 1) := Ne.symm (hn1.not_row (by decide) hr)
     have hblk : ∀ k, k < X.heap.size → (∀ j, v.ownBlock = some j → k ≠ j) → w2.heap[k]? = X.heap[k]? := fun k hk hne => (hgrow.block k (by simp; omega) (fun e => hne k e.symm rfl)).trans (Below.heap_alloc X _ k hk)
     have hv1 : Boxed w2 B3 24 v := (hblk B3 hv.lt (fun j hj e => by have := hvo j hj; omega)).trans hv
     have c1 := hv1.cell
     have f1 := hv1.frozen
     have hsX := hB1.size
     have hBN : Below w.heap.size w w2 := (hB1.alloc hB1.size _).grown hgrow (by simp; omega) (fun j hj => by have := hvo j hj; omega)
     have hgs := hgrow.size
     simp only [World.size_alloc] at hgs
     have KO := ((KeepsOthers.alloc X (.cells #[.int .i64 (sdA (L c) (q c) x.1).1, .int .i64 (sdA (L c) (q c) x.1).2.1, .int .i64 (sdA (L c) (q c) x.1).2.2.1, .int .i64 (sdA (L c) (q c) x.1).2.2.2] 53)).trans (KeepsOthers.of_grownBy hgrow fun j o ej hj => by
       rcases (hr.alloc (.cells #[.int .i64 (sdA (L c) (q c) x.1).1, .int .i64 (sdA (L c) (q c) x.1).2.1, .int .i64 (sdA (L c) (q c) x.1).2.2.1, .int .i64 (sdA (L c) (q c) x.1).2.2.2] 53)).2 with ⟨rfl, _⟩ | ⟨g, cap, cur, rfl, _, hgb, _⟩
       · simp [Value.ownBlock] at ej
       · obtain rfl : g = j := by simpa [Value.ownBlock] using ej
         rw [hgb] at hj; cases hj; rfl)).trans (KeepsOthers.setCell w2 ⟨B3, 0, none⟩ (.slice (some ⟨g', 0, none⟩) ((allS L q c).length + pre.length + 1) cap'))
     have hbN2 : (w2.setCell ⟨B3, 0, none⟩ (.slice (some ⟨g', 0, none⟩) ((allS L q c).length + pre.length + 1) cap')).heap[W.heap.size + 1]? = X.heap[W.heap.size + 1]? := (Below.heap_setCell _ _ _ _ (by show W.heap.size + 1 ≠ B3; omega)).trans (hblk _ hn1.lt (fun j hj e => hvN (by rw [hj, e])))
     have HFIN : Hid (KeepsFrom W0.heap.size X (w2.setCell ⟨B3, 0, none⟩ (.slice (some ⟨g', 0, none⟩) ((allS L q c).length + pre.length + 1) cap')) ∧ KpB w.heap.size (W.heap.size + 1) X (w2.setCell ⟨B3, 0, none⟩ (.slice (some ⟨g', 0, none⟩) ((allS L q c).length + pre.length + 1) cap')) ∧ ((∃ v, Boxed (w2.setCell ⟨B3, 0, none⟩ (.slice (some ⟨g', 0, none⟩) ((allS L q c).length + pre.length + 1) cap')) B3 24 v ∧ (w2.setCell ⟨B3, 0, none⟩ (.slice (some ⟨g', 0, none⟩) ((allS L q c).length + pre.length + 1) cap')).ownsRow (B3 + 1) 53 4 v ((allS L q c).length + (pre ++ [x]).length) ((allS L q c).flatMap sdE ++ sdC (L c) (q c) (pre ++ [x])) ∧ True) ∧ (Below w.heap.size w (w2.setCell ⟨B3, 0, none⟩ (.slice (some ⟨g', 0, none⟩) ((allS L q c).length + pre.length + 1) cap')) ∧ W0.heap.size ≤ (w2.setCell ⟨B3, 0, none⟩ (.slice (some ⟨g', 0, none⟩) ((allS L q c).length + pre.length + 1) cap')).heap.size) ∧ (∀ D ∈ ds, (w2.setCell ⟨B3, 0, none⟩ (.slice (some ⟨g', 0, none⟩) ((allS L q c).length + pre.length + 1) cap')).heap[D]? = some (.deferred (some []))) ∧ Boxed (w2.setCell ⟨B3, 0, none⟩ (.slice (some ⟨g', 0, none⟩) ((allS L q c).length + pre.length + 1) cap')) (W.heap.size + 1) 57 (.slice (S c).1 (L c) (S c).2))) := by
       refine ⟨KO.from _, ⟨by simp [World.setCell]; omega, fun k hk => (Below.heap_setCell _ _ _ _ (by show k ≠ B3; omega)).trans (hblk k (by omega) (fun j hj e => by have := hvo j hj; omega)), hbN2⟩, ⟨_, hv1.set _, ?_, trivial⟩, ⟨hBN.setCell (by show w.heap.size ≤ B3; omega) _, by simp [World.setCell]; omega⟩, fun D hD => KO.same D _ (hm1 D hD) rfl, hbN2.trans hn1⟩
       rw [sdC_snoc, List.length_append]
       refine ownsRow_setCell_below ?_ (by show B3 < B3 + 1; omega) _
       exact hown'
     clear KO hBN hgs hvo hblk hown' hgrow hnn s0 s1 s2 s3 cv hbN2 hvN
     gi_wp2
     exact HFIN.out
   case done =>
     rintro D zs X hD rfl ⟨⟨v, hv, hr, _⟩, ⟨hB1, hs1⟩, hm1, hn1⟩ hK
     rw [List.length_finRange] at hr
     have hI : LgI L q B3 w (c + 1) (D :: ds) X := ⟨⟨v, hv, by rw [allS_succ, List.length_append, List.length_map, List.length_finRange, List.flatMap_append, ← sdC_flat]; exact hr, trivial⟩, hB1, List.nodup_cons.2 ⟨fun h => by have := hmkl D h; omega, hnd⟩, fun D' h => by
       rcases List.mem_cons.1 h with rfl | h
       · exact ⟨by omega, hK⟩
       · exact ⟨hmk3 D' h, hm1 D' h⟩⟩
     clear hv hr hB1 hs1 hm1 hn1 hK bS0 hr0 bN hB0 hmk0 hS0
     gi_wp2
     refine ⟨⟨c + 1, D :: ds, _, _, _, _, _, _, _, by omega, rfl, hI⟩, ?_⟩
     simp [intOf]
     omega
   case stop =>
     rintro D c' pre X hD hpre hF hK
     exact hF.elim
 · obtain rfl : c = n := by omega
   have hcf : ¬ ((c : Int) < (c : Int)) := by omega
   obtain ⟨⟨v, hv, hr, _⟩, hBw, hnd, hmkk⟩ := HI
   have cv := hv.cell
   have hlen : (allS L q c).length ≤ 72 := allS_le hrg hn6 (Nat.le_refl _)
   have hs3 := hv.lt
   have hnB : v.ownBlock ≠ some B3 := Ne.symm (hv.not_row (by decide) hr)
   gi_wp2_with (first
     | (refine ⟨trivial, ?_⟩; gi_at_call 34; refine (callsIn_wide.2 (sortSegs_any (B3 + 1) v (allS L q c) W (by omega) hr)).mono ?_; rintro e w2 ⟨rfl, hr2, hbb⟩; have cv2 : w2.cell? ⟨B3, 0, none⟩ = some v := (by rcases hbb with ⟨g, hg, hb⟩ | rfl; exact (World.cell?_of_block (a := ⟨B3, 0, none⟩) (hb.block B3 hs3 (fun e => hnB (by rw [hg, e])))).trans cv; exact cv)))
   have hmk2 : ∀ D ∈ ds, w2.heap[D]? = some (.deferred (some [])) := fun D hD => by
     rcases hbb with ⟨g, hg, hb⟩ | rfl
     · exact (hb.block D (Array.getElem?_eq_some_iff.1 (hmkk D hD).2).1 (fun e => own_cellsL hr hg (by rw [← e]; exact (hmkk D hD).2))).trans (hmkk D hD).2
     · exact (hmkk D hD).2
   have hB2 : Below w.heap.size w w2 := by
     rcases hbb with ⟨g, hg, hb⟩ | rfl
     · exact hb.below hBw (by have := (hr.lt g hg).1; omega) hBw.size
     · exact hBw
   change LeavesInM _ _ _ _ _ _ (ds.map mkD) _ _
   refine leaves_marks (by simp) ds w2 hnd hmk2 (fun W' e1 e2 e3 e4 e5 => ?_)
   refine ⟨v, by simp [results, Tryz.results9, go_sem], v, rfl, ?_, ?_⟩
   · exact own_mono (ownL_heap hr2 (fun k hk => e5 k (fun h => own_cellsL hr2 hk (hmk2 k h)))) (by omega)
   · exact hB2.trans ⟨e1, e2, e3, by omega, fun k hk => e5 k (fun h => by have := (hmkk k h).1; omega)⟩
end Go.Proofs.YteakhlipmmfilaaGreat
