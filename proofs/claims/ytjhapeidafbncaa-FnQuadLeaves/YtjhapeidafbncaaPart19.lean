/- Part 19 of the walks that the proof leans on. -/
import Derived.Test.YtjhapeidafbncaaPart18
import Derived.Test.YtjhapeidafbncaaRows
import Derived.ProofKit
import Derived.Lib.SmallJoins
namespace Go.Proofs.Ytjhapeidafbncaa
open Go.RowKit
theorem TqP.use {k : Nat} {ok : Nat → Prop} {v : Value} {W : World} (h : TqP k ok v W) : ∃ (Q : QD) (m d : Int) (io bo : Option Addr) (ic bc A off : Nat) (so : Nat → Option Addr × Nat), v = .agg #[.int .i64 m, .int .i64 d, .slice io Q.m ic, .slice bo Q.N bc] ∧ Q.m ≤ k ∧ Q.N ≤ 2000 ∧ (∀ i, i < Q.N → Q.L i ≤ 1048576) ∧ (0 < Q.N → bo = some ⟨A, off, none⟩) ∧ (∀ i, i < Q.N → (so i).1 = none → (so i).2 = 0) ∧ Q.N ≤ bc ∧ (∀ A o sp, io = some ⟨A, o, sp⟩ → A < W.heap.size) ∧ ItIn Q W io (List.range Q.m) ∧ BlIn Q W A off so := by
 obtain ⟨Q, m, d, io, bo, ic, bc, A, off, so, rfl, h2, h3, h4, h5, h6, h7, h8, h9, h10, h11⟩ := h
 have hIt : ItIn Q W io (List.range Q.m) := by
   obtain ⟨ao9, cap9, e9, hI9⟩ := ItIn.of (Q := Q) (l := List.range Q.m) (by rw [List.length_range]; exact h8.1)
   rw [List.length_range] at e9
   cases e9
   exact hI9
 exact ⟨Q, m, d, io, bo, ic, bc, A, off, so, rfl, h2, h3, fun i hi => by have := h4 i hi; omega, h5, h6, h7, fun A o sp e => (h8.1.lt A (by subst e; rfl)).2, hIt, h9⟩
theorem bigK_any (ao : Option Addr) (n cap : Nat) (w : World) (z : Bool) (hz : decide (1048576 < n) = z) : Calls Try.prog 17 #[.slice ao n cap] w (BoolP z w) := by
 subst hz
 go_enter Try.func17, Try.ntmps17
 go_wp2
 go_ret
 exact ⟨by simp; try omega, Below.refl _ _⟩
set_option maxRecDepth 100000 in
set_option maxHeartbeats 4000000 in
theorem drawQuadCount_any (ao : Option Addr) (n cap : Nat) (cs : List Int) (w : World) (h : Code w ao n cs) : Calls Try.prog 18 #[.slice ao n cap] w (fun r w' => ∃ v, r = .returned v ∧ TqP 42 (fun b => w.heap.size ≤ b) v w' ∧ Below w.heap.size w w') := by
 have B := Blk.new w [.int .i64 0, .int .i64 0, .slice none 0 0, .slice none 0 0] 34 rfl
 rw [show ([.int .i64 0, .int .i64 0, .slice none 0 0, .slice none 0 0] : List Value).toArray = #[.int .i64 0, .int .i64 0, .slice none 0 0, .slice none 0 0] from rfl] at B
 have HB : Below w.heap.size w (w.alloc (.cells #[.int .i64 0, .int .i64 0, .slice none 0 0, .slice none 0 0] 34)) := (Below.refl _ _).alloc (Nat.le_refl _) _
 replace h := h.below HB
 go_enter Try.func18, Try.ntmps18
 go_wp2_with fail
 refine (open_any ao n cap cs _ h).mono ?_
 rintro e w1 ⟨g, rfl, hG, R, hB⟩
 simp at hG
 have h0 : w.heap.size ≠ g := by omega
 replace B := B.step hB
 have bl1 := B.lt
 replace HB : Below w.heap.size w w1 := HB.trans (hB.mono HB.size)
 clear hB h
 go_wp2_with fail
 refine (quad_any g ao n cap cs _ R).mono ?_
 rintro e w2 ⟨v, rfl, T, R1, K1⟩
 replace B := B.kept K1 h0
 replace HB := HB.trans (K1.below (by omega) HB.size)
 clear R K1 R1
 obtain ⟨m1, d1, io1, n1, ic1, bo1, N1, bc1, rfl, _⟩ := T.form
 have F : Hid (TqP 42 (fun b => w.heap.size ≤ b) (.agg #[.int .i64 m1, .int .i64 d1, .slice io1 n1 ic1, .slice bo1 N1 bc1]) ((((w2.setCell ⟨w.heap.size, 0, none⟩ (.int .i64 m1)).setCell ⟨w.heap.size, 1, none⟩ (.int .i64 d1)).setCell ⟨w.heap.size, 2, none⟩ (.slice io1 n1 ic1)).setCell ⟨w.heap.size, 3, none⟩ (.slice bo1 N1 bc1))) := (T.keep (by simp [World.setCell]) (fun b hb _ => set4_heap (by omega))).to (fun b hb _ => by omega)
 have HF : Below w.heap.size w ((((w2.setCell ⟨w.heap.size, 0, none⟩ (.int .i64 m1)).setCell ⟨w.heap.size, 1, none⟩ (.int .i64 d1)).setCell ⟨w.heap.size, 2, none⟩ (.slice io1 n1 ic1)).setCell ⟨w.heap.size, 3, none⟩ (.slice bo1 N1 bc1)) := set4_below HB (Nat.le_refl _) _ _ _ _
 have z0 := B.c 0 rfl; have z1 := B.c 1 rfl; have z2 := B.c 2 rfl; have z3 := B.c 3 rfl
 have v0 := B.f 0 rfl; have v1 := B.f 1 rfl; have v2 := B.f 2 rfl; have v3 := B.f 3 rfl
 have NB := (set4_blk B (.int .i64 m1) (.int .i64 d1) (.slice io1 n1 ic1) (.slice bo1 N1 bc1)).out
 clear B T HB
 go_wp2
 generalize ((((w2.setCell ⟨w.heap.size, 0, none⟩ (.int .i64 m1)).setCell ⟨w.heap.size, 1, none⟩ (.int .i64 d1)).setCell ⟨w.heap.size, 2, none⟩ (.slice io1 n1 ic1)).setCell ⟨w.heap.size, 3, none⟩ (.slice bo1 N1 bc1)) = WZ at *
 have o0 := NB.c 0 rfl; have o1 := NB.c 1 rfl; have o2 := NB.c 2 rfl; have o3 := NB.c 3 rfl
 refine bodyPost_ret (v := .agg #[.int .i64 m1, .int .i64 d1, .slice io1 n1 ic1, .slice bo1 N1 bc1]) (by simp [results, Try.results18, go_sem, o0, o1, o2, o3]) rfl ?_
 exact ⟨_, rfl, F.out, HF⟩
set_option maxRecDepth 100000 in
set_option maxHeartbeats 8000000 in
theorem lawQuadLeaves_any (ao : Option Addr) (n cap : Nat) (cs : List Int) (w : World) (h : n ≤ 1048576 → Code w ao n cs) : Calls Try.prog 5 #[.slice ao n cap] w (BoolP true w) := by
 by_cases hn : 1048576 < n
 · go_enter Try.func5, Try.ntmps5
   go_wp2_with fail
   refine (bigK_any ao n cap _ true (by simpa using hn)).mono ?_
   rintro e w1 ⟨rfl, hB⟩
   clear h
   go_wp2
   go_ret
   exact ⟨rfl, hB⟩
 · have hc := h (by omega)
   clear h
   go_enter Try.func5, Try.ntmps5
   go_wp2_with fail
   refine (bigK_any ao n cap _ false (by simpa using hn)).mono ?_
   rintro e w1 ⟨rfl, HB⟩
   replace hc := hc.below HB
   go_wp2_with fail
   refine (drawQuadCount_any ao n cap cs _ hc).mono ?_
   rintro e w2 ⟨v, rfl, T, hB⟩
   replace HB := HB.trans (hB.mono HB.size)
   clear hB hc hn
   obtain ⟨Q, m, d, io, bo, ic, bc, A, off, so, rfl, hm, hN, hL, hbo, hso, hcap, hao, hS, hBl⟩ := T.use
   clear T
   obtain ⟨n1, n2, hcv⟩ := cntV_two Q m d
   have hok : qOk Q m d = true → (nlT (trQ Q d.toNat 0 (-1048576) (-1048576) 2097152) = 1 + 3 * splN Q 0 Q.N ∧ nlT (trQ Q d.toNat 0 (-1048576) (-1048576) 2097152) + splN Q 0 Q.N = Q.N ∧ (dpT (trQ Q d.toNat 0 (-1048576) (-1048576) 2097152) : Int) ≤ d) := ok_cnt
   have hnn : Hid (qOk Q m d = true → n1 = 1 + 3 * (splN Q 0 Q.N : Int) ∧ n1 + (splN Q 0 Q.N : Int) = (Q.N : Int) ∧ n2 ≤ d) := fun ho => by
     obtain ⟨o1, o2, o3⟩ := hok ho
     unfold cntV at hcv
     rw [if_pos ho] at hcv
     have e1 := Value.tuple.inj hcv
     simp only [Array.mk.injEq, List.cons.injEq, Value.int.injEq] at e1
     obtain ⟨⟨_, e1⟩, ⟨_, e2⟩, _⟩ := e1
     omega
   have HCV : Hid (cntV Q m d = .tuple #[.int .i64 n1, .int .i64 n2]) := hcv
   clear hok hcv
   have HM : Hid (Q.m ≤ 1048576) := by show _ ≤ _; omega
   have HN : Hid (Q.N ≤ 2000) := hN
   have HL : Hid (∀ i, i < Q.N → Q.L i ≤ 1048576) := hL
   have HBO : Hid (0 < Q.N → bo = some ⟨A, off, none⟩) := hbo
   have HSO : Hid (∀ i, i < Q.N → (so i).1 = none → (so i).2 = 0) := hso
   have HC : Hid (Q.N ≤ bc) := hcap
   have HA : Hid (∀ A o sp, io = some ⟨A, o, sp⟩ → A < w2.heap.size) := hao
   have hB : Below w2.heap.size w2 (w2.alloc (.cells #[.int .i64 m, .int .i64 d, .slice io Q.m ic, .slice bo Q.N bc] 34)) := (Below.refl _ _).alloc (Nat.le_refl _) _
   have BT := Blk.new w2 [.int .i64 m, .int .i64 d, .slice io Q.m ic, .slice bo Q.N bc] 34 rfl
   rw [show ([.int .i64 m, .int .i64 d, .slice io Q.m ic, .slice bo Q.N bc] : List Value).toArray = #[.int .i64 m, .int .i64 d, .slice io Q.m ic, .slice bo Q.N bc] from rfl] at BT
   have HS : Hid (ItIn Q (w2.alloc (.cells #[.int .i64 m, .int .i64 d, .slice io Q.m ic, .slice bo Q.N bc] 34)) io (List.range Q.m)) := hS.step hB
   have HBL : Hid (BlIn Q (w2.alloc (.cells #[.int .i64 m, .int .i64 d, .slice io Q.m ic, .slice bo Q.N bc] 34)) A off so) := hBl.below hB
   replace HA : Hid (∀ A o sp, io = some ⟨A, o, sp⟩ → A < (w2.alloc (.cells #[.int .i64 m, .int .i64 d, .slice io Q.m ic, .slice bo Q.N bc] 34)).heap.size) := fun A o sp e => Nat.lt_of_lt_of_le (HA.out A o sp e) hB.size
   replace HB := HB.trans (hB.mono HB.size)
   clear hm hN hL hbo hso hcap hao hS hBl hB
   go_upto_region 4 with fail
   generalize (w2.alloc (.cells #[.int .i64 m, .int .i64 d, .slice io Q.m ic, .slice bo Q.N bc] 34)) = W3 at *
   generalize w2.heap.size = T3 at *
   have x0 := BT.c 0 rfl; have x1 := BT.c 1 rfl; have x2 := BT.c 2 rfl; have x3 := BT.c 3 rfl
   go_wp2_with fail
   refine (implQuadCount_any _ Q io bo ic bc A off so m d HM.out (by have := HN.out; omega) HC.out HL.out HBO.out HA.out HS.out HBL.out).mono ?_
   rintro e w4 ⟨rfl, hB⟩
   rw [HCV.out]
   replace HB := HB.trans (hB.mono HB.size)
   replace BT := BT.step hB
   replace HS : Hid (ItIn Q w4 io (List.range Q.m)) := HS.out.step hB
   replace HBL : Hid (BlIn Q w4 A off so) := HBL.out.below hB
   replace HA : Hid (∀ A o sp, io = some ⟨A, o, sp⟩ → A < w4.heap.size) := fun A o sp e => Nat.lt_of_lt_of_le (HA.out A o sp e) hB.size
   clear hB x0 x1 x2 x3
   have x0 := BT.c 0 rfl; have x1 := BT.c 1 rfl; have x2 := BT.c 2 rfl; have x3 := BT.c 3 rfl
   go_wp2_with fail
   refine (specQuadCount_any _ Q io bo ic bc A off so m d HM.out (by have := HN.out; omega) HL.out HBO.out HSO.out HS.out HBL.out).mono ?_
   rintro e w5 ⟨rfl, hB⟩
   rw [HCV.out]
   replace HB := HB.trans (hB.mono HB.size)
   replace BT := BT.step hB
   replace HS : Hid (ItIn Q w5 io (List.range Q.m)) := HS.out.step hB
   replace HBL : Hid (BlIn Q w5 A off so) := HBL.out.below hB
   replace HA : Hid (∀ A o sp, io = some ⟨A, o, sp⟩ → A < w5.heap.size) := fun A o sp e => Nat.lt_of_lt_of_le (HA.out A o sp e) hB.size
   clear hB x0 x1 x2 x3 HCV
   have x0 := BT.c 0 rfl; have x1 := BT.c 1 rfl; have x2 := BT.c 2 rfl; have x3 := BT.c 3 rfl
   go_wp2_with fail
   refine (implQuadOk_any _ Q io bo ic bc A off so m d HM.out (by have := HN.out; omega) HC.out HL.out HBO.out HA.out HS.out HBL.out).mono ?_
   rintro e w6 ⟨rfl, hB⟩
   replace HB := HB.trans (hB.mono HB.size)
   replace BT := BT.step hB
   replace HS : Hid (ItIn Q w6 io (List.range Q.m)) := HS.out.step hB
   replace HBL : Hid (BlIn Q w6 A off so) := HBL.out.below hB
   clear hB x0 x1 x2 x3 HA
   have x0 := BT.c 0 rfl; have x1 := BT.c 1 rfl; have x2 := BT.c 2 rfl; have x3 := BT.c 3 rfl
   cases ho : qOk Q m d with
   | false =>
     clear hnn
     go_wp2_with fail
     refine (specQuadOk_any _ Q io bo ic bc A off so m d HM.out (by have := HN.out; omega) HL.out HBO.out HSO.out HS.out HBL.out).mono ?_
     rintro e w7 ⟨rfl, hB⟩
     rw [ho]
     replace HB := HB.trans (hB.mono HB.size)
     clear hB HS HBL BT HM HN HL HBO HSO HC x0 x1 x2 x3
     go_wp2
     go_ret
     exact ⟨rfl, HB⟩
   | true =>
     obtain ⟨k1, k2, k3⟩ := hnn.out ho
     have hsN : splN Q 0 Q.N ≤ Q.N := by omega
     have HNN : Hid (n1 = 1 + 3 * (splN Q 0 Q.N : Int) ∧ n1 + (splN Q 0 Q.N : Int) = (Q.N : Int) ∧ n2 ≤ d) := ⟨k1, k2, k3⟩
     have hspl : ∀ c, splN Q 0 c ≤ c := by
       intro c
       induction c with
       | zero => exact Nat.le_refl _
       | succ c ih => unfold splN; split <;> omega
     have HSP : Hid (∀ c, splN Q 0 c ≤ c) := hspl
     have hN2 := HN.out
     clear k1 k2 k3 hnn ho hsN hspl HM HL HSO HC HS
     obtain ⟨N, hNN⟩ : ∃ N, Q.N = N := ⟨_, rfl⟩
     have HNE : Hid (Q.N = N) := hNN
     rw [hNN] at HBO HNN HN x3 BT hN2
     rw [hNN]
     clear hNN
     go_wp2_with fail
     go_loopw [8, 9] (fun sv i wr => ∃ c : Nat, c ≤ N ∧ i = .int .i64 c ∧ sv = .int .i64 (splN Q 0 c : Nat) ∧ Below w6.heap.size w6 wr) (fun _ i _ => N - (intOf i).toNat)
     case atStart => exact ⟨0, by omega, rfl, rfl, Below.refl _ _⟩
     case round =>
       clear x0 x1 x2 x3
       obtain ⟨c, hcN, rfl, rfl, hB⟩ := hrel
       replace HB := HB.trans (hB.mono HB.size)
       replace BT := BT.step hB
       have hBw : Hid (Below w6.heap.size w6 wr) := hB
       have x1 := BT.c 1 rfl; have x3 := BT.c 3 rfl
       by_cases hlt : c < N
       · obtain rfl := HBO.out (by omega)
         obtain ⟨hA, _, _, _, c3, _, _⟩ := (HBL.out.below hB) c (by rw [HNE.out]; exact hlt)
         have hcI : (c : Int) < N := by omega
         have hs := HSP.out c
         have hstep : splN Q 0 (c + 1) = splN Q 0 c + (if Q.T c = true then 1 else 0) := by
           show _ + (if Q.T (0 + c) = true then 1 else 0) = _
           rw [Nat.zero_add]
         have HST : Hid (splN Q 0 (c + 1) = splN Q 0 c + (if Q.T c = true then 1 else 0)) := hstep
         clear hstep hB
         generalize splN Q 0 c = sc at *
         have hw1 : IntKind.i64.wrap ((sc : Int) + 1) = ((sc + 1 : Nat) : Int) := by rw [IntKind.wrap_i64]; omega
         cases hT : Q.T c with
         | true =>
           rw [hT] at c3
           have hf : splN Q 0 (c + 1) = sc + 1 := by rw [HST.out, hT]; rfl
           have HF : Hid (splN Q 0 (c + 1) = sc + 1) := hf
           clear hf HST hT
           go_wp2
           go_roundw
           case rel => exact ⟨c + 1, by omega, by go_num, by rw [HF.out]; go_num, hBw.out⟩
           case measure => simp [intOf]; omega
         | false =>
           rw [hT] at c3
           have hf : splN Q 0 (c + 1) = sc := by rw [HST.out, hT]; rfl
           have HF : Hid (splN Q 0 (c + 1) = sc) := hf
           clear hf HST hT
           go_wp2
           go_roundw
           case rel => exact ⟨c + 1, by omega, by go_num, by rw [HF.out], hBw.out⟩
           case measure => simp [intOf]; omega
       · obtain rfl : c = N := by omega
         obtain ⟨k1, k2, k3⟩ := HNN.out
         have hs := HSP.out c
         have hBw2 : Hid (Below w.heap.size w wr) := HB
         clear HNN HSP HBL HBO hBw hB HB
         generalize splN Q 0 c = sc at *
         have hw3 : IntKind.i64.wrap (3 * (sc : Int)) = 3 * (sc : Int) := by rw [IntKind.wrap_i64]; omega
         have hw4 : IntKind.i64.wrap (1 + 3 * (sc : Int)) = n1 := by rw [IntKind.wrap_i64]; omega
         have hw5 : IntKind.i64.wrap (n1 + (sc : Int)) = (c : Int) := by rw [IntKind.wrap_i64]; omega
         have hq1 : (n1 == 1 + 3 * (sc : Int)) = true := by simp; omega
         have hq2 : (n1 + (sc : Int) == (c : Int)) = true := by simp; omega
         have hcc : (c : Int) = n1 + sc := by omega
         have hcc2 : n1 = 1 + 3 * (sc : Int) := k1
         clear k1 k2
         go_wp2
         go_ret
         refine ⟨?_, hBw2.out⟩
         simp
open Go.ChangeShapes Go.WideShapes Go.ChangeAt Go.RowKit Go.Joins
theorem jn_laid : laidOutB Try.pinned.checked.prog = true := by kernel_rfl
theorem jn_maps : mapsRowed Try.pinned.checked.prog = true := by kernel_rfl
theorem jn_enter : Try.pinned.checked.prog.mayEnter = true := by kernel_rfl
theorem jn_heard : Try.pinned.checked.prog.stopsHeard = true := by kernel_rfl
end Go.Proofs.Ytjhapeidafbncaa
