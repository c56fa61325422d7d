/- Part 18 of the walks that the proof leans on. -/
import Derived.Test.YtibbjjlapglndaaGreatDp17
import Derived.Test.YtibbjjlapglndaaGreatDp4
import Derived.Test.YtibbjjlapglndaaGreatDp16
import Derived.SizedLaws
import Derived.Deep.Slices
import Derived.Test.YtibbjjlapglndaaGreatRows
import Derived.ProofKit
import Derived.Lib.SmallJoins
namespace Go.Proofs.YtibbjjlapglndaaGreat
open Go.RowKit
def absI (x : Int) : Int := if x < 0 then -x else x
def laS (n : Nat) (L : Nat → Nat) (q : Nat → Ps) : Nat → Int
 | 0 => 0
 | c + 1 => laS n L q c + (if dpN L q c n % 2 = 1 then -absI (arA (L c) (q c) (L c)) else absI (arA (L c) (q c) (L c)))
def laV (n : Nat) (L : Nat → Nat) (q : Nat → Ps) : Int := if lyB n L q = true then laS n L q n else 0
theorem laS_bnd {n : Nat} {L : Nat → Nat} {q : Nat → Ps} (hR : ∀ i, i < n → RgOk (L i) (q i)) : ∀ c, c ≤ n → -(c * 24000000000000 : Int) ≤ laS n L q c ∧ laS n L q c ≤ c * 24000000000000
 | 0, _ => by simp [laS]
 | c + 1, h => by
   have I := laS_bnd hR c (by omega)
   have hab := arA_bnd (hR c (by omega)).ok (L c) (Nat.le_refl _)
   have h12 := (hR c (by omega)).h12
   have hb : 0 ≤ absI (arA (L c) (q c) (L c)) ∧ absI (arA (L c) (q c) (L c)) ≤ 24000000000000 := by unfold absI; split <;> omega
   rw [laS]
   split <;> omega
set_option maxRecDepth 100000 in
set_option maxHeartbeats 8000000 in
theorem specLayerArea2_any (ao : Option Addr) (n cap : Nat) (S : Nat → Option Addr × Nat) (L : Nat → Nat) (q : Nat → Ps) (hn : n ≤ 1048576) (hL : ∀ i, i < n → L i ≤ 1048576) (w : World) (hS : RgIn w ao n S L q) : Calls Tryz.prog 21 #[.slice ao n cap] w (VP (.int .i64 (laV n L q)) w) := by
 have O1 := fun w h => l6Ok_any ao n cap S L q hn hL w h
 have hv : Hid (laV n L q = if lyB n L q = true then laS n L q n else 0) := rfl
 have hnI : (n : Int) ≤ 1048576 := by omega
 have HS0 := hS
 clear hS hL
 generalize laV n L q = o at *
 go_enter Tryz.func21, Tryz.ntmps21
 go_wp2_with fail
 refine (O1 _ HS0).mono ?_
 rintro e w1 ⟨rfl, hB⟩
 have HB0 := hB
 replace HS0 := HS0.step hB
 clear hB O1
 cases h1 : lyB n L q
 · have hv2 : Hid (o = 0) := by show _ = _; rw [hv.out, if_neg (by rw [h1]; simp)]
   clear h1 hv HS0
   go_wp2
   go_ret
   exact ⟨by rw [hv2.out]; rfl, HB0⟩
 · obtain ⟨h6, hR⟩ := lyB_ok h1
   have hv2 : Hid (o = laS n L q n) := by show _ = _; rw [hv.out, if_pos h1]
   have HR : Hid (∀ i, i < n → RgOk (L i) (q i)) := hR
   have HS : Hid (RgIn w1 ao n S L q) := HS0
   have h6I : (n : Int) ≤ 6 := by omega
   clear hv h1 HS0 hR
   go_wp2_with fail
   go_loopw [3, 4] (fun s k wr => ∃ c : Nat, c ≤ n ∧ k = .int .i64 c ∧ s = .int .i64 (laS n L q c) ∧ Below w1.heap.size w1 wr) (fun _ k _ => n - (intOf k).toNat)
   case atStart => exact ⟨0, by omega, rfl, rfl, Below.refl _ _⟩
   case round =>
     obtain ⟨c, hc, rfl, rfl, HB⟩ := hrel
     have hbs := laS_bnd HR.out c hc
     by_cases hcn : c < n
     · have hcI : (c : Int) < n := by omega
       obtain ⟨A, off, rfl, hA, q0, hsc⟩ := HS.out.step HB c hcn
       have AR := fun w h => l5Area2_any (S c).1 (L c) (S c).2 (q c) (HR.out c hcn).h12 (HR.out c hcn).ok w h
       have DP := fun w h => l6Depth_any (some ⟨A, off, none⟩) n cap S L q c hcn h6 HR.out w h
       have hab := arA_bnd (HR.out c hcn).ok (L c) (Nat.le_refl _)
       have h12 := (HR.out c hcn).h12
       have hdl := dpN_le L q c n
       have HX : Hid (laS n L q (c + 1) = laS n L q c + (if dpN L q c n % 2 = 1 then -absI (arA (L c) (q c) (L c)) else absI (arA (L c) (q c) (L c)))) := rfl
       have hb1 : -24000000000000 ≤ arA (L c) (q c) (L c) ∧ arA (L c) (q c) (L c) ≤ 24000000000000 := by omega
       have HSc : Hid (SpIn wr (S c).1 (L c) (q c)) := hsc
       clear hab h12 hsc
       have hsc := HSc.out
       clear HSc
       go_wp2_with fail
       refine (AR _ hsc).mono ?_
       rintro e w2 ⟨rfl, hB⟩
       replace HB := HB.trans (hB.mono HB.size)
       clear hB AR hsc
       generalize arA (L c) (q c) (L c) = ar at *
       generalize hdd : dpN L q c n = dd at *
       have hdI : (dd : Int) ≤ 6 := by omega
       have hd0 : (0 : Int) ≤ dd := by omega
       have hrem : ((dd : Nat) : Int).tmod 2 = ((dd % 2 : Nat) : Int) := by rw [Int.tmod_eq_emod_of_nonneg (by omega), Int.natCast_emod]; rfl
       by_cases hneg : ar < 0
       · have e1 : absI ar = -ar := by unfold absI; rw [if_pos hneg]
         have w1' : IntKind.i64.wrap (-ar) = -ar := by rw [IntKind.wrap_i64]; omega
         go_wp2_with fail
         refine (DP _ (HS.out.step HB)).mono ?_
         rintro e w3 ⟨rfl, hB⟩
         replace HB := HB.trans (hB.mono HB.size)
         clear hB DP
         by_cases hodd : dd % 2 = 1
         · have HX2 : Hid (laS n L q (c + 1) = laS n L q c + ar) := by show _ = _; rw [HX.out, if_pos hodd, e1]; omega
           have hrem1 : ((dd : Nat) : Int).tmod 2 = 1 := by rw [hrem, hodd]; rfl
           have hw2 : IntKind.i64.wrap (laS n L q c + ar) = laS n L q c + ar := by rw [IntKind.wrap_i64]; omega
           have hw3 : IntKind.i64.wrap ar = ar := by rw [IntKind.wrap_i64]; omega
           clear hrem HX e1
           go_wp2
           go_roundw
           case rel => exact ⟨c + 1, by omega, by go_num, by rw [HX2.out], HB⟩
           case measure => simp [intOf]; omega
         · have HX2 : Hid (laS n L q (c + 1) = laS n L q c + -ar) := by show _ = _; rw [HX.out, if_neg hodd, e1]
           have hrem1 : ((dd : Nat) : Int).tmod 2 = 0 := by rw [hrem]; have : dd % 2 = 0 := by omega
                                                            rw [this]; rfl
           have hw2 : IntKind.i64.wrap (laS n L q c + -ar) = laS n L q c + -ar := by rw [IntKind.wrap_i64]; omega
           clear hrem HX e1
           go_wp2
           go_roundw
           case rel => exact ⟨c + 1, by omega, by go_num, by rw [HX2.out], HB⟩
           case measure => simp [intOf]; omega
       · have e1 : absI ar = ar := by unfold absI; rw [if_neg hneg]
         have hge : 0 ≤ ar := by omega
         have w1' : IntKind.i64.wrap (-ar) = -ar := by rw [IntKind.wrap_i64]; omega
         go_wp2_with fail
         refine (DP _ (HS.out.step HB)).mono ?_
         rintro e w3 ⟨rfl, hB⟩
         replace HB := HB.trans (hB.mono HB.size)
         clear hB DP
         by_cases hodd : dd % 2 = 1
         · have HX2 : Hid (laS n L q (c + 1) = laS n L q c + -ar) := by show _ = _; rw [HX.out, if_pos hodd, e1]
           have hrem1 : ((dd : Nat) : Int).tmod 2 = 1 := by rw [hrem, hodd]; rfl
           have hw2 : IntKind.i64.wrap (laS n L q c + -ar) = laS n L q c + -ar := by rw [IntKind.wrap_i64]; omega
           clear hrem HX e1
           go_wp2
           go_roundw
           case rel => exact ⟨c + 1, by omega, by go_num, by rw [HX2.out], HB⟩
           case measure => simp [intOf]; omega
         · have HX2 : Hid (laS n L q (c + 1) = laS n L q c + ar) := by show _ = _; rw [HX.out, if_neg hodd, e1]
           have hrem1 : ((dd : Nat) : Int).tmod 2 = 0 := by rw [hrem]; have : dd % 2 = 0 := by omega
                                                            rw [this]; rfl
           have hw2 : IntKind.i64.wrap (laS n L q c + ar) = laS n L q c + ar := by rw [IntKind.wrap_i64]; omega
           clear hrem HX e1
           go_wp2
           go_roundw
           case rel => exact ⟨c + 1, by omega, by go_num, by rw [HX2.out], HB⟩
           case measure => simp [intOf]; omega
     · obtain rfl : c = n := by omega
       have HBF := HB0.trans (HB.mono HB0.size)
       clear HS HR
       go_wp2
       go_ret
       exact ⟨by rw [hv2.out]; rfl, HBF⟩
set_option maxRecDepth 100000 in
set_option maxHeartbeats 8000000 in
theorem implLayerArea2_any (ao : Option Addr) (n cap : Nat) (S : Nat → Option Addr × Nat) (L : Nat → Nat) (q : Nat → Ps) (hn : n ≤ 1048576) (hL : ∀ i, i < n → L i ≤ 1048576) (hc1 : n ≤ cap) (hc2 : cap ≤ 9223372036854775807) (hC : ∀ i, i < n → L i ≤ (S i).2 ∧ (S i).2 ≤ 9223372036854775807) (w : World) (hS : RgIn w ao n S L q) : Calls Tryz.prog 22 #[.slice ao n cap] w (VP (.int .i64 (laV n L q)) w) := by
 have O1 := fun w h => isLayer_any ao n cap S L q hn hc1 hc2 hL hC w h
 have hv : Hid (laV n L q = if lyB n L q = true then laS n L q n else 0) := rfl
 have hnI : (n : Int) ≤ 1048576 := by omega
 have HS0 := hS
 clear hS hL hC
 generalize laV n L q = o at *
 go_enter Tryz.func22, Tryz.ntmps22
 go_wp2_with fail
 refine (O1 _ HS0).mono ?_
 rintro e w1 ⟨rfl, hB⟩
 have HB0 := hB
 replace HS0 := HS0.step hB
 clear hB O1
 cases h1 : lyB n L q
 · have hv2 : Hid (o = 0) := by show _ = _; rw [hv.out, if_neg (by rw [h1]; simp)]
   clear h1 hv HS0
   go_wp2
   go_ret
   exact ⟨by rw [hv2.out]; rfl, HB0⟩
 · obtain ⟨h6, hR⟩ := lyB_ok h1
   have hv2 : Hid (o = laS n L q n) := by show _ = _; rw [hv.out, if_pos h1]
   have HR : Hid (∀ i, i < n → RgOk (L i) (q i)) := hR
   have HS : Hid (RgIn w1 ao n S L q) := HS0
   have h6I : (n : Int) ≤ 6 := by omega
   clear hv h1 HS0 hR
   go_wp2_with fail
   go_loopw [3, 13] (fun s k wr => ∃ c : Nat, c ≤ n ∧ k = .int .i64 c ∧ s = .int .i64 (laS n L q c) ∧ Below w1.heap.size w1 wr) (fun _ k _ => n - (intOf k).toNat)
   case atStart => exact ⟨0, by omega, rfl, rfl, Below.refl _ _⟩
   case round =>
     obtain ⟨c, hc, rfl, rfl, HB⟩ := hrel
     have hbs := laS_bnd HR.out c hc
     by_cases hcn : c < n
     · have hcI : (c : Int) < n := by omega
       obtain ⟨A, off, rfl, hA, q0, hsc⟩ := HS.out.step HB c hcn
       have AR := fun w h => area2_any (S c).1 (L c) (S c).2 (q c) (HR.out c hcn).h12 (HR.out c hcn).ok w h
       have DP := fun w h => depthOf_any (some ⟨A, off, none⟩) n cap S L q c hcn h6 HR.out w h
       have hab := arA_bnd (HR.out c hcn).ok (L c) (Nat.le_refl _)
       have h12 := (HR.out c hcn).h12
       have hdl := dpN_le L q c n
       have HX : Hid (laS n L q (c + 1) = laS n L q c + (if dpN L q c n % 2 = 1 then -absI (arA (L c) (q c) (L c)) else absI (arA (L c) (q c) (L c)))) := rfl
       have hb1 : -24000000000000 ≤ arA (L c) (q c) (L c) ∧ arA (L c) (q c) (L c) ≤ 24000000000000 := by omega
       have HSc : Hid (SpIn wr (S c).1 (L c) (q c)) := hsc
       clear hab h12 hsc
       have hB1 := (Below.refl wr.heap.size wr).alloc (Nat.le_refl _) (.cells #[.slice (S c).1 (L c) (S c).2] 34)
       have B1 := Blk.new wr [.slice (S c).1 (L c) (S c).2] 34 rfl
       replace HB := HB.trans (hB1.mono HB.size)
       have hsc := HSc.out.step hB1
       go_upto_region 7 with fail
       clear q0 hA hB1
       generalize wr.alloc (.cells #[.slice (S c).1 (L c) (S c).2] 34) = W5 at *
       generalize wr.heap.size = gr at *
       have b0 := B1.c 0 rfl
       clear HSc
       go_wp2_with fail
       refine (AR _ hsc).mono ?_
       rintro e w2 ⟨rfl, hB⟩
       replace HB := HB.trans (hB.mono HB.size)
       clear hB AR hsc
       generalize arA (L c) (q c) (L c) = ar at *
       generalize hdd : dpN L q c n = dd at *
       have hdI : (dd : Int) ≤ 6 := by omega
       have hd0 : (0 : Int) ≤ dd := by omega
       have hrem : ((dd : Nat) : Int).tmod 2 = ((dd % 2 : Nat) : Int) := by rw [Int.tmod_eq_emod_of_nonneg (by omega), Int.natCast_emod]; rfl
       have w1' : IntKind.i64.wrap (-ar) = -ar := by rw [IntKind.wrap_i64]; omega
       have hmx : (if ar < -ar then -ar else ar) = absI ar := by unfold absI; split <;> split <;> omega
       have hab2 : 0 ≤ absI ar ∧ absI ar ≤ 24000000000000 := by unfold absI; split <;> omega
       go_upto_region 9 with fail
       clear hmx
       generalize absI ar = sz at *
       go_wp2_with fail
       refine (DP _ (HS.out.step HB)).mono ?_
       rintro e w3 ⟨rfl, hB⟩
       replace HB := HB.trans (hB.mono HB.size)
       clear hB DP
       by_cases hodd : dd % 2 = 1
       · have HX2 : Hid (laS n L q (c + 1) = laS n L q c - sz) := by show _ = _; rw [HX.out, if_pos hodd]; omega
         have hrem1 : ((dd : Nat) : Int).tmod 2 = 1 := by rw [hrem, hodd]; rfl
         have hw2 : IntKind.i64.wrap (laS n L q c - sz) = laS n L q c - sz := by rw [IntKind.wrap_i64]; omega
         clear hrem HX
         go_wp2
         go_roundw
         case rel => exact ⟨c + 1, by omega, by go_num, by rw [HX2.out], HB⟩
         case measure => simp [intOf]; omega
       · have HX2 : Hid (laS n L q (c + 1) = laS n L q c + sz) := by show _ = _; rw [HX.out, if_neg hodd]
         have hrem1 : ((dd : Nat) : Int).tmod 2 = 0 := by rw [hrem]; have : dd % 2 = 0 := by omega
                                                          rw [this]; rfl
         have hw2 : IntKind.i64.wrap (laS n L q c + sz) = laS n L q c + sz := by rw [IntKind.wrap_i64]; omega
         clear hrem HX
         go_wp2
         go_roundw
         case rel => exact ⟨c + 1, by omega, by go_num, by rw [HX2.out], HB⟩
         case measure => simp [intOf]; omega
     · obtain rfl : c = n := by omega
       have HBF := HB0.trans (HB.mono HB0.size)
       clear HS HR
       go_wp2
       go_ret
       exact ⟨by rw [hv2.out]; rfl, HBF⟩
set_option maxRecDepth 100000 in
set_option maxHeartbeats 4000000 in
theorem lawLayerArea2_any (ao : Option Addr) (n cap : Nat) (S : Nat → Option Addr × Nat) (L : Nat → Nat) (q : Nat → Ps) (hn : n ≤ 9223372036854775807) (hL : ∀ i, i < n → L i ≤ 9223372036854775807) (w : World) (hS : RgIn w ao n S L q) : Calls Tryz.prog 6 #[.slice ao n cap] w (BoolP true w) := by
 have SZ := szRingS_any 1048576 (by omega) (by omega) ao n cap S L q hn hL w hS
 go_enter Tryz.func6, Tryz.ntmps6
 go_wp2_with fail
 refine SZ.mono ?_
 rintro e w1 ⟨zl, rfl, z0, z1, hzl, hB⟩
 have HB := hB
 have HS := hS.step hB
 clear hB SZ hS hL hn
 by_cases hz0 : 0 ≤ zl
 · obtain ⟨hn, hL⟩ := hzl hz0
   have T1 := fun w => toRingS_any ao n cap S L q hn hL w
   have SP := fun a S w h => specLayerArea2_any a n n S L q hn hL w h
   have IM := fun a S hc w h => implLayerArea2_any a n n S L q hn hL (Nat.le_refl _) (by omega) hc w h
   have EQ := fun a b S S' w h h' => eqRingS_any a b n n n S S' L q hn hL w h h'
   have HL : Hid (∀ i, i < n → L i ≤ 1048576) := hL
   generalize laV n L q = o at *
   have hoo : (o != o) = false := by simp
   clear hzl hL
   go_wp2_with fail
   refine (T1 _ HS).mono ?_
   rintro e w2 ⟨g1, S1, rfl, R1, -, -, hB⟩
   replace HB := HB.trans (hB.mono HB.size)
   replace HS := HS.step hB
   clear hB
   go_wp2_with fail
   refine (SP _ _ _ R1).mono ?_
   rintro e w3 ⟨rfl, hB⟩
   replace HB := HB.trans (hB.mono HB.size)
   replace HS := HS.step hB
   clear hB R1 SP
   go_wp2_with fail
   refine (T1 _ HS).mono ?_
   rintro e w4 ⟨g2, S2, rfl, R2, hS2, -, hB⟩
   replace HB := HB.trans (hB.mono HB.size)
   replace HS := HS.step hB
   have HC : Hid (∀ i, i < n → L i ≤ (S2 i).2 ∧ (S2 i).2 ≤ 9223372036854775807) := fun i hi => by
     have := HL.out i hi
     rw [hS2 i]
     omega
   clear hB hS2
   go_wp2_with fail
   refine (IM _ _ HC.out _ R2).mono ?_
   rintro e w5 ⟨rfl, hB⟩
   replace HB := HB.trans (hB.mono HB.size)
   replace HS := HS.step hB
   replace R2 := R2.step hB
   clear hB IM
   go_wp2_with fail
   refine (T1 _ HS).mono ?_
   rintro e w6 ⟨g3, S3, rfl, R3, -, -, hB⟩
   replace HB := HB.trans (hB.mono HB.size)
   replace R2 := R2.step hB
   clear hB HS T1
   go_wp2_with fail
   refine (EQ _ _ _ _ _ R2 R3).mono ?_
   rintro e w7 ⟨rfl, hB⟩
   replace HB := HB.trans (hB.mono HB.size)
   clear hB R2 R3 EQ
   go_wp2
   go_ret
   exact ⟨rfl, HB⟩
 · clear hzl
   have hz' : zl < 0 := by omega
   go_wp2
   go_ret
   exact ⟨rfl, HB⟩
open Go.ChangeShapes Go.WideShapes Go.ChangeAt Go.RowKit Go.Joins
abbrev Wf (x : Int) : Prop := (Lit.int .i64 x).wf = true
abbrev SpD {H : Type} (x y : Int) : DataW H := .agg [.lit (.int .i64 x), .lit (.int .i64 y)]
theorem trod_spot {H : Type} {enc : TypeId × Value → H} {w : World} {base : Nat} {spare : TypeId → Bool} {held : Bool} {n : Nat} {c0 c1 : Value} {y : DataW H × List MemPlace} (h : DataW.trod enc Tryz.prog w base spare held n 90 [c0, c1] = some y) :
   ∃ a b : Int, c0 = .int .i64 a ∧ c1 = .int .i64 b ∧ y = (SpD a b, []) ∧ Wf a ∧ Wf b := by
 obtain ⟨y0, y1, m, hx, _, h0, h1⟩ := trod_struct2 Tryz.underlying90 h
 obtain ⟨a, e0, rfl, wa⟩ := DataW.trod_int Tryz.underlying2 h0
 obtain ⟨b, e1, rfl, wb⟩ := DataW.trod_int Tryz.underlying2 h1
 have k : Tryz.prog.cellsOf 2 = 1 := by kernel_rfl
 simp [k] at e0 e1
 exact ⟨a, b, e0, e1, hx, wa, wb⟩
open Go.ChangeShapes Go.WideShapes Go.ChangeAt Go.RowKit Go.Joins
theorem Tryz.laidOut : laidOutB Tryz.prog = true := by kernel_rfl
theorem Tryz.cellsSpotL : Tryz.prog.cellsOf 90 = 2 := by kernel_rfl
theorem Tryz.cellsRing : Tryz.prog.cellsOf 24 = 1 := by kernel_rfl
theorem Tryz.cellsSpotS : Tryz.prog.cellsOf 22 = 1 := by kernel_rfl
theorem spots_of {H : Type} {enc : TypeId × Value → H} {W : World} {a : Addr} {len m n : Nat} {D : Nat → DataW H} {Pl : Nat → List MemPlace} (hl : len ≤ m)
   (hx : ∀ i, i < m → ∃ cs', W.cells? 0 (a.add (i * Tryz.prog.cellsOf 90)) (Tryz.prog.cellsOf 90) = some cs' ∧ DataW.trod enc Tryz.prog W 0 (fun _ => true) true n 90 cs' = some (D i, Pl i))
   (hlt : ∀ x ∈ MemPlace.row a (m * Tryz.prog.cellsOf 90), x.block < W.heap.size) : ∃ p : Ps, SpIn W (some a) len p := by
 rw [Tryz.cellsSpotL] at hx hlt
 have each : ∀ i, i < m → ∃ q : Int × Int, W.cell? (a.add (i * 2)) = some (.int .i64 q.1) ∧ W.cell? (a.add (i * 2 + 1)) = some (.int .i64 q.2) := by
   intro i hi
   obtain ⟨cs', h1, h2⟩ := hx i hi
   obtain ⟨_, hlen, hcell⟩ := World.cells?_some h1
   match cs', hlen with
   | [v0, v1], _ =>
     have e0 := hcell 0 (by omega); have e1 := hcell 1 (by omega)
     rw [Go.Deep.add_add] at e0 e1
     obtain ⟨x, y, rfl, rfl, -, -, -⟩ := trod_spot h2
     exact ⟨(x, y), by simpa using e0, by simpa using e1⟩
 obtain ⟨q, hq⟩ := Go.Deep.choose_lt each
 obtain ⟨ab, ao, spot⟩ := a
 refine ⟨q, fun i hi => ?_⟩
 have hspot : spot = none := by simpa [Addr.add] using World.cell?_spot (hq 0 (by omega)).1
 subst hspot
 obtain ⟨c0, c1⟩ := hq i (by omega)
 rw [Addr.add_lit] at c0 c1
 exact ⟨ab, ao, rfl, hlt (.cell ab (ao + i * 2)) (by simp only [MemPlace.row, List.mem_map, List.mem_range]; exact ⟨i * 2, by omega, rfl⟩), c0, by simpa [Nat.add_assoc] using c1⟩
theorem rings_of {H : Type} {enc : TypeId × Value → H} {W : World} {a : Addr} {len m n : Nat} {D : Nat → DataW H} {Pl : Nat → List MemPlace} (hl : len ≤ m)
   (hx : ∀ i, i < m → ∃ cs', W.cells? 0 (a.add (i * Tryz.prog.cellsOf 24)) (Tryz.prog.cellsOf 24) = some cs' ∧ DataW.trod enc Tryz.prog W 0 (fun _ => true) true n 24 cs' = some (D i, Pl i))
   (hlt : ∀ x ∈ MemPlace.row a (m * Tryz.prog.cellsOf 24), x.block < W.heap.size) (hlt2 : ∀ i, i < m → ∀ x ∈ Pl i, x.block < W.heap.size) : ∃ (S : Nat → Option Addr × Nat) (L : Nat → Nat) (q : Nat → Ps), RgIn W (some a) len S L q ∧ ∀ i, i < len → L i ≤ 9223372036854775807 := by
 rw [Tryz.cellsRing] at hx hlt
 have each : ∀ i, i < m → ∃ r : (Option Addr × Nat) × Nat × Ps, W.cell? (a.add i) = some (.slice r.1.1 r.2.1 r.1.2) ∧ SpIn W r.1.1 r.2.1 r.2.2 ∧ r.2.1 ≤ 9223372036854775807 := by
   intro i hi
   obtain ⟨cs', h1, h2⟩ := hx i hi
   obtain ⟨_, hlen, hcell⟩ := World.cells?_some h1
   match cs', hlen with
   | [v0], _ =>
     have e0 := hcell 0 (by omega)
     rw [Go.Deep.add_add] at e0
     simp at e0
     obtain ⟨y0, k, hy, _, g0⟩ := trod_struct1 Tryz.underlying24 h2
     simp [Tryz.cellsSpotS] at g0
     have hpl : Pl i = y0.2 := by have := congrArg Prod.snd hy; simpa using this
     rcases Go.Deep.open_slice Tryz.underlying22 g0 with ⟨hcs, -⟩ | ⟨a', len', cap', m', n', D', Pl', hcs, _, hl', hm', hz', hx', hel'⟩
     · simp at hcs
       subst hcs
       exact ⟨((none, 0), 0, fun _ => (0, 0)), e0, fun i hi => absurd hi (Nat.not_lt_zero _), Nat.zero_le _⟩
     · simp at hcs
       subst hcs
       simp only [if_true] at hz'
       have hb : ∀ x ∈ MemPlace.row a' (m' * Tryz.prog.cellsOf 90), x.block < W.heap.size := fun x hxx => hlt2 i hi x (by
         rw [hpl, hx']
         exact List.mem_append_left _ hxx)
       obtain ⟨p, hp⟩ := spots_of (len := len') (by omega) hel' hb
       exact ⟨((some a', cap'), len', p), e0, hp, by show len' ≤ _; have := hm'; simp [maxLen] at this; omega⟩
 obtain ⟨r, hr⟩ := Go.Deep.choose_lt each
 obtain ⟨ab, ao, spot⟩ := a
 refine ⟨fun i => (r i).1, fun i => (r i).2.1, fun i => (r i).2.2, fun i hi => ?_, fun i hi => (hr i (by omega)).2.2⟩
 have hspot : spot = none := by simpa [Addr.add] using World.cell?_spot (hr 0 (by omega)).1
 subst hspot
 have c0 := (hr i (by omega)).1
 rw [Addr.add_lit] at c0
 exact ⟨ab, ao, rfl, hlt (.cell ab (ao + i)) (by simp only [MemPlace.row, List.mem_map, List.mem_range]; exact ⟨i, by omega, rfl⟩), c0, (hr i (by omega)).2.1⟩
set_option maxRecDepth 100000 in
theorem open_rings {H : Type} {enc : TypeId × Value → H} {W : World} {base : Nat} {v : Value} {d : DataW H} {pl : List MemPlace} (ok : Value.okWide Tryz.prog W .any base 43 v) (h : DataW.Trod enc Tryz.prog W 0 (fun _ => true) true 43 v d pl) (hlt : ∀ x ∈ pl, x.block < W.heap.size) :
   ∃ ao n cap S L q, v = .slice ao n cap ∧ n ≤ 9223372036854775807 ∧ (∀ i, i < n → L i ≤ 9223372036854775807) ∧ RgIn W ao n S L q := by
 obtain ⟨a0, len, cap, rfl⟩ := okWide_slice Tryz.underlying43 ok
 obtain ⟨fuel, hf⟩ := h
 rcases Go.Deep.open_slice Tryz.underlying43 hf with ⟨hcs, hx⟩ | ⟨a, len', cap', m, n, D, Pl, hcs, _, hl, hm, hz, hx, hel⟩
 · simp [Value.cells] at hcs
   obtain ⟨rfl, rfl, rfl⟩ := hcs
   exact ⟨none, 0, 0, fun _ => (none, 0), fun _ => 0, fun _ _ => (0, 0), rfl, by omega, fun i hi => by omega, fun i hi => by omega⟩
 · simp [Value.cells] at hcs
   obtain ⟨rfl, rfl, rfl⟩ := hcs
   simp only [Prod.mk.injEq] at hx
   obtain ⟨rfl, rfl⟩ := hx
   simp only [if_true] at hz
   obtain ⟨S, L, q, hS, hL⟩ := rings_of (len := len) (by omega) hel (fun y hy => hlt y (List.mem_append_left _ hy)) (fun i hi y hy => hlt y (List.mem_append_right _ (List.mem_flatMap.2 ⟨i, List.mem_range.2 hi, hy⟩)))
   exact ⟨some a, len, cap, S, L, q, rfl, by have := hm; simp [maxLen] at this; omega, hL, hS⟩
open Go.ChangeShapes Go.WideShapes Go.ChangeAt Go.RowKit Go.Joins
theorem jn_laid : laidOutB Tryz.pinned.checked.prog = true := by kernel_rfl
theorem jn_maps : mapsRowed Tryz.pinned.checked.prog = true := by kernel_rfl
theorem jn_enter : Tryz.pinned.checked.prog.mayEnter = true := by kernel_rfl
theorem jn_heard : Tryz.pinned.checked.prog.stopsHeard = true := by kernel_rfl
end Go.Proofs.YtibbjjlapglndaaGreat
