/- Part 17 of the walks that the proof leans on. -/
import Derived.Test.YtjhapeidafbncaaPart16
import Derived.Test.YtjhapeidafbncaaPart13
import Derived.Test.YtjhapeidafbncaaPart15
import Derived.Test.YtjhapeidafbncaaPart2
import Derived.Test.YtjhapeidafbncaaPart1
namespace Go.Proofs.Ytjhapeidafbncaa
open Go.RowKit
set_option maxRecDepth 100000 in
set_option maxHeartbeats 16000000 in
theorem heldBlQ_any (v : Value) (n K : Nat) (s : Nat → Value) (L : Nat → Nat) (hn : n ≤ 1048576) (hL : ∀ i, i < n → L i ≤ 1048576) (hK : K ≤ 4300210176) (w : World) (hO : BkN w v n (bkX K L) s L (mqE K L)) : Calls Try.prog 46 #[v, .int .i64 (K : Int)] w (VP (.int .i64 (mkB K L n : Int)) w) := by
 have hKI : (K : Int) ≤ 4300210176 := by omega
 obtain ⟨hrow, hN, d1, d2⟩ := hO
 rcases hrow with ⟨rfl, rfl⟩ | ⟨g, cap, f, rfl, hc, R, hf⟩
 · clear hN d1 d2
   go_enter Try.func46, Try.ntmps46
   go_wp2_with fail
   go_loopw [1, 5] (fun o i wr => o = .int .i64 (K : Int) ∧ i = .int .i64 0 ∧ wr = w) (fun _ i _ => 0)
   case atStart => exact ⟨rfl, rfl, rfl⟩
   case round =>
     obtain ⟨rfl, rfl, rfl⟩ := hrel
     go_wp2
     go_ret
     exact ⟨rfl, Below.refl _ _⟩
 have HR : Hid (w.rowIs g 55 (cap * 5) f ∧ (∀ k, k < n * 5 → f k = bkC (bkX K L) s k) ∧ (∀ i, i < n → RwN w 2 1 (s i) (L i) (mqE K L i))) := ⟨R, hf, hN⟩
 have HL : Hid (∀ i, i < n → L i ≤ 1048576) := hL
 have HK : Hid (∀ c, c ≤ n → mkB K L c ≤ 1103816294400) := fun c hc => by have := mkB_le (K := K) hL c hc; have : c * 1048580 ≤ 1048576 * 1048580 := Nat.mul_le_mul_right _ (by omega); omega
 clear R hf hN d1 d2 hL
 have hnI : (n : Int) ≤ 1048576 := by omega
 go_enter Try.func46, Try.ntmps46
 go_wp2_with fail
 go_loopw [1, 5] (fun o i wr => ∃ c : Nat, c ≤ n ∧ o = .int .i64 (mkB K L c : Int) ∧ i = .int .i64 c ∧ Below w.heap.size w wr) (fun _ i _ => n - (intOf i).toNat)
 case atStart => exact ⟨0, by omega, rfl, rfl, Below.refl _ _⟩
 case round =>
   obtain ⟨c, hcn, rfl, rfl, HB⟩ := hrel
   have hkb := HK.out c hcn
   obtain ⟨kk, hkk⟩ : ∃ kk, mkB K L c = kk := ⟨_, rfl⟩
   have HKK : Hid (mkB K L c = kk) := hkk
   rw [hkk] at hkb ⊢
   have hkI : (kk : Int) ≤ 1103816294400 := by omega
   clear hkk
   by_cases hlt : c < n
   · have hcI : (c : Int) < n := by omega
     obtain ⟨so, sc, hs⟩ := (HR.out.2.2 c hlt).slice
     have RW := rowI_step HR.out.1 (HB.mono (Nat.le_refl _))
     have NI : RwN wr 2 1 (.slice so (L c) sc) (L c) (nuK (kk + 4)) := by
       have h := HR.out.2.2 c hlt
       have h2 := h.heap (w' := wr) (fun b e => HB.block b (h.lt e))
       unfold mqE at h2
       rw [hs, HKK.out] at h2
       exact h2
     have hk9 := HKK.out
     have o0 : wr.cell? ⟨g, c * 5, none⟩ = some (.int .i64 ((kk : Int))) := (RW.cell (i := c * 5) (by omega)).trans (by rw [HR.out.2.1 _ (by omega), show c * 5 = c * 5 + 0 from rfl, bkC_at _ _ _ 0 (by omega), bkX_at _ _ _ 0 (by omega), hk9]; congr 2)
     have o1 : wr.cell? ⟨g, c * 5 + 1, none⟩ = some (.int .i64 ((kk : Int) + 1)) := (RW.cell (i := c * 5 + 1) (by omega)).trans (by rw [HR.out.2.1 _ (by omega), show c * 5 + 1 = c * 5 + 1 from rfl, bkC_at _ _ _ 1 (by omega), bkX_at _ _ _ 1 (by omega), hk9]; congr 2)
     have o2 : wr.cell? ⟨g, c * 5 + 2, none⟩ = some (.int .i64 ((kk : Int) + 1 + 1)) := (RW.cell (i := c * 5 + 2) (by omega)).trans (by rw [HR.out.2.1 _ (by omega), show c * 5 + 2 = c * 5 + 2 from rfl, bkC_at _ _ _ 2 (by omega), bkX_at _ _ _ 2 (by omega), hk9]; congr 2)
     have o3 : wr.cell? ⟨g, c * 5 + 3, none⟩ = some (.bool (flB kk)) := (RW.cell (i := c * 5 + 3) (by omega)).trans (by rw [HR.out.2.1 _ (by omega), bkC_at _ _ _ 3 (by omega), bkX_3, hk9])
     have o4 : wr.cell? ⟨g, c * 5 + 4, none⟩ = some (.slice so (L c) sc) := (RW.cell (i := c * 5 + 4) (by omega)).trans (by rw [HR.out.2.1 _ (by omega), bkC_4, hs])
     obtain ⟨tm, htm⟩ : ∃ tm : Int, ((kk : Int) + 1 + 1 + 1).tmod 3 = tm := ⟨_, rfl⟩
     have hfl : (tm == 0) = flB kk := by rw [← htm]; exact flB_val kk
     generalize flB kk = fl at hfl o3
     have CM := heldNoQ_any (.slice so (L c) sc) (L c) (kk + 4) (HL.out c hlt) (by omega) wr NI
     rw [show ((kk + 4 : Nat) : Int) = (kk : Int) + 1 + 1 + 1 + 1 by omega] at CM
     have HKN : Hid ((kk : Int) + 1 + 1 + 1 + 1 + (L c : Int) = (mkB K L (c + 1) : Int)) := by
       show _ = ((mkB K L c + 4 + L c : Nat) : Int)
       omega
     have hLI : (L c : Int) ≤ 1048576 := by have := HL.out c hlt; omega
     clear NI hs RW hk9
     go_wp2_with fail
     refine CM.mono ?_
     rintro r w1 ⟨rfl, hV⟩
     replace HB := HB.trans (hV.mono HB.size)
     clear CM hV o0 o1 o2 o3 o4
     go_wp2
     go_roundw
     case rel => exact ⟨c + 1, by omega, congrArg (Value.int .i64) HKN.out, by go_num, HB⟩
     case measure => simp [intOf]; omega
   · obtain rfl : c = n := by omega
     go_wp2
     go_ret
     exact ⟨congrArg (fun z : Nat => Ending.returned (.int .i64 (z : Int))) HKK.out.symm, HB⟩
structure QuN (w : World) (iv bv : Value) (n N : Nat) (ci x s : Nat → Value) (L : Nat → Nat) (E : Nat → Nat → Value) : Prop where
 its : RwN w 59 5 iv n ci
 bls : BkN w bv N x s L E
 d : ∀ b, iv.ownBlock = some b → ¬ bkN bv N s b
def quN (iv bv : Value) (N : Nat) (s : Nat → Value) (b : Nat) : Prop := iv.ownBlock = some b ∨ bkN bv N s b
theorem QuN.step {w w' : World} {iv bv : Value} {n N : Nat} {ci x s : Nat → Value} {L : Nat → Nat} {E : Nat → Nat → Value} (h : QuN w iv bv n N ci x s L E) (hB : Below w.heap.size w w') : QuN w' iv bv n N ci x s L E :=
 ⟨h.its.heap (fun b e => hB.block b (h.its.lt e)), h.bls.step hB, h.d⟩
theorem Frm.mono {ok ok' : Nat → Prop} {w w' : World} (h : Frm ok w w') (ho : ∀ b, ok b → ok' b) : Frm ok' w w' := ⟨h.os, h.tape, h.output, h.size, fun b hb hn => h.block b hb (fun e => hn (ho b e))⟩
theorem Frm.andThen {ok : Nat → Prop} {w w1 w2 : World} (h : Frm ok w w1) (k : Frm ok w1 w2) : Frm ok w w2 :=
 ⟨k.os.trans h.os, k.tape.trans h.tape, k.output.trans h.output, Nat.le_trans h.size k.size, fun b hb hn => (k.block b (Nat.lt_of_lt_of_le hb h.size) hn).trans (h.block b hb hn)⟩
theorem Frm.of {ok : Nat → Prop} {w w' : World} (h : Below w.heap.size w w') : Frm ok w w' := ⟨h.os, h.tape, h.output, h.size, fun b hb _ => h.block b hb⟩
set_option maxRecDepth 100000 in
set_option maxHeartbeats 4000000 in
theorem markQu_any (io bo : Option Addr) (ic bc n N : Nat) (m d : Int) (ci x s : Nat → Value) (L : Nat → Nat) (E : Nat → Nat → Value) (hn : n ≤ 1048576) (hN : N ≤ 1048576) (hL : ∀ i, i < N → L i ≤ 1048576) (w : World) (hO : QuN w (.slice io n ic) (.slice bo N bc) n N ci x s L E) : Calls Try.prog 13 #[.agg #[.int .i64 m, .int .i64 d, .slice io n ic, .slice bo N bc], .int .i64 1] w (fun r w' => r = .returned (.int .i64 (mkB (1 + n * 5) L N : Int)) ∧ QuN w' (.slice io n ic) (.slice bo N bc) n N (nuK 1) (bkX (1 + n * 5) L) s L (mqE (1 + n * 5) L) ∧ Frm (quN (.slice io n ic) (.slice bo N bc) N s) w w') := by
 have B0 : Blk (w.alloc (.cells #[.int .i64 m, .int .i64 d, .slice io n ic, .slice bo N bc] 34)) w.heap.size [.int .i64 m, .int .i64 d, .slice io n ic, .slice bo N bc] := Blk.new w [.int .i64 m, .int .i64 d, .slice io n ic, .slice bo N bc] 34 rfl
 have HB : Below w.heap.size w (w.alloc (.cells #[.int .i64 m, .int .i64 d, .slice io n ic, .slice bo N bc] 34)) := (Below.refl _ w).alloc (Nat.le_refl _) _
 have hlt : ∀ b, quN (.slice io n ic) (.slice bo N bc) N s b → b < w.heap.size := fun b hb => by
   rcases hb with h | h | ⟨i, hi, h⟩
   · exact hO.its.lt h
   · exact hO.bls.row.lt h
   · exact (hO.bls.ids i hi).lt h
 have hO1 := hO.step HB
 have hdd := hO.d
 clear hO
 go_enter Try.func13, Try.ntmps13
 go_upto_region 1 with fail
 generalize (w.alloc (.cells #[.int .i64 m, .int .i64 d, .slice io n ic, .slice bo N bc] 34)) = W1 at *
 have C1 := markItQ_any (.slice io n ic) n 1 ci hn (by omega) W1 hO1.its
 have c2 := B0.c 2 rfl
 go_wp2_with fail
 refine C1.mono ?_
 rintro r w1 ⟨rfl, hI, hG⟩
 clear C1 c2
 have hF1 : Frm (quN (.slice io n ic) (.slice bo N bc) N s) W1 w1 := (Frm.refl _ _).grownO hG (fun b e => .inl e)
 have B1 := B0.grown hG (fun e => absurd (hlt _ (.inl e.symm)) (by omega))
 have hBl : BkN w1 (.slice bo N bc) N x s L E := hO1.bls.frm ((Frm.refl (fun b => (Value.slice io n ic).ownBlock = some b) _).grownO hG (fun b e => e)) (fun b hb e => hdd b e hb)
 have C2 := markBlQ_any (.slice bo N bc) N (1 + n * 5) x s L E hN hL (by omega) w1 hBl
 have c3 := B1.c 3 rfl
 obtain ⟨k1, hk1⟩ : ∃ k1, 1 + n * 5 = k1 := ⟨_, rfl⟩
 have HK1 : Hid (1 + n * 5 = k1) := hk1
 rw [hk1] at C2 ⊢
 clear hG hO1 hBl B0 hk1
 go_wp2_with fail
 refine C2.mono ?_
 rintro r w2 ⟨rfl, hBl, hF2⟩
 have hF := hF1.andThen (hF2.mono (fun b e => .inr e))
 have hI2 := hI.heap (w' := w2) (fun b e => hF2.block b (hI.lt e) (hdd b e))
 have hFF : Frm (quN (.slice io n ic) (.slice bo N bc) N s) w w2 := (Frm.of HB).andThen hF
 obtain ⟨kz, hkz⟩ : ∃ kz, mkB k1 L N = kz := ⟨_, rfl⟩
 have HKZ : Hid (mkB k1 L N = kz) := hkz
 rw [hkz]
 clear hkz
 clear C2 c3 hF1 hF2 hF hI B1
 go_wp2
 go_ret
 exact ⟨by show Ending.returned (.int .i64 (kz : Int)) = _; rw [HK1.out, HKZ.out], ⟨hI2, by rw [HK1.out]; exact hBl, hdd⟩, hFF⟩
set_option maxRecDepth 100000 in
set_option maxHeartbeats 4000000 in
theorem heldQu_any (io bo : Option Addr) (ic bc n N : Nat) (m d : Int) (s : Nat → Value) (L : Nat → Nat) (hn : n ≤ 1048576) (hN : N ≤ 1048576) (hL : ∀ i, i < N → L i ≤ 1048576) (w : World) (hO : QuN w (.slice io n ic) (.slice bo N bc) n N (nuK 1) (bkX (1 + n * 5) L) s L (mqE (1 + n * 5) L)) : Calls Try.prog 14 #[.agg #[.int .i64 m, .int .i64 d, .slice io n ic, .slice bo N bc], .int .i64 1] w (VP (.int .i64 (mkB (1 + n * 5) L N : Int)) w) := by
 have B0 : Blk (w.alloc (.cells #[.int .i64 m, .int .i64 d, .slice io n ic, .slice bo N bc] 34)) w.heap.size [.int .i64 m, .int .i64 d, .slice io n ic, .slice bo N bc] := Blk.new w [.int .i64 m, .int .i64 d, .slice io n ic, .slice bo N bc] 34 rfl
 have HB : Below w.heap.size w (w.alloc (.cells #[.int .i64 m, .int .i64 d, .slice io n ic, .slice bo N bc] 34)) := (Below.refl _ w).alloc (Nat.le_refl _) _
 have hO1 := hO.step HB
 clear hO
 go_enter Try.func14, Try.ntmps14
 go_upto_region 1 with fail
 generalize (w.alloc (.cells #[.int .i64 m, .int .i64 d, .slice io n ic, .slice bo N bc] 34)) = W1 at *
 have C1 := heldItQ_any (.slice io n ic) n 1 hn (by omega) W1 hO1.its
 have c2 := B0.c 2 rfl
 go_wp2_with fail
 refine C1.mono ?_
 rintro r w1 ⟨rfl, hB1⟩
 clear C1 c2
 replace B0 := B0.step hB1
 replace HB := HB.trans (hB1.mono HB.size)
 have C2 := heldBlQ_any (.slice bo N bc) N (1 + n * 5) s L hN hL (by omega) w1 (hO1.bls.step hB1)
 have c3 := B0.c 3 rfl
 obtain ⟨k1, hk1⟩ : ∃ k1, 1 + n * 5 = k1 := ⟨_, rfl⟩
 have HK1 : Hid (1 + n * 5 = k1) := hk1
 rw [hk1] at C2 ⊢
 clear hB1 hO1 hk1
 go_wp2_with fail
 refine C2.mono ?_
 rintro r w2 ⟨rfl, hB2⟩
 replace HB := HB.trans (hB2.mono HB.size)
 obtain ⟨kz, hkz⟩ : ∃ kz, mkB k1 L N = kz := ⟨_, rfl⟩
 have HKZ : Hid (mkB k1 L N = kz) := hkz
 rw [hkz]
 clear hkz
 clear C2 c3 hB2 B0
 go_wp2
 go_ret
 exact ⟨by show Ending.returned (.int .i64 (kz : Int)) = _; rw [HK1.out, HKZ.out], HB⟩
set_option maxRecDepth 100000 in
set_option maxHeartbeats 2000000 in
theorem eqQuad_any (Q : QD) (m d : Int) (ao bo co do_ : Option Addr) (ca cb cc cd A off D od : Nat) (so ro : Nat → Option Addr × Nat) (hm : Q.m ≤ 1048576) (hN : Q.N ≤ 1048576) (hL : ∀ i, i < Q.N → Q.L i ≤ 1048576) (w : World) (hbo : 0 < Q.N → bo = some ⟨A, off, none⟩) (hdo : 0 < Q.N → do_ = some ⟨D, od, none⟩) (hI : ItIn Q w ao (List.range Q.m)) (hJ : ItIn Q w co (List.range Q.m)) (hA : BlIn Q w A off so) (hC : BlIn Q w D od ro) : Calls Try.prog 12 #[.agg #[.int .i64 m, .int .i64 d, .slice ao Q.m ca, .slice bo Q.N cb], .agg #[.int .i64 m, .int .i64 d, .slice co Q.m cc, .slice do_ Q.N cd]] w (VP (.bool true) w) := by
 have B0 := (Blk.new w [.int .i64 m, .int .i64 d, .slice ao Q.m ca, .slice bo Q.N cb] 34 rfl).alloc (.cells #[.int .i64 m, .int .i64 d, .slice co Q.m cc, .slice do_ Q.N cd] 34)
 have B1 := Blk.new (w.alloc (.cells #[.int .i64 m, .int .i64 d, .slice ao Q.m ca, .slice bo Q.N cb] 34)) [.int .i64 m, .int .i64 d, .slice co Q.m cc, .slice do_ Q.N cd] 34 (g := w.heap.size + 1) (by simp)
 have HB := ((Below.refl _ w).alloc (Nat.le_refl _) (.cells #[.int .i64 m, .int .i64 d, .slice ao Q.m ca, .slice bo Q.N cb] 34)).alloc (by simp) (.cells #[.int .i64 m, .int .i64 d, .slice co Q.m cc, .slice do_ Q.N cd] 34)
 have HI : Hid (ItIn Q w ao (List.range Q.m)) := hI
 have HJ : Hid (ItIn Q w co (List.range Q.m)) := hJ
 have HA : Hid (BlIn Q w A off so) := hA
 have HC : Hid (BlIn Q w D od ro) := hC
 have E1 := fun w h h' => eqItemS_any Q ao co ca cc hm w h h'
 have E2 := fun w h h' => eqBlockS_any Q bo do_ cb cd A off D od so ro hN hL w hbo hdo h h'
 clear hI hJ hA hC
 go_enter Try.func12, Try.ntmps12
 go_upto_region 1 with fail
 generalize ((w.alloc (.cells #[.int .i64 m, .int .i64 d, .slice ao Q.m ca, .slice bo Q.N cb] 34)).alloc (.cells #[.int .i64 m, .int .i64 d, .slice co Q.m cc, .slice do_ Q.N cd] 34)) = W1 at *
 have p0 := B0.c 0 rfl; have p1 := B0.c 1 rfl; have p2 := B0.c 2 rfl
 have q0 := B1.c 0 rfl; have q1 := B1.c 1 rfl; have q2 := B1.c 2 rfl
 go_wp2_with fail
 refine (E1 _ (HI.out.step HB) (HJ.out.step HB)).mono ?_
 rintro r w1 ⟨rfl, hB⟩
 replace B0 := B0.step hB; replace B1 := B1.step hB
 have HB2 := HB.trans (hB.mono HB.size)
 clear hB HB p0 p1 p2 q0 q1 q2 E1
 have p3 := B0.c 3 rfl; have q3 := B1.c 3 rfl
 go_wp2_with fail
 refine (E2 _ (HA.out.below HB2) (HC.out.below HB2)).mono ?_
 rintro r w2 ⟨rfl, hB⟩
 have HB3 := HB2.trans (hB.mono HB2.size)
 clear hB HB2 p3 q3 E2
 go_wp2
 go_ret
 exact ⟨rfl, HB3⟩
theorem szIdQ_any (ao : Option Addr) (m cap : Nat) (l : Int) (h0 : 0 ≤ l) (h1 : l ≤ 1048576) (hm : m ≤ 9223372036854775807) (w : World) : Calls Try.prog 93 #[.slice ao m cap, .int .i64 l] w (VP (.int .i64 (if (m : Int) ≤ l then l - m else -1)) w) := by
 have hmI : (m : Int) ≤ 9223372036854775807 := by omega
 by_cases h : (m : Int) ≤ l
 · rw [if_pos h]
   go_enter Try.func93, Try.ntmps93
   go_wp2
   go_ret
   exact ⟨rfl, Below.refl _ _⟩
 · rw [if_neg h]
   have h' : l < (m : Int) := by omega
   go_enter Try.func93, Try.ntmps93
   go_wp2
   go_ret
   exact ⟨rfl, Below.refl _ _⟩
theorem szItQ_any (ao : Option Addr) (m cap : Nat) (l : Int) (h0 : 0 ≤ l) (h1 : l ≤ 1048576) (hm : m ≤ 9223372036854775807) (w : World) : Calls Try.prog 24 #[.slice ao m cap, .int .i64 l] w (VP (.int .i64 (if (m : Int) ≤ l then l - m else -1)) w) := by
 have hmI : (m : Int) ≤ 9223372036854775807 := by omega
 by_cases h : (m : Int) ≤ l
 · rw [if_pos h]
   go_enter Try.func24, Try.ntmps24
   go_wp2
   go_ret
   exact ⟨rfl, Below.refl _ _⟩
 · rw [if_neg h]
   have h' : l < (m : Int) := by omega
   go_enter Try.func24, Try.ntmps24
   go_wp2
   go_ret
   exact ⟨rfl, Below.refl _ _⟩
theorem szBlockQ_any (ao : Option Addr) (m cap : Nat) (x y z : Int) (t : Bool) (l : Int) (h0 : 0 ≤ l) (h1 : l ≤ 1048576) (hm : m ≤ 9223372036854775807) (w : World) : Calls Try.prog 56 #[.agg #[.int .i64 x, .int .i64 y, .int .i64 z, .bool t, .slice ao m cap], .int .i64 l] w (VP (.int .i64 (if (m : Int) ≤ l then l - m else -1)) w) := by
 have HB : Below w.heap.size w (w.alloc (.cells #[.int .i64 x, .int .i64 y, .int .i64 z, .bool t, .slice ao m cap] 104)) := (Below.refl _ w).alloc (Nat.le_refl _) _
 have B0 := Blk.new w [.int .i64 x, .int .i64 y, .int .i64 z, .bool t, .slice ao m cap] 104 rfl
 have SP := szIdQ_any ao m cap l h0 h1 hm
 go_enter Try.func56, Try.ntmps56
 have b0 := B0.c 4 rfl
 by_cases h : (m : Int) ≤ l
 · rw [if_pos h] at SP ⊢
   go_wp2_with fail
   refine (SP _).mono ?_
   rintro e w1 ⟨rfl, hB⟩
   replace HB := HB.trans (hB.mono HB.size)
   clear hB SP B0 b0
   have h2 : 0 ≤ l - (m : Int) := by omega
   go_wp2
   go_ret
   exact ⟨rfl, HB⟩
 · rw [if_neg h] at SP ⊢
   go_wp2_with fail
   refine (SP _).mono ?_
   rintro e w1 ⟨rfl, hB⟩
   replace HB := HB.trans (hB.mono HB.size)
   clear hB SP B0 b0
   go_wp2
   go_ret
   exact ⟨rfl, HB⟩
def SzQ (n : Nat) (L : Nat → Nat) (w : World) (e : Ending) (w' : World) : Prop := ∃ z : Int, e = .returned (.int .i64 z) ∧ -1 ≤ z ∧ z ≤ 1048576 ∧ (0 ≤ z → n ≤ 1048576 ∧ ∀ i, i < n → L i ≤ 1048576) ∧ Below w.heap.size w w'
set_option maxRecDepth 100000 in
set_option maxHeartbeats 2000000 in
theorem szBlockS_any (Q : QD) (bo : Option Addr) (cap A off : Nat) (so : Nat → Option Addr × Nat) (l0 : Int) (k0 : 0 ≤ l0) (k1 : l0 ≤ 1048576) (hN : Q.N ≤ 9223372036854775807) (hL : ∀ i, i < Q.N → Q.L i ≤ 9223372036854775807) (hbo : 0 < Q.N → bo = some ⟨A, off, none⟩) (w : World) (hBl : BlIn Q w A off so) : Calls Try.prog 25 #[.slice bo Q.N cap, .int .i64 l0] w (SzQ Q.N Q.L w) := by
 obtain ⟨n, hn⟩ : ∃ n, Q.N = n := ⟨_, rfl⟩
 have HN : Hid (Q.N = n) := hn
 have HL : Hid (∀ i, i < n → Q.L i ≤ 9223372036854775807) := by rw [← hn]; exact hL
 have HBO : Hid (0 < n → bo = some ⟨A, off, none⟩) := by rw [← hn]; exact hbo
 have HBL : Hid (BlIn Q w A off so) := hBl
 have hnI : (n : Int) ≤ 9223372036854775807 := by omega
 rw [hn]
 clear hn hL hbo hBl hN
 by_cases h : (n : Int) ≤ l0
 · go_enter Try.func25, Try.ntmps25
   have h9 : ¬ (l0 - (n : Int) < 0) := by omega
   go_wp2_with fail
   go_loopw [1, 5] (fun s i wr => ∃ (c : Nat) (l : Int), c ≤ n ∧ i = .int .i64 c ∧ s = .int .i64 l ∧ 0 ≤ l ∧ l ≤ 1048576 ∧ (∀ j, j < c → Q.L j ≤ 1048576) ∧ Below w.heap.size w wr) (fun _ i _ => n - (intOf i).toNat)
   case atStart => exact ⟨0, _, by omega, rfl, rfl, by omega, by omega, fun j hj => by omega, Below.refl _ _⟩
   case round =>
     obtain ⟨c, l, hc, rfl, rfl, l0, l1, hall, HB⟩ := hrel
     have HA : Hid (∀ j, j < c → Q.L j ≤ 1048576) := hall
     clear hall
     by_cases hcn : c < n
     · obtain rfl := HBO.out (by omega)
       obtain ⟨hA, q0, q1, q2, q3, q4, -⟩ := HBL.out.below HB c (by rw [HN.out]; exact hcn)
       have hcI : (c : Int) < n := by omega
       have SL := szBlockQ_any (so c).1 (Q.L c) (so c).2 (Q.X c) (Q.Y c) (Q.Z c) (Q.T c) l l0 l1 (HL.out c hcn)
       go_wp2_with fail
       refine (SL _).mono ?_
       rintro e w1 ⟨rfl, hB⟩
       replace HB := HB.trans (hB.mono HB.size)
       clear hB SL q0 q1 q2 q3 q4 hA
       by_cases hl : (Q.L c : Int) ≤ l
       · rw [if_pos hl]
         have hl2 : 0 ≤ l - (Q.L c : Int) := by omega
         go_wp2
         go_roundw
         case rel => exact ⟨c + 1, _, by omega, by go_num, rfl, by omega, by omega, fun j hj => by
           rcases Nat.lt_or_ge j c with h | h
           · exact HA.out j h
           · obtain rfl : j = c := by omega
             omega, HB⟩
         case measure => simp [intOf]; omega
       · rw [if_neg hl]
         go_wp2
         go_ret
         exact ⟨-1, rfl, by omega, by omega, fun h => by omega, HB⟩
     · obtain rfl : c = n := by omega
       clear HBL HL
       go_wp2
       go_ret
       exact ⟨l, rfl, by omega, l1, fun _ => ⟨by omega, HA.out⟩, HB⟩
 · have h' : l0 < (n : Int) := by omega
   clear HBL HL
   go_enter Try.func25, Try.ntmps25
   go_wp2
   go_ret
   exact ⟨-1, rfl, by omega, by omega, fun h => by omega, Below.refl _ _⟩
def SzQu (Q : QD) (w : World) (e : Ending) (w' : World) : Prop := ∃ z : Int, e = .returned (.int .i64 z) ∧ -1 ≤ z ∧ (0 ≤ z → Q.m ≤ 1048576 ∧ Q.N ≤ 1048576 ∧ ∀ i, i < Q.N → Q.L i ≤ 1048576) ∧ Below w.heap.size w w'
set_option maxRecDepth 100000 in
set_option maxHeartbeats 2000000 in
theorem szQuad_any (Q : QD) (ao bo : Option Addr) (cap bcap A off : Nat) (so : Nat → Option Addr × Nat) (m d : Int) (hm : Q.m ≤ 9223372036854775807) (hN : Q.N ≤ 9223372036854775807) (hL : ∀ i, i < Q.N → Q.L i ≤ 9223372036854775807) (hbo : 0 < Q.N → bo = some ⟨A, off, none⟩) (w : World) (hBl : BlIn Q w A off so) : Calls Try.prog 7 #[.agg #[.int .i64 m, .int .i64 d, .slice ao Q.m cap, .slice bo Q.N bcap], .int .i64 1048576] w (SzQu Q w) := by
 have B0 := Blk.new w [.int .i64 m, .int .i64 d, .slice ao Q.m cap, .slice bo Q.N bcap] 25 rfl
 have HB : Below w.heap.size w (w.alloc (.cells #[.int .i64 m, .int .i64 d, .slice ao Q.m cap, .slice bo Q.N bcap] 25)) := (Below.refl _ w).alloc (Nat.le_refl _) _
 have S1 := fun w => szItQ_any ao Q.m cap 1048576 (by omega) (by omega) hm w
 have HBL : Hid (BlIn Q w A off so) := hBl
 clear hBl
 go_enter Try.func7, Try.ntmps7
 go_upto_region 1 with fail
 generalize (w.alloc (.cells #[.int .i64 m, .int .i64 d, .slice ao Q.m cap, .slice bo Q.N bcap] 25)) = W1 at *
 have b2 := B0.c 2 rfl
 by_cases h : (Q.m : Int) ≤ 1048576
 · rw [if_pos h] at S1
   have S2 := fun w h => szBlockS_any Q bo bcap A off so (1048576 - (Q.m : Int)) (by omega) (by omega) hN hL hbo w h
   go_wp2_with fail
   refine (S1 _).mono ?_
   rintro e w1 ⟨rfl, hB⟩
   replace HB := HB.trans (hB.mono HB.size)
   replace B0 := B0.step hB
   clear hB S1 b2
   have b3 := B0.c 3 rfl
   have h2 : 0 ≤ 1048576 - (Q.m : Int) := by omega
   have HM : Hid (Q.m ≤ 1048576) := by show Q.m ≤ 1048576; omega
   go_wp2_with fail
   refine (S2 _ (HBL.out.below HB)).mono ?_
   rintro e w2 ⟨z, rfl, z0, z1, hz, hB⟩
   replace HB := HB.trans (hB.mono HB.size)
   have HZ : Hid (0 ≤ z → Q.N ≤ 1048576 ∧ ∀ i, i < Q.N → Q.L i ≤ 1048576) := hz
   clear hB S2 b3 hz B0
   by_cases hz0 : 0 ≤ z
   · go_wp2
     go_ret
     exact ⟨z, rfl, z0, fun h => ⟨HM.out, HZ.out h⟩, HB⟩
   · have hz' : z < 0 := by omega
     go_wp2
     go_ret
     exact ⟨-1, rfl, by omega, fun h => by omega, HB⟩
 · rw [if_neg h] at S1
   go_wp2_with fail
   refine (S1 _).mono ?_
   rintro e w1 ⟨rfl, hB⟩
   replace HB := HB.trans (hB.mono HB.size)
   clear hB S1 b2 B0
   go_wp2
   go_ret
   exact ⟨-1, rfl, by omega, fun h => by omega, HB⟩
theorem QuRow.items {Q : QD} {w : World} {b gi gb : Nat} {S : Nat → Nat} (h : QuRow Q w b gi gb S) : ItIn Q w (some ⟨gi, 0, none⟩) (List.range Q.m) := itIn_row h.its
def AnD (e c m x a s de dc dm dx da : Nat) : Prop := (e < c ∧ c < m ∧ m < x ∧ x < a ∧ a < s) ∧ da < dm ∧ dm < de ∧ de < dc ∧ dc < dx
def AnS (B0 : Nat) (okn : Bool) (Z : List Value) (XP : Value → World → Prop) (TG : Value → Nat → Nat → World → Prop) (e c m x a s de dc dm dx da : Nat) (lz : Array Bool) (az : Act) (W : World) : Prop :=
 (lz.getD a false = true → ∃ g, az.tmps.getD da undef = .pointer (some ⟨g, 0, none⟩) ∧ B0 ≤ g ∧ g < W.heap.size ∧ (lz.getD s false = false → Blk W g Z)) ∧
 (lz.getD c false = true → lz.getD s false = false → ∃ u lo hi, az.tmps.getD dc undef = .tuple #[u, .bool okn] ∧ TG u lo hi W ∧ B0 ≤ lo ∧ hi ≤ W.heap.size ∧ (lz.getD a false = true → ∀ g, az.tmps.getD da undef = .pointer (some ⟨g, 0, none⟩) → g < lo ∨ hi ≤ g)) ∧
 (lz.getD m false = true → lz.getD c false = true ∧ az.tmps.getD dm undef = az.tmps.getD dc undef) ∧
 (lz.getD x false = true → lz.getD c false = true ∧ ∃ u, az.tmps.getD dc undef = .tuple #[u, .bool okn] ∧ az.tmps.getD dx undef = u) ∧
 (lz.getD s false = true → lz.getD a false = true ∧ lz.getD c false = true ∧ ∃ g vs lo hi, az.tmps.getD da undef = .pointer (some ⟨g, 0, none⟩) ∧ B0 ≤ g ∧ Blk W g vs ∧ TG (.agg vs.toArray) lo hi W ∧ B0 ≤ lo ∧ hi ≤ W.heap.size ∧ (g < lo ∨ hi ≤ g)) ∧
 (lz.getD e false = true → lz.getD s false = false → XP (az.tmps.getD de undef) W)
theorem AnS.start {B0 : Nat} {okn : Bool} {Z : List Value} {XP : Value → World → Prop} {TG : Value → Nat → Nat → World → Prop} {e c m x a s de dc dm dx da n : Nat} {az : Act} {W : World} : AnS B0 okn Z XP TG e c m x a s de dc dm dx da (Array.replicate n false) az W :=
 ⟨fun h => absurd h (by rw [replD]; decide), fun h => absurd h (by rw [replD]; decide), fun h => absurd h (by rw [replD]; decide), fun h => absurd h (by rw [replD]; decide), fun h => absurd h (by rw [replD]; decide), fun h => absurd h (by rw [replD]; decide)⟩
def TgK (XP : Value → World → Prop) (TG : Value → Nat → Nat → World → Prop) : Prop :=
 (∀ v W W2, XP v W → Below W.heap.size W W2 → XP v W2) ∧ ∀ u lo hi W W2, TG u lo hi W → W.heap.size ≤ W2.heap.size → (∀ b, lo ≤ b → b < hi → W2.heap[b]? = W.heap[b]?) → TG u lo hi W2
theorem AnS.step {B0 : Nat} {okn : Bool} {Z : List Value} {XP : Value → World → Prop} {TG : Value → Nat → Nat → World → Prop} {e c m x a s de dc dm dx da : Nat} {lz : Array Bool} {az : Act} {W W2 : World} (hT : TgK XP TG) (h : AnS B0 okn Z XP TG e c m x a s de dc dm dx da lz az W) (hB : Below W.heap.size W W2) : AnS B0 okn Z XP TG e c m x a s de dc dm dx da lz az W2 := by
 obtain ⟨h1, h2, h3, h4, h5, h6⟩ := h
 have hsz := hB.size
 refine ⟨fun hl => ?_, fun hl hs => ?_, h3, h4, fun hl => ?_, fun hl hs => hT.1 _ _ _ (h6 hl hs) hB⟩
 · obtain ⟨g, k1, k2, k3, k4⟩ := h1 hl
   exact ⟨g, k1, k2, by omega, fun hs => (k4 hs).step hB⟩
 · obtain ⟨u, lo, hi, k1, k2, k3, k4, k5⟩ := h2 hl hs
   exact ⟨u, lo, hi, k1, hT.2 _ _ _ _ _ k2 hsz (fun b _ hb => hB.block b (by omega)), k3, by omega, k5⟩
 · obtain ⟨q1, q2, g, vs, lo, hi, k1, k2, k3, k4, k5, k6, k7⟩ := h5 hl
   exact ⟨q1, q2, g, vs, lo, hi, k1, k2, k3.step hB, hT.2 _ _ _ _ _ k4 hsz (fun b _ hb => hB.block b (by omega)), k5, by omega, k7⟩
theorem AnS.quiet {B0 : Nat} {okn : Bool} {Z : List Value} {XP : Value → World → Prop} {TG : Value → Nat → Nat → World → Prop} {e c m x a s de dc dm dx da : Nat} {lz : Array Bool} {az : Act} {W : World} (h : AnS B0 okn Z XP TG e c m x a s de dc dm dx da lz az W) (i d : Nat) (v : Value) (hi : i ≠ e ∧ i ≠ c ∧ i ≠ m ∧ i ≠ x ∧ i ≠ a ∧ i ≠ s) (hd : d ≠ de ∧ d ≠ dc ∧ d ≠ dm ∧ d ≠ dx ∧ d ≠ da) : AnS B0 okn Z XP TG e c m x a s de dc dm dx da (lz.setIfInBounds i true) (az.put (some d) v) W := by
 unfold AnS
 rw [getD_set_neq hi.1, getD_set_neq hi.2.1, getD_set_neq hi.2.2.1, getD_set_neq hi.2.2.2.1, getD_set_neq hi.2.2.2.2.1, getD_set_neq hi.2.2.2.2.2, put_getD_ne hd.1, put_getD_ne hd.2.1, put_getD_ne hd.2.2.1, put_getD_ne hd.2.2.2.1, put_getD_ne hd.2.2.2.2]
 exact h
theorem AnS.ask {B0 : Nat} {okn : Bool} {Z : List Value} {XP : Value → World → Prop} {TG : Value → Nat → Nat → World → Prop} {e c m x a s de dc dm dx da : Nat} {lz : Array Bool} {az : Act} {W : World} (h : AnS B0 okn Z XP TG e c m x a s de dc dm dx da lz az W) (v : Value) (hD : AnD e c m x a s de dc dm dx da) (hz : de < az.tmps.size) (hv : XP v W) : AnS B0 okn Z XP TG e c m x a s de dc dm dx da (lz.setIfInBounds e true) (az.put (some de) v) W := by
 obtain ⟨hne, hde⟩ := hD
 obtain ⟨h1, h2, h3, h4, h5, h6⟩ := h
 unfold AnS
 rw [getD_set_neq (i := e) (j := c) (by omega), getD_set_neq (i := e) (j := m) (by omega), getD_set_neq (i := e) (j := x) (by omega), getD_set_neq (i := e) (j := a) (by omega), getD_set_neq (i := e) (j := s) (by omega), put_getD_ne (d := de) (e := dc) (by omega), put_getD_ne (d := de) (e := dm) (by omega), put_getD_ne (d := de) (e := dx) (by omega), put_getD_ne (d := de) (e := da) (by omega), put_getD_same hz]
 exact ⟨h1, h2, h3, h4, h5, fun _ _ => hv⟩
theorem AnS.call {B0 : Nat} {okn : Bool} {Z : List Value} {XP : Value → World → Prop} {TG : Value → Nat → Nat → World → Prop} {e c m x a s de dc dm dx da : Nat} {lz : Array Bool} {az : Act} {W W2 : World} (hT : TgK XP TG) (h : AnS B0 okn Z XP TG e c m x a s de dc dm dx da lz az W) (hD : AnD e c m x a s de dc dm dx da) (hz : dc < az.tmps.size) (hl : lz.getD c true = false) (hB : Below W.heap.size W W2) {u : Value} {lo hi : Nat} (hu : TG u lo hi W2) (hlo : W.heap.size ≤ lo) (hhi : hi ≤ W2.heap.size) (hB0 : B0 ≤ W.heap.size) : AnS B0 okn Z XP TG e c m x a s de dc dm dx da (lz.setIfInBounds c true) (az.put (some dc) (.tuple #[u, .bool okn])) W2 := by
 obtain ⟨hne, hde⟩ := hD
 have hlc : lz.getD c false = false := by
   rcases Nat.lt_or_ge c lz.size with h' | h'
   · simpa [Array.getD, h'] using hl
   · simp [Array.getD, Nat.not_lt.2 h'] at hl
 obtain ⟨h1, h2, h3, h4, h5, h6⟩ := h.step hT hB
 have h1o := h.1
 unfold AnS
 rw [getD_set_neq (i := c) (j := e) (by omega), getD_set_neq (i := c) (j := m) (by omega), getD_set_neq (i := c) (j := x) (by omega), getD_set_neq (i := c) (j := a) (by omega), getD_set_neq (i := c) (j := s) (by omega), put_getD_ne (d := dc) (e := de) (by omega), put_getD_ne (d := dc) (e := dm) (by omega), put_getD_ne (d := dc) (e := dx) (by omega), put_getD_ne (d := dc) (e := da) (by omega), put_getD_same hz]
 refine ⟨h1, fun _ _ => ⟨u, lo, hi, rfl, hu, by omega, hhi, fun ha g hg => ?_⟩, fun hm => ?_, fun hx => ?_, fun hs => ?_, h6⟩
 · obtain ⟨g2, k1, _, k3, _⟩ := h1o ha
   rw [k1] at hg
   cases hg
   exact .inl (by omega)
 · have := (h3 hm).1; rw [hlc] at this; cases this
 · have := (h4 hx).1; rw [hlc] at this; cases this
 · have := (h5 hs).2.1; rw [hlc] at this; cases this
theorem AnS.move {B0 : Nat} {okn : Bool} {Z : List Value} {XP : Value → World → Prop} {TG : Value → Nat → Nat → World → Prop} {e c m x a s de dc dm dx da : Nat} {lz : Array Bool} {az : Act} {W : World} (h : AnS B0 okn Z XP TG e c m x a s de dc dm dx da lz az W) (hD : AnD e c m x a s de dc dm dx da) (hz : dm < az.tmps.size) (hc : lz.getD c false = true) {v : Value} (hv : v = az.tmps.getD dc undef) : AnS B0 okn Z XP TG e c m x a s de dc dm dx da (lz.setIfInBounds m true) (az.put (some dm) v) W := by
 obtain ⟨hne, hde⟩ := hD
 obtain ⟨h1, h2, h3, h4, h5, h6⟩ := h
 unfold AnS
 rw [getD_set_neq (i := m) (j := e) (by omega), getD_set_neq (i := m) (j := c) (by omega), getD_set_neq (i := m) (j := x) (by omega), getD_set_neq (i := m) (j := a) (by omega), getD_set_neq (i := m) (j := s) (by omega), put_getD_ne (d := dm) (e := de) (by omega), put_getD_ne (d := dm) (e := dc) (by omega), put_getD_ne (d := dm) (e := dx) (by omega), put_getD_ne (d := dm) (e := da) (by omega), put_getD_same hz]
 exact ⟨h1, h2, fun _ => ⟨hc, hv⟩, h4, h5, h6⟩
theorem AnS.take {B0 : Nat} {okn : Bool} {Z : List Value} {XP : Value → World → Prop} {TG : Value → Nat → Nat → World → Prop} {e c m x a s de dc dm dx da : Nat} {lz : Array Bool} {az : Act} {W : World} (h : AnS B0 okn Z XP TG e c m x a s de dc dm dx da lz az W) (hD : AnD e c m x a s de dc dm dx da) (hz : dx < az.tmps.size) (hm : lz.getD m false = true) {v : Value} (hv : az.tmps.getD dm undef = .tuple #[v, .bool okn]) : AnS B0 okn Z XP TG e c m x a s de dc dm dx da (lz.setIfInBounds x true) (az.put (some dx) v) W := by
 obtain ⟨hne, hde⟩ := hD
 obtain ⟨h1, h2, h3, h4, h5, h6⟩ := h
 have hcm := h3 hm
 unfold AnS
 rw [getD_set_neq (i := x) (j := e) (by omega), getD_set_neq (i := x) (j := c) (by omega), getD_set_neq (i := x) (j := m) (by omega), getD_set_neq (i := x) (j := a) (by omega), getD_set_neq (i := x) (j := s) (by omega), put_getD_ne (d := dx) (e := de) (by omega), put_getD_ne (d := dx) (e := dc) (by omega), put_getD_ne (d := dx) (e := dm) (by omega), put_getD_ne (d := dx) (e := da) (by omega), put_getD_same hz]
 exact ⟨h1, h2, h3, fun _ => ⟨hcm.1, v, hcm.2.symm.trans hv, rfl⟩, h5, h6⟩
theorem AnS.lay {B0 : Nat} {okn : Bool} {Z : List Value} {XP : Value → World → Prop} {TG : Value → Nat → Nat → World → Prop} {e c m x a s de dc dm dx da : Nat} {lz : Array Bool} {az : Act} {W : World} (hT : TgK XP TG) (h : AnS B0 okn Z XP TG e c m x a s de dc dm dx da lz az W) (hD : AnD e c m x a s de dc dm dx da) (hz : da < az.tmps.size) (hl : lz.getD a true = false) (hB0 : B0 ≤ W.heap.size) (T : TypeId) : AnS B0 okn Z XP TG e c m x a s de dc dm dx da (lz.setIfInBounds a true) (az.put (some da) (.pointer (some ⟨W.heap.size, 0, none⟩))) (W.alloc (.cells Z.toArray T)) := by
 obtain ⟨hne, hde⟩ := hD
 have hla : lz.getD a false = false := by
   rcases Nat.lt_or_ge a lz.size with h' | h'
   · simpa [Array.getD, h'] using hl
   · simp [Array.getD, Nat.not_lt.2 h'] at hl
 have h2o := h.2.1
 obtain ⟨h1, h2, h3, h4, h5, h6⟩ := h.step hT ((Below.refl _ W).alloc (Nat.le_refl _) (.cells Z.toArray T))
 unfold AnS
 rw [getD_set_neq (i := a) (j := e) (by omega), getD_set_neq (i := a) (j := c) (by omega), getD_set_neq (i := a) (j := m) (by omega), getD_set_neq (i := a) (j := x) (by omega), getD_set_neq (i := a) (j := s) (by omega), put_getD_ne (d := da) (e := de) (by omega), put_getD_ne (d := da) (e := dc) (by omega), put_getD_ne (d := da) (e := dm) (by omega), put_getD_ne (d := da) (e := dx) (by omega), put_getD_same hz]
 refine ⟨fun _ => ⟨W.heap.size, rfl, hB0, by simp, fun _ => Blk.new W Z T rfl⟩, fun hc hs => ?_, h3, h4, fun hs => ?_, h6⟩
 · obtain ⟨u, lo, hi, k1, k2, k3, k4, _⟩ := h2o hc hs
   refine ⟨u, lo, hi, k1, hT.2 _ _ _ _ _ k2 (by simp) (fun b _ hb => ((Below.refl W.heap.size W).alloc (Nat.le_refl _) (.cells Z.toArray T)).block b (by omega)), k3, by simp; omega, fun _ g hg => ?_⟩
   cases hg
   exact .inr k4
 · have := (h5 hs).1; rw [hla] at this; cases this
theorem AnS.store {B0 : Nat} {okn : Bool} {Z : List Value} {XP : Value → World → Prop} {TG : Value → Nat → Nat → World → Prop} {e c m x a s de dc dm dx da : Nat} {lz : Array Bool} {az : Act} {W W2 : World} (hT : TgK XP TG) (h : AnS B0 okn Z XP TG e c m x a s de dc dm dx da lz az W) (hD : AnD e c m x a s de dc dm dx da) (hl : lz.getD s true = false) (ha : lz.getD a false = true) (hx : lz.getD x false = true) {g : Nat} {vs : List Value} (hg : az.tmps.getD da undef = .pointer (some ⟨g, 0, none⟩)) (hv : az.tmps.getD dx undef = .agg vs.toArray) (hs : W2.heap.size = W.heap.size) (hne : ∀ b, b ≠ g → W2.heap[b]? = W.heap[b]?) (hb : Blk W2 g vs) : AnS B0 okn Z XP TG e c m x a s de dc dm dx da (lz.setIfInBounds s true) az W2 := by
 obtain ⟨hnd, hde⟩ := hD
 have hls : lz.getD s false = false := by
   rcases Nat.lt_or_ge s lz.size with h' | h'
   · simpa [Array.getD, h'] using hl
   · simp [Array.getD, Nat.not_lt.2 h'] at hl
 obtain ⟨h1, h2, h3, h4, h5, h6⟩ := h
 obtain ⟨hc, u, e1, e2⟩ := h4 hx
 obtain ⟨u', lo, hi, k1, k2, k3, k4, k5⟩ := h2 hc hls
 rw [e1] at k1
 have e3 : u = u' := by injection k1 with k1; simpa using k1
 subst e3
 rw [← e2, hv] at k2
 obtain ⟨g2, p1, p2, p3, _⟩ := h1 ha
 rw [hg] at p1
 cases p1
 have hsep := k5 ha g hg
 unfold AnS
 rw [getD_set_neq (i := s) (j := e) (by omega), getD_set_neq (i := s) (j := c) (by omega), getD_set_neq (i := s) (j := m) (by omega), getD_set_neq (i := s) (j := x) (by omega), getD_set_neq (i := s) (j := a) (by omega), getD_set_eq hl]
 refine ⟨fun _ => ⟨g, hg, p2, by omega, fun e => (by cases e)⟩, fun _ e => (by cases e), h3, h4, fun _ => ⟨ha, hc, g, vs, lo, hi, hg, p2, hb, hT.2 _ _ _ _ _ k2 (by omega) (fun b h1 h2 => hne b (by omega)), k3, by omega, hsep⟩, fun _ e => (by cases e)⟩
theorem AnS.open_ {B0 : Nat} {okn : Bool} {Z : List Value} {XP : Value → World → Prop} {TG : Value → Nat → Nat → World → Prop} {e c m x a s de dc dm dx da : Nat} {lz : Array Bool} {az : Act} {W : World} (h : AnS B0 okn Z XP TG e c m x a s de dc dm dx da lz az W) (hl : lz.getD c true = false) : lz.getD s false = false := by
 have hlc : lz.getD c false = false := by
   rcases Nat.lt_or_ge c lz.size with h' | h'
   · simpa [Array.getD, h'] using hl
   · simp [Array.getD, Nat.not_lt.2 h'] at hl
 cases e1 : lz.getD s false with
 | false => rfl
 | true => have := (h.2.2.2.2.1 e1).2.1; rw [hlc] at this; cases this
theorem AnS.asked {B0 : Nat} {okn : Bool} {Z : List Value} {XP : Value → World → Prop} {TG : Value → Nat → Nat → World → Prop} {e c m x a s de dc dm dx da : Nat} {lz : Array Bool} {az : Act} {W : World} (h : AnS B0 okn Z XP TG e c m x a s de dc dm dx da lz az W) (hl : lz.getD c true = false) (he : lz.getD e false = true) : XP (az.tmps.getD de undef) W := h.2.2.2.2.2 he (h.open_ hl)
theorem AnS.laid {B0 : Nat} {okn : Bool} {Z : List Value} {XP : Value → World → Prop} {TG : Value → Nat → Nat → World → Prop} {e c m x a s de dc dm dx da : Nat} {lz : Array Bool} {az : Act} {W : World} (h : AnS B0 okn Z XP TG e c m x a s de dc dm dx da lz az W) (ha : lz.getD a false = true) (hl : lz.getD s true = false) : ∃ g, az.tmps.getD da undef = .pointer (some ⟨g, 0, none⟩) ∧ B0 ≤ g ∧ Blk W g Z := by
 have hls : lz.getD s false = false := by
   rcases Nat.lt_or_ge s lz.size with h' | h'
   · simpa [Array.getD, h'] using hl
   · simp [Array.getD, Nat.not_lt.2 h'] at hl
 obtain ⟨g, k1, k2, _, k4⟩ := h.1 ha
 exact ⟨g, k1, k2, k4 hls⟩
theorem AnS.taken {B0 : Nat} {okn : Bool} {Z : List Value} {XP : Value → World → Prop} {TG : Value → Nat → Nat → World → Prop} {e c m x a s de dc dm dx da : Nat} {lz : Array Bool} {az : Act} {W : World} (h : AnS B0 okn Z XP TG e c m x a s de dc dm dx da lz az W) (hx : lz.getD x false = true) (hl : lz.getD s true = false) : ∃ u lo hi, az.tmps.getD dx undef = u ∧ TG u lo hi W := by
 have hls : lz.getD s false = false := by
   rcases Nat.lt_or_ge s lz.size with h' | h'
   · simpa [Array.getD, h'] using hl
   · simp [Array.getD, Nat.not_lt.2 h'] at hl
 obtain ⟨hc, u, e1, e2⟩ := h.2.2.2.1 hx
 obtain ⟨u', lo, hi, k1, k2, _⟩ := h.2.1 hc hls
 rw [e1] at k1
 have e3 : u = u' := by injection k1 with k1; simpa using k1
 subst e3
 exact ⟨u, lo, hi, e2, k2⟩
theorem AnS.done {B0 : Nat} {okn : Bool} {Z : List Value} {XP : Value → World → Prop} {TG : Value → Nat → Nat → World → Prop} {e c m x a s de dc dm dx da : Nat} {lz : Array Bool} {az : Act} {W : World} (h : AnS B0 okn Z XP TG e c m x a s de dc dm dx da lz az W) (hs : lz.getD s false = true) : ∃ g vs lo hi, az.tmps.getD da undef = .pointer (some ⟨g, 0, none⟩) ∧ B0 ≤ g ∧ Blk W g vs ∧ TG (.agg vs.toArray) lo hi W ∧ B0 ≤ lo ∧ hi ≤ W.heap.size ∧ (g < lo ∨ hi ≤ g) := by
 obtain ⟨_, _, h⟩ := h.2.2.2.2.1 hs
 exact h
def llB (n : Nat) : QT → Prop
 | .leaf l => l.length ≤ n
 | .node K => ∀ k, k < 4 → llB n (K k)
theorem rt_ll {Q : QD} : ∀ {t : QT} {x y s : Int}, rtT Q t x y s = true → llB Q.m t
 | .leaf l, x, y, s, h => by
   have h := of_decide_eq_true h
   show l.length ≤ Q.m
   rw [h]
   exact canL_len Q x y s
 | .node K, x, y, s, h => fun k hk => rt_ll (t := K k) (List.all_eq_true.1 h k (List.mem_range.2 hk))
theorem ll_mono {n n' : Nat} (hn : n ≤ n') : ∀ {t : QT}, llB n t → llB n' t
 | .leaf _, h => Nat.le_trans h hn
 | .node K, h => fun k hk => ll_mono hn (t := K k) (h k hk)
theorem putT_ll {Q : QD} {j : Nat} {mx : Int} : ∀ {t : QT} {D x y s : Int}, llB Q.m t → llB Q.m (putT Q j mx t D x y s)
 | .leaf l, D, x, y, s, h => by
   rw [putLeaf]
   split
   · split
     · exact canL_len Q x y s
     · exact fun k _ => canL_len Q _ _ _
   · exact h
 | .node K, D, x, y, s, h => by
   cases hh : hitQ Q x y s j with
   | false => rw [putT_miss hh]; exact h
   | true => rw [putT_hit hh]; exact fun k hk => putT_ll (t := K k) (h k hk)
theorem mem_catW {f : Nat → List WB} {z : WB} : ∀ {n}, z ∈ catW f n → ∃ k, k < n ∧ z ∈ f k
 | 0, h => by simp [catW] at h
 | n + 1, h => by
   rw [catW, List.mem_append] at h
   rcases h with h | h
   · obtain ⟨k, h1, h2⟩ := mem_catW h
     exact ⟨k, by omega, h2⟩
   · exact ⟨n, by omega, h⟩
theorem wrT_ll {n : Nat} : ∀ {t : QT} {x y s : Int}, llB n t → ∀ q ∈ wrT t x y s, q.l.length ≤ n
 | .leaf l, x, y, s, h, q, hq => by
   simp only [wrT, List.mem_singleton] at hq
   subst hq
   exact h
 | .node K, x, y, s, h, q, hq => by
   simp only [wrT, List.mem_cons] at hq
   rcases hq with hq | hq
   · subst hq; exact Nat.zero_le _
   · obtain ⟨k, hk, hq⟩ := mem_catW hq
     exact wrT_ll (t := K k) (h k hk) q hq
theorem putL_ll {Q : QD} {m d id : Int} {sg : Int × Int × Int × Int} {j : Nat} (h : qOk Q m d = true) : ∀ q ∈ putL Q m d id sg j, q.l.length ≤ 41 := by
 obtain ⟨_, _, h3, h4⟩ := qOk_all h
 have h40 : Q.m ≤ 40 := (of_decide_eq_true h3).1
 intro q hq
 have h5 := wrT_ll (n := Q.m + 1) (putT_ll (Q := insQ Q j id sg) (ll_mono (Nat.le_succ _) (rt_ll h4))) q hq
 omega
def qdOf (Q : QD) (L : List WB) : QD := { m := Q.m, N := L.length, I := Q.I, S := Q.S, X := fun i => (L.getD i ⟨0, 0, 0, false, []⟩).x, Y := fun i => (L.getD i ⟨0, 0, 0, false, []⟩).y, Z := fun i => (L.getD i ⟨0, 0, 0, false, []⟩).s, T := fun i => (L.getD i ⟨0, 0, 0, false, []⟩).sp, L := fun i => (L.getD i ⟨0, 0, 0, false, []⟩).l.length, E := fun i j => (L.getD i ⟨0, 0, 0, false, []⟩).l.getD j 0 }
theorem wbCs_at {ok : Nat → Prop} {w : World} : ∀ {L : List WB} {I : List Value} {i k : Nat}, IvP ok w L I → i < L.length → k < 5 → (wbCs L I)[i * 5 + k]? = (wb5 (L.getD i ⟨0, 0, 0, false, []⟩) (I.getD i undef))[k]?
 | [], _, i, k, _, hi, _ => absurd hi (by simp)
 | q :: L, [], i, k, h, _, _ => h.elim
 | q :: L, iv :: I, 0, k, h, _, hk => by
   show (wb5 q iv ++ wbCs L I)[0 * 5 + k]? = _
   rw [List.getElem?_append_left (by simp [wb5]; omega), Nat.zero_mul, Nat.zero_add]
   rfl
 | q :: L, iv :: I, i + 1, k, h, hi, hk => by
   show (wb5 q iv ++ wbCs L I)[(i + 1) * 5 + k]? = _
   rw [List.getElem?_append_right (by simp [wb5]; omega), show (i + 1) * 5 + k - (wb5 q iv).length = i * 5 + k by simp [wb5]; omega, wbCs_at (L := L) (I := I) h.2 (by simpa using hi) hk]
   simp
theorem ivP_at {ok : Nat → Prop} {w : World} : ∀ {L : List WB} {I : List Value} {i : Nat}, IvP ok w L I → i < L.length → IdV ok w (I.getD i undef) (L.getD i ⟨0, 0, 0, false, []⟩).l
 | [], _, i, _, hi => absurd hi (by simp)
 | q :: L, [], i, h, _ => h.elim
 | q :: L, iv :: I, 0, h, _ => h.1
 | q :: L, iv :: I, i + 1, h, hi => by
   have h2 := ivP_at (L := L) (I := I) (i := i) h.2 (by simpa using hi)
   simpa using h2
def soL (I : List Value) (i : Nat) : Option Addr × Nat := match I.getD i undef with
 | .slice ao _ c => (ao, c)
 | _ => (none, 0)
theorem blIn_of {Q : QD} {ok : Nat → Prop} {w : World} {b A cap : Nat} {L : List WB} {I : List Value} (h : w.ownsRow b 55 5 (.slice (some ⟨A, 0, none⟩) L.length cap) L.length (wbCs L I)) (hI : IvP ok w L I) : BlIn (qdOf Q L) w A 0 (soL I) := fun i hi => by
 have hA : A < w.heap.size := (World.ownsRow.lt h A rfl).2
 obtain ⟨ao, c, e1, e2, _, _⟩ := ivP_at hI hi
 have hso : soL I i = (ao, c) := by unfold soL; rw [e1]
 have hc : ∀ k u, k < 5 → (wb5 (L.getD i ⟨0, 0, 0, false, []⟩) (I.getD i undef))[k]? = some u → w.cell? ⟨A, 0 + i * 5 + k, none⟩ = some u := fun k u hk hu => by
   have h1 := h.cells rfl (i * 5 + k) u ((wbCs_at hI hi hk).trans hu)
   rw [Addr.add_lit] at h1
   rw [show 0 + i * 5 + k = 0 + (i * 5 + k) by omega]
   exact h1
 refine ⟨hA, hc 0 _ (by omega) rfl, hc 1 _ (by omega) rfl, hc 2 _ (by omega) rfl, hc 3 _ (by omega) rfl, ?_, ?_⟩
 · have h4 := hc 4 _ (by omega) rfl
   rw [hso]
   rw [e1] at h4
   exact h4
 · rw [hso]
   exact e2
def AnsS (okn : Bool) (Q : QD) (m d id a bb cc dd : Int) (u : Value) (lo hi : Nat) (W : World) : Prop :=
 (okn = false ∧ u = .agg #[.int .i64 0, .int .i64 0, .slice none 0 0, .slice none 0 0]) ∨ (okn = true ∧ ∃ j, plcJ Q id j ∧ (putL Q m d id (a, bb, cc, dd) j).length ≤ 2000 ∧ ∃ io ic A bc I, u = .agg #[.int .i64 m, .int .i64 d, .slice io (Q.m + 1) ic, .slice (some ⟨A, 0, none⟩) (putL Q m d id (a, bb, cc, dd) j).length bc] ∧ W.ownsRow lo 59 5 (.slice io (Q.m + 1) ic) (Q.m + 1) (itCs (insQ Q j id (a, bb, cc, dd)) (List.range (Q.m + 1))) ∧ W.ownsRow lo 55 5 (.slice (some ⟨A, 0, none⟩) (putL Q m d id (a, bb, cc, dd) j).length bc) (putL Q m d id (a, bb, cc, dd) j).length (wbCs (putL Q m d id (a, bb, cc, dd) j) I) ∧ IvP (fun b => lo ≤ b ∧ b < hi) W (putL Q m d id (a, bb, cc, dd) j) I ∧ (∀ b, (Value.slice io (Q.m + 1) ic).ownBlock = some b → b < hi) ∧ A < hi)
def AnsG (okn : Bool) (Q : QD) (m d id a bb cc dd : Int) (u : Value) (lo hi : Nat) (W : World) : Prop :=
 (okn = false ∧ u = .agg #[.int .i64 0, .int .i64 0, .slice none 0 0, .slice none 0 0]) ∨ (okn = true ∧ ∃ j, plcJ Q id j ∧ (putL Q m d id (a, bb, cc, dd) j).length ≤ 2000 ∧ ∃ io ic A bc I, u = .agg #[.int .i64 m, .int .i64 d, .slice io (Q.m + 1) ic, .slice (some ⟨A, 0, none⟩) (putL Q m d id (a, bb, cc, dd) j).length bc] ∧ W.ownsRow lo 59 5 (.slice io (Q.m + 1) ic) (Q.m + 1) (itCs (insQ Q j id (a, bb, cc, dd)) (List.range (Q.m + 1))) ∧ W.ownsRow lo 55 5 (.slice (some ⟨A, 0, none⟩) (putL Q m d id (a, bb, cc, dd) j).length bc) (putL Q m d id (a, bb, cc, dd) j).length (wbCs (putL Q m d id (a, bb, cc, dd) j) I) ∧ IsP (fun b => (lo ≤ b ∧ b < hi) ∧ (Value.slice io (Q.m + 1) ic).ownBlock ≠ some b ∧ A ≠ b) W (putL Q m d id (a, bb, cc, dd) j) I ∧ (∀ b, (Value.slice io (Q.m + 1) ic).ownBlock = some b → b < hi ∧ A ≠ b) ∧ A < hi)
theorem AnsG.s {okn : Bool} {Q : QD} {m d id a bb cc dd : Int} {u : Value} {lo hi : Nat} {W : World} (h : AnsG okn Q m d id a bb cc dd u lo hi W) : AnsS okn Q m d id a bb cc dd u lo hi W := by
 rcases h with h | ⟨h1, j, h2, h3, io, ic, A, bc, I, e, h4, h5, h6, h7, h8⟩
 · exact .inl h
 · exact .inr ⟨h1, j, h2, h3, io, ic, A, bc, I, e, h4, h5, IvP.keep (Nat.le_refl _) (fun _ _ _ => rfl) (fun b hb _ => hb.1) h6.toI, fun b e => (h7 b e).1, h8⟩
theorem AnsS.keep {okn : Bool} {Q : QD} {m d id a bb cc dd : Int} {u : Value} {lo hi : Nat} {W W2 : World} (h : AnsS okn Q m d id a bb cc dd u lo hi W) (hs : W.heap.size ≤ W2.heap.size) (hk : ∀ b, lo ≤ b → b < hi → W2.heap[b]? = W.heap[b]?) : AnsS okn Q m d id a bb cc dd u lo hi W2 := by
 rcases h with h | ⟨h1, j, h2, h3, io, ic, A, bc, I, e, h4, h5, h6, h7, h8⟩
 · exact .inl h
 · exact .inr ⟨h1, j, h2, h3, io, ic, A, bc, I, e, ownQ_heap h4 (fun k e => hk k (World.ownsRow.lt h4 k e).1 (h7 k e)), ownQ_heap h5 (fun k e => by have h9 := (World.ownsRow.lt h5 k e).1; cases e; exact hk _ h9 h8), IvP.keep hs (fun b hb _ => hk b hb.1 hb.2) (fun _ h _ => h) h6, h7, h8⟩
theorem AnsG.keep {okn : Bool} {Q : QD} {m d id a bb cc dd : Int} {u : Value} {lo hi : Nat} {W W2 : World} (h : AnsG okn Q m d id a bb cc dd u lo hi W) (hk : ∀ b, lo ≤ b → b < hi → W2.heap[b]? = W.heap[b]?) : AnsG okn Q m d id a bb cc dd u lo hi W2 := by
 rcases h with h | ⟨h1, j, h2, h3, io, ic, A, bc, I, e, h4, h5, h6, h7, h8⟩
 · exact .inl h
 · exact .inr ⟨h1, j, h2, h3, io, ic, A, bc, I, e, ownQ_heap h4 (fun k e => hk k (World.ownsRow.lt h4 k e).1 (h7 k e).1), ownQ_heap h5 (fun k e => by have h9 := (World.ownsRow.lt h5 k e).1; cases e; exact hk _ h9 h8), IsP.keep (fun b hb _ => hk b hb.1.1 hb.1.2) (fun _ h _ => h) h6, h7, h8⟩
def PutOk (Q : QD) (m d id a bb cc dd : Int) : Prop := putB Q m d id (a, bb, cc, dd) = true ∧ ∃ j, plcJ Q id j ∧ (putL Q m d id (a, bb, cc, dd) j).length ≤ 2000
theorem ans_of_g {okn : Bool} {Q : QD} {m d id a bb cc dd : Int} (hok : okn = true ↔ PutOk Q m d id a bb cc dd) {W W2 : World} {r : Ending} (h : PutG Q m d id a bb cc dd W r W2) : ∃ u, r = .returned (.tuple #[u, .bool okn]) ∧ AnsG okn Q m d id a bb cc dd u W.heap.size W2.heap.size W2 ∧ Below W.heap.size W W2 := by
 obtain ⟨hB, ⟨h1, rfl⟩ | ⟨h1, j, hj, ⟨h2, rfl⟩ | ⟨h2, v, u, I, rfl, h3, h4, h5, h6⟩⟩⟩ := h
 · have : okn = false := Bool.eq_false_iff.2 (fun e => by have := (hok.1 e).1; rw [h1] at this; cases this)
   exact ⟨_, by rw [this], .inl ⟨this, rfl⟩, hB⟩
 · have : okn = false := Bool.eq_false_iff.2 (fun e => by
     obtain ⟨_, j', hj', h3⟩ := hok.1 e
     rw [hj'.one hj] at h3
     omega)
   exact ⟨_, by rw [this], .inl ⟨this, rfl⟩, hB⟩
 · have : okn = true := hok.2 ⟨h1, j, hj, h2⟩
   obtain ⟨io, ic, rfl⟩ := ownQ_slice h3
   obtain ⟨A, bc, rfl, _⟩ := ownQ_form h4 (wrT_pos _ _ _ _)
   refine ⟨_, by rw [this], .inr ⟨this, j, hj, h2, io, ic, A, bc, I, rfl, h3, h4, IsP.keep (fun _ _ _ => rfl) (fun b hb hl => ⟨⟨hb.1, hl⟩, hb.2.1, fun e => hb.2.2 (by rw [e]; rfl)⟩) h5, fun b e => ⟨(World.ownsRow.lt h3 b e).2, fun e2 => h6 b e (by rw [e2]; rfl)⟩, (World.ownsRow.lt h4 A rfl).2⟩, hB⟩
theorem ans_of_s {okn : Bool} {Q : QD} {m d id a bb cc dd : Int} (hok : okn = true ↔ PutOk Q m d id a bb cc dd) {W W2 : World} {r : Ending} (h : PutS Q m d id a bb cc dd W r W2) : ∃ u, r = .returned (.tuple #[u, .bool okn]) ∧ AnsS okn Q m d id a bb cc dd u W.heap.size W2.heap.size W2 ∧ Below W.heap.size W W2 := by
 obtain ⟨hB, ⟨h1, rfl⟩ | ⟨h1, j, hj, ⟨h2, rfl⟩ | ⟨h2, v, u, I, rfl, h3, h4, h5⟩⟩⟩ := h
 · have : okn = false := Bool.eq_false_iff.2 (fun e => by have := (hok.1 e).1; rw [h1] at this; cases this)
   exact ⟨_, by rw [this], .inl ⟨this, rfl⟩, hB⟩
 · have : okn = false := Bool.eq_false_iff.2 (fun e => by
     obtain ⟨_, j', hj', h3⟩ := hok.1 e
     rw [hj'.one hj] at h3
     omega)
   exact ⟨_, by rw [this], .inl ⟨this, rfl⟩, hB⟩
 · have : okn = true := hok.2 ⟨h1, j, hj, h2⟩
   obtain ⟨io, ic, rfl⟩ := ownQ_slice h3
   obtain ⟨A, bc, rfl, _⟩ := ownQ_form h4 (wrT_pos _ _ _ _)
   exact ⟨_, by rw [this], .inr ⟨this, j, hj, h2, io, ic, A, bc, I, rfl, h3, h4, IvP.keep (Nat.le_refl _) (fun _ _ _ => rfl) (fun b hb hl => ⟨hb, hl⟩) h5, fun b e => (World.ownsRow.lt h3 b e).2, (World.ownsRow.lt h4 A rfl).2⟩, hB⟩
theorem AnsS.form {okn : Bool} {Q : QD} {m d id a bb cc dd : Int} {u : Value} {lo hi : Nat} {W : World} (h : AnsS okn Q m d id a bb cc dd u lo hi W) : ∃ m' d' io n ic bo N bc, u = .agg #[.int .i64 m', .int .i64 d', .slice io n ic, .slice bo N bc] := by
 rcases h with ⟨_, h⟩ | ⟨h1, j, h2, h3, io, ic, A, bc, I, e, h4⟩
 · exact ⟨_, _, _, _, _, _, _, _, h⟩
 · exact ⟨_, _, _, _, _, _, _, _, e⟩
theorem qz_it {w : World} : ItIn ⟨0, 0, fun _ => 0, fun _ => (0, 0, 0, 0), fun _ => 0, fun _ => 0, fun _ => 0, fun _ => false, fun _ => 0, fun _ _ => 0⟩ w none (List.range 0) := fun j i hj => by simp at hj
theorem qz_bl {w : World} {A off : Nat} {so : Nat → Option Addr × Nat} : BlIn ⟨0, 0, fun _ => 0, fun _ => (0, 0, 0, 0), fun _ => 0, fun _ => 0, fun _ => 0, fun _ => false, fun _ => 0, fun _ _ => 0⟩ w A off so := fun i hi => absurd hi (Nat.not_lt_zero i)
theorem eqAns_any {okn : Bool} {Q : QD} {m d id a bb cc dd : Int} (hok : okn = true → qOk Q m d = true) {u u2 : Value} {lo hi lo2 hi2 : Nat} (W : World) (h : AnsS okn Q m d id a bb cc dd u lo hi W) (h' : AnsS okn Q m d id a bb cc dd u2 lo2 hi2 W) : Calls Try.prog 12 #[u, u2] W (VP (.bool true) W) := by
 rcases h with ⟨h1, rfl⟩ | ⟨h1, j, h2, h3, io, ic, A, bc, I, rfl, h4, h5, h6, h7, h8⟩
 · rcases h' with ⟨_, rfl⟩ | ⟨k1, _⟩
   · exact eqQuad_any ⟨0, 0, fun _ => 0, fun _ => (0, 0, 0, 0), fun _ => 0, fun _ => 0, fun _ => 0, fun _ => false, fun _ => 0, fun _ _ => 0⟩ 0 0 none none none none 0 0 0 0 0 0 0 0 (fun _ => (none, 0)) (fun _ => (none, 0)) (Nat.zero_le _) (Nat.zero_le _) (fun i hi => absurd hi (Nat.not_lt_zero i)) W (fun h => absurd h (Nat.not_lt_zero 0)) (fun h => absurd h (Nat.not_lt_zero 0)) qz_it qz_it qz_bl qz_bl
   · rw [h1] at k1; cases k1
 · rcases h' with ⟨k1, _⟩ | ⟨k1, j', k2, k3, io', ic', A', bc', I', rfl, k4, k5, k6, k7, k8⟩
   · rw [h1] at k1; cases k1
   · obtain rfl := k2.one h2
     have hm : Q.m ≤ 40 := (of_decide_eq_true (qOk_all (hok h1)).2.2.1).1
     have hit : ∀ {io9 : Option Addr} {ic9 lo9 : Nat}, W.ownsRow lo9 59 5 (.slice io9 (Q.m + 1) ic9) (Q.m + 1) (itCs (insQ Q j' id (a, bb, cc, dd)) (List.range (Q.m + 1))) → ItIn (qdOf (insQ Q j' id (a, bb, cc, dd)) (putL Q m d id (a, bb, cc, dd) j')) W io9 (List.range (Q.m + 1)) := fun h9 => by
       obtain ⟨ao9, cap9, e9, hI9⟩ := ItIn.of (Q := insQ Q j' id (a, bb, cc, dd)) (l := List.range (Q.m + 1)) (by rw [List.length_range]; exact h9)
       rw [List.length_range] at e9
       cases e9
       exact hI9
     have hL : ∀ i, i < (putL Q m d id (a, bb, cc, dd) j').length → ((putL Q m d id (a, bb, cc, dd) j').getD i ⟨0, 0, 0, false, []⟩).l.length ≤ 1048576 := fun i hi => by
       have h9 := putL_ll (id := id) (sg := (a, bb, cc, dd)) (j := j') (hok h1) ((putL Q m d id (a, bb, cc, dd) j').getD i ⟨0, 0, 0, false, []⟩) (by rw [List.getD_eq_getElem?_getD, List.getElem?_eq_getElem hi]; exact List.getElem_mem hi)
       omega
     exact eqQuad_any (qdOf (insQ Q j' id (a, bb, cc, dd)) (putL Q m d id (a, bb, cc, dd) j')) m d io (some ⟨A, 0, none⟩) io' (some ⟨A', 0, none⟩) ic bc ic' bc' A 0 A' 0 (soL I) (soL I') (by show Q.m + 1 ≤ _; omega) (by show (putL Q m d id (a, bb, cc, dd) j').length ≤ _; omega) hL W (fun _ => rfl) (fun _ => rfl) (hit h4) (hit k4) (blIn_of h5 h6) (blIn_of k5 k6)
theorem isP_at {ok : Nat → Prop} {w : World} : ∀ {L : List WB} {I : List Value} {i : Nat}, IsP ok w L I → i < L.length → IdS ok w (I.getD i undef) (L.getD i ⟨0, 0, 0, false, []⟩).l
 | [], _, i, _, hi => absurd hi (by simp)
 | q :: L, [], i, h, _ => h.elim
 | q :: L, iv :: I, 0, h, _ => h.1
 | q :: L, iv :: I, i + 1, h, hi => by
   have h2 := isP_at (L := L) (I := I) (i := i) h.2.2 (by simpa using hi)
   simpa using h2
theorem isP_mem {ok : Nat → Prop} {w : World} : ∀ {L : List WB} {I : List Value} {i : Nat}, IsP ok w L I → i < L.length → I.getD i undef ∈ I
 | [], _, i, _, hi => absurd hi (by simp)
 | q :: L, [], i, h, _ => h.elim
 | q :: L, iv :: I, 0, h, _ => by simp
 | q :: L, iv :: I, i + 1, h, hi => by
   have h2 := isP_mem (L := L) (I := I) (i := i) h.2.2 (by simpa using hi)
   have h3 : (iv :: I).getD (i + 1) undef = I.getD i undef := by simp
   rw [h3]
   exact List.mem_cons_of_mem _ h2
theorem isP_apart {ok : Nat → Prop} {w : World} : ∀ {L : List WB} {I : List Value} {i j : Nat}, IsP ok w L I → i < j → j < L.length → ∀ b, (I.getD i undef).ownBlock = some b → (I.getD j undef).ownBlock ≠ some b
 | [], _, i, j, _, _, hj => absurd hj (by simp)
 | q :: L, [], i, j, h, _, _ => h.elim
 | q :: L, iv :: I, i, 0, h, hij, _ => absurd hij (by omega)
 | q :: L, iv :: I, 0, j + 1, h, _, hj => fun b hb => by
   have h3 : (iv :: I).getD (j + 1) undef = I.getD j undef := by simp
   rw [h3]
   exact h.2.1 b hb _ (isP_mem h.2.2 (by simpa using hj))
 | q :: L, iv :: I, i + 1, j + 1, h, hij, hj => fun b hb => by
   have h3 : (iv :: I).getD (j + 1) undef = I.getD j undef := by simp
   have h4 : (iv :: I).getD (i + 1) undef = I.getD i undef := by simp
   rw [h3]
   rw [h4] at hb
   exact isP_apart (L := L) (I := I) h.2.2 (by omega) (by simpa using hj) b hb
def QuG (u : Value) (lo hi : Nat) (W : World) : Prop := ∃ (m d : Int) (io : Option Addr) (ic n : Nat) (bo : Option Addr) (bc N : Nat) (ci x s : Nat → Value) (L : Nat → Nat) (E : Nat → Nat → Value), u = .agg #[.int .i64 m, .int .i64 d, .slice io n ic, .slice bo N bc] ∧ n ≤ 1048576 ∧ N ≤ 1048576 ∧ (∀ i, i < N → L i ≤ 1048576) ∧ QuN W (.slice io n ic) (.slice bo N bc) n N ci x s L E ∧ ∀ b, quN (.slice io n ic) (.slice bo N bc) N s b → lo ≤ b ∧ b < hi
def MkG (z : Nat) (u : Value) (lo hi : Nat) (W : World) : Prop := ∃ (m d : Int) (io : Option Addr) (ic n : Nat) (bo : Option Addr) (bc N : Nat) (s : Nat → Value) (L : Nat → Nat), u = .agg #[.int .i64 m, .int .i64 d, .slice io n ic, .slice bo N bc] ∧ n ≤ 1048576 ∧ N ≤ 1048576 ∧ (∀ i, i < N → L i ≤ 1048576) ∧ z = mkB (1 + n * 5) L N ∧ QuN W (.slice io n ic) (.slice bo N bc) n N (nuK 1) (bkX (1 + n * 5) L) s L (mqE (1 + n * 5) L) ∧ ∀ b, quN (.slice io n ic) (.slice bo N bc) N s b → lo ≤ b ∧ b < hi
theorem MkG.keep {z : Nat} {u : Value} {lo hi : Nat} {W W2 : World} (h : MkG z u lo hi W) (hk : ∀ b, lo ≤ b → b < hi → W2.heap[b]? = W.heap[b]?) : MkG z u lo hi W2 := by
 obtain ⟨m, d, io, ic, n, bo, bc, N, s, L, e, h1, h2, h3, h4, h5, h6⟩ := h
 exact ⟨m, d, io, ic, n, bo, bc, N, s, L, e, h1, h2, h3, h4, ⟨h5.its.heap (fun b hb => hk b (h6 b (.inl hb)).1 (h6 b (.inl hb)).2), ⟨h5.bls.row.heap (fun b hb => hk b (h6 b (.inr (.inl hb))).1 (h6 b (.inr (.inl hb))).2), fun i hi => (h5.bls.ids i hi).heap (fun b hb => hk b (h6 b (.inr (.inr ⟨i, hi, hb⟩))).1 (h6 b (.inr (.inr ⟨i, hi, hb⟩))).2), h5.bls.d1, h5.bls.d2⟩, h5.d⟩, h6⟩
theorem QuG.keep {u : Value} {lo hi : Nat} {W W2 : World} (h : QuG u lo hi W) (hk : ∀ b, lo ≤ b → b < hi → W2.heap[b]? = W.heap[b]?) : QuG u lo hi W2 := by
 obtain ⟨m, d, io, ic, n, bo, bc, N, ci, x, s, L, E, e, h1, h2, h3, h5, h6⟩ := h
 exact ⟨m, d, io, ic, n, bo, bc, N, ci, x, s, L, E, e, h1, h2, h3, ⟨h5.its.heap (fun b hb => hk b (h6 b (.inl hb)).1 (h6 b (.inl hb)).2), ⟨h5.bls.row.heap (fun b hb => hk b (h6 b (.inr (.inl hb))).1 (h6 b (.inr (.inl hb))).2), fun i hi => (h5.bls.ids i hi).heap (fun b hb => hk b (h6 b (.inr (.inr ⟨i, hi, hb⟩))).1 (h6 b (.inr (.inr ⟨i, hi, hb⟩))).2), h5.bls.d1, h5.bls.d2⟩, h5.d⟩, h6⟩
theorem markG_any {u : Value} {lo hi : Nat} (W : World) (h : QuG u lo hi W) : Calls Try.prog 13 #[u, .int .i64 1] W (fun r w' => ∃ z : Nat, z ≤ 1103816294400 ∧ r = .returned (.int .i64 (z : Int)) ∧ MkG z u lo hi w' ∧ Frm (fun b => lo ≤ b ∧ b < hi) W w') := by
 obtain ⟨m, d, io, ic, n, bo, bc, N, ci, x, s, L, E, rfl, h1, h2, h3, h4, h5⟩ := h
 refine (markQu_any io bo ic bc n N m d ci x s L E h1 h2 h3 W h4).mono ?_
 rintro r w' ⟨rfl, k1, k2⟩
 have hz := mkB_le (K := 1 + n * 5) h3 N (Nat.le_refl _)
 have hz2 : N * 1048580 ≤ 1048576 * 1048580 := Nat.mul_le_mul_right _ (by omega)
 exact ⟨_, by omega, rfl, ⟨m, d, io, ic, n, bo, bc, N, s, L, rfl, h1, h2, h3, rfl, k1, h5⟩, k2.mono (fun b hb => h5 b hb)⟩
theorem heldG_any {z : Nat} {u : Value} {lo hi : Nat} (W : World) (h : MkG z u lo hi W) : Calls Try.prog 14 #[u, .int .i64 1] W (VP (.int .i64 (z : Int)) W) := by
 obtain ⟨m, d, io, ic, n, bo, bc, N, s, L, rfl, h1, h2, h3, rfl, h4, _⟩ := h
 exact heldQu_any io bo ic bc n N m d s L h1 h2 h3 W h4
theorem quG_zero {lo hi : Nat} {W : World} : QuG (.agg #[.int .i64 0, .int .i64 0, .slice none 0 0, .slice none 0 0]) lo hi W := by
 refine ⟨0, 0, none, 0, 0, none, 0, 0, fun _ => undef, fun _ => undef, fun _ => undef, fun _ => 0, fun _ _ => undef, rfl, Nat.zero_le _, Nat.zero_le _, fun i hi => absurd hi (by omega), ⟨.inl ⟨rfl, rfl⟩, ⟨.inl ⟨rfl, rfl⟩, fun i hi => absurd hi (by omega), fun i b hi => absurd hi (by omega), fun i j b hi => absurd hi (by omega)⟩, fun b hb => by cases hb⟩, fun b hb => ?_⟩
 rcases hb with h | h | ⟨i, hi, _⟩
 · cases h
 · cases h
 · omega
theorem AnsG.quG {okn : Bool} {Q : QD} {m d id a bb cc dd : Int} (hok : okn = true → qOk Q m d = true) {u : Value} {lo hi : Nat} {W : World} (h : AnsG okn Q m d id a bb cc dd u lo hi W) : QuG u lo hi W := by
 rcases h with ⟨h1, rfl⟩ | ⟨h1, j, h2, h3, io, ic, A, bc, I, rfl, h4, h5, h6, h7, h8⟩
 · exact quG_zero
 · have hm : Q.m ≤ 40 := (of_decide_eq_true (qOk_all (hok h1)).2.2.1).1
   have hL : ∀ i, i < (putL Q m d id (a, bb, cc, dd) j).length → ((putL Q m d id (a, bb, cc, dd) j).getD i ⟨0, 0, 0, false, []⟩).l.length ≤ 1048576 := fun i hi => by
     have h9 := putL_ll (id := id) (sg := (a, bb, cc, dd)) (j := j) (hok h1) ((putL Q m d id (a, bb, cc, dd) j).getD i ⟨0, 0, 0, false, []⟩) (by rw [List.getD_eq_getElem?_getD, List.getElem?_eq_getElem hi]; exact List.getElem_mem hi)
     omega
   have hid : ∀ i b, i < (putL Q m d id (a, bb, cc, dd) j).length → (I.getD i undef).ownBlock = some b → (lo ≤ b ∧ b < hi) ∧ (Value.slice io (Q.m + 1) ic).ownBlock ≠ some b ∧ A ≠ b := fun i b hi hb => (isP_at h6 hi).2 b hb
   refine ⟨m, d, io, ic, Q.m + 1, some ⟨A, 0, none⟩, bc, (putL Q m d id (a, bb, cc, dd) j).length, _, fun k => (wbCs (putL Q m d id (a, bb, cc, dd) j) I).getD k undef, fun i => I.getD i undef, fun i => ((putL Q m d id (a, bb, cc, dd) j).getD i ⟨0, 0, 0, false, []⟩).l.length, fun i k => ((((putL Q m d id (a, bb, cc, dd) j).getD i ⟨0, 0, 0, false, []⟩).l).map (Value.int .i64)).getD k undef, rfl, by omega, by omega, hL, ⟨RwN.own h4, ⟨(RwN.own h5).congr (fun k hk => ?_), fun i hi => RwN.own (isP_at h6 hi).1, fun i b hi hb e => ?_, fun i k b hi hk hne hb => ?_⟩, fun b hb h9 => ?_⟩, fun b hb => ?_⟩
   · unfold bkC
     by_cases e : k % 5 = 4
     · rw [if_pos e]
       have h9 := wbCs_at (i := k / 5) (k := 4) h6.toI (by omega) (by omega)
       rw [show k / 5 * 5 + 4 = k by omega] at h9
       rw [List.getD_eq_getElem?_getD, h9]
       rfl
     · rw [if_neg e]
   · exact (hid i b hi hb).2.2 (Option.some.inj e)
   · rcases Nat.lt_or_gt_of_ne hne with h | h
     · exact isP_apart h6 h hk b hb
     · exact fun e => isP_apart h6 h hi b e hb
   · rcases h9 with h9 | ⟨i, hi, h9⟩
     · exact (h7 b hb).2 (Option.some.inj h9)
     · exact (hid i b hi h9).2.1 hb
   · rcases hb with hb | hb | ⟨i, hi, hb⟩
     · exact ⟨(World.ownsRow.lt h4 b hb).1, (h7 b hb).1⟩
     · have := (World.ownsRow.lt h5 b hb).1
       have e := Option.some.inj hb
       exact ⟨this, by rw [← e]; exact h8⟩
     · exact (hid i b hi hb).1
theorem QuRow.quG {Q : QD} {w : World} {b gi gb : Nat} {S : Nat → Nat} (h : QuRow Q w b gi gb S) (m d : Int) (hm : Q.m ≤ 1048576) (hN : Q.N ≤ 1048576) (hL : ∀ i, i < Q.N → Q.L i ≤ 1048576) : QuG (.agg #[.int .i64 m, .int .i64 d, .slice (some ⟨gi, 0, none⟩) Q.m Q.m, .slice (some ⟨gb, 0, none⟩) Q.N Q.N]) b w.heap.size w := by
 refine ⟨m, d, _, _, _, _, _, _, _, blV Q S, fun i => .slice (some ⟨S i, 0, none⟩) (Q.L i) (Q.L i), Q.L, fun i k => .int .i64 (Q.E i k), rfl, hm, hN, hL, ⟨RwN.row h.its, ⟨(RwN.row h.bls.row).congr (fun k hk => ?_), fun i hi => RwN.row (by rw [Nat.mul_one]; exact (h.bls.ids i hi).2.2), fun i c hi hc e => ?_, fun i k c hi hk hne hc e => ?_⟩, fun c hc h9 => ?_⟩, fun c hc => ?_⟩
 · unfold bkC
   by_cases e : k % 5 = 4
   · rw [if_pos e]
     have h9 := blV4 Q S (k / 5)
     rw [show k / 5 * 5 + 4 = k by omega] at h9
     exact h9
   · rw [if_neg e]
 · have e1 := Option.some.inj hc
   have e2 := Option.some.inj e
   exact (h.bls.ids i hi).2.1 (e1.trans e2.symm)
 · have e1 : S i = c := Option.some.inj hc
   have e2 : S k = c := Option.some.inj e
   rcases Nat.lt_or_gt_of_ne hne with h9 | h9
   · have := h.bls.up i k h9 hk; omega
   · have := h.bls.up k i h9 hi; omega
 · have e1 : gi = c := Option.some.inj hc
   rcases h9 with h9 | ⟨i, hi, h9⟩
   · exact h.d1 (e1.trans (Option.some.inj h9).symm)
   · exact h.d2 i hi ((Option.some.inj h9 : S i = c).trans e1.symm)
 · rcases hc with hc | hc | ⟨i, hi, hc⟩
   · have e1 : gi = c := Option.some.inj hc
     exact ⟨by rw [← e1]; exact h.lt, by rw [← e1]; exact h.its.lt⟩
   · have e1 : gb = c := Option.some.inj hc
     exact ⟨by rw [← e1]; exact h.bls.lt, by rw [← e1]; exact h.bls.row.lt⟩
   · have e1 : S i = c := Option.some.inj hc
     exact ⟨by rw [← e1]; exact (h.bls.ids i hi).1, by rw [← e1]; exact (h.bls.ids i hi).2.2.lt⟩
open Go.ChangeShapes Go.WideShapes Go.ChangeAt Go.RowKit Go.Joins
theorem Try.cellsSpot : Try.prog.cellsOf 27 = 2 := by kernel_rfl
theorem Try.cellsSeg : Try.prog.cellsOf 29 = 4 := by kernel_rfl
abbrev Wf (x : Int) : Prop := (Lit.int .i64 x).wf = true
abbrev SpD {H : Type} (x y : Int) : DataW H := .agg [.lit (.int .i64 x), .lit (.int .i64 y)]
theorem trod_spot {H : Type} {enc : TypeId × Value → H} {w : World} {base : Nat} {spare : TypeId → Bool} {held : Bool} {n : Nat} {c0 c1 : Value} {y : DataW H × List MemPlace} (h : DataW.trod enc Try.prog w base spare held n 27 [c0, c1] = some y) :
   ∃ a b : Int, c0 = .int .i64 a ∧ c1 = .int .i64 b ∧ y = (SpD a b, []) ∧ Wf a ∧ Wf b := by
 obtain ⟨y0, y1, m, hx, _, h0, h1⟩ := trod_struct2 Try.underlying27 h
 obtain ⟨a, e0, rfl, wa⟩ := DataW.trod_int Try.underlying2 h0
 obtain ⟨b, e1, rfl, wb⟩ := DataW.trod_int Try.underlying2 h1
 have k : Try.prog.cellsOf 2 = 1 := by kernel_rfl
 simp [k] at e0 e1
 exact ⟨a, b, e0, e1, hx, wa, wb⟩
set_option maxRecDepth 100000 in
theorem open_seg {H : Type} {enc : TypeId × Value → H} {w : World} {b0 : Nat} {v : Value} {d : DataW H} {p : List MemPlace} (hv : Value.okWide Try.prog w .any b0 29 v) (h : DataW.Trod enc Try.prog w 0 (fun _ => true) true 29 v d p) :
   ∃ a b c e : Int, v = .agg #[.int .i64 a, .int .i64 b, .int .i64 c, .int .i64 e] ∧ d = .agg [SpD a b, SpD c e] ∧ p = [] ∧ Wf a ∧ Wf b ∧ Wf c ∧ Wf e := by
 obtain ⟨cs, rfl, hsz⟩ := okWide_struct Try.underlying29 hv
 obtain ⟨c0, c1, c2, c3, rfl⟩ := array4 (hsz.trans Try.cellsSeg)
 obtain ⟨fuel, hf⟩ := h
 obtain ⟨y0, y1, n, hx, _, h0, h1⟩ := trod_struct2 Try.underlying29 hf
 simp [Value.cells, Try.cellsSpot] at h0 h1
 obtain ⟨a, b, rfl, rfl, rfl, wa, wb⟩ := trod_spot h0
 obtain ⟨c, e, rfl, rfl, rfl, wc, we⟩ := trod_spot h1
 simp only [Prod.mk.injEq] at hx
 exact ⟨a, b, c, e, rfl, hx.1, by simpa using hx.2, wa, wb, wc, we⟩
end Go.Proofs.Ytjhapeidafbncaa
