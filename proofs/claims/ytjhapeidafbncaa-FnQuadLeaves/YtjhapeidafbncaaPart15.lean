/- Part 15 of the walks that the proof leans on. -/
import Derived.Test.YtjhapeidafbncaaPart12
import Derived.Test.YtjhapeidafbncaaPart14
import Derived.Test.YtjhapeidafbncaaPart2
namespace Go.Proofs.Ytjhapeidafbncaa
open Go.RowKit
def nlS (K : Nat → QT) : Nat → Nat
 | 0 => 0
 | k + 1 => nlS K k + nlT (K k)
def dpS (K : Nat → QT) : Nat → Nat
 | 0 => 0
 | k + 1 => max (dpS K k) (dpT (K k) + 1)
theorem nlS_four (K : Nat → QT) : nlT (.node K) = nlS K 4 := by simp [nlS, nlT]
theorem dpS_four (K : Nat → QT) : dpT (.node K) = dpS K 4 := by
 simp only [dpS, dpT]
 omega
theorem nlS_le (K : Nat → QT) : ∀ j k, nlS K k ≤ nlS K (k + j)
 | 0, _ => Nat.le_refl _
 | j + 1, k => Nat.le_trans (nlS_le K j k) (Nat.le_add_right _ _)
theorem dpS_le (K : Nat → QT) : ∀ j k, dpS K k ≤ dpS K (k + j)
 | 0, _ => Nat.le_refl _
 | j + 1, k => Nat.le_trans (dpS_le K j k) (Nat.le_max_left _ _)
set_option maxRecDepth 100000 in
set_option maxHeartbeats 8000000 in
theorem l13Count_any (t : QT) : ∀ (ok : Nat → Prop) (x y s : Int) (kv ev : Value) (w : World), nlT t ≤ 1048576 → dpT t ≤ 1048576 → MTr ok w t x y s kv ev → Calls Try.prog 53 #[.agg #[.int .i64 x, .int .i64 y, .int .i64 s, kv, ev]] w (VP (.tuple #[.int .i64 (nlT t : Int), .int .i64 (dpT t : Int)]) w) := by
 induction t with
 | leaf l =>
   intro ok x y s kv ev w _ _ hM
   obtain ⟨rfl, eo, ec, rfl, _⟩ := hM
   obtain ⟨en, hen⟩ : ∃ en, l.length = en := ⟨_, rfl⟩
   rw [hen]
   clear hen
   have B0 : Blk (w.alloc (.cells #[.int .i64 x, .int .i64 y, .int .i64 s, .slice none 0 0, .slice eo en ec] 64)) w.heap.size [.int .i64 x, .int .i64 y, .int .i64 s, .slice none 0 0, .slice eo en ec] := Blk.new w [.int .i64 x, .int .i64 y, .int .i64 s, .slice none 0 0, .slice eo en ec] 64 rfl
   have HB : Below w.heap.size w (w.alloc (.cells #[.int .i64 x, .int .i64 y, .int .i64 s, .slice none 0 0, .slice eo en ec] 64)) := (Below.refl _ w).alloc (Nat.le_refl _) _
   go_enter Try.func53, Try.ntmps53
   have m3 := B0.c 3 rfl
   go_wp2
   go_ret2
   exact ⟨rfl, HB⟩
 | node K ih =>
   intro ok x y s kv ev w hn hd hM
   obtain ⟨eo, en, ec, rfl⟩ : ∃ eo en ec, ev = .slice eo en ec := by obtain ⟨⟨ao, c, h, _⟩, _⟩ := hM; exact ⟨_, _, _, h⟩
   obtain ⟨_, A, kc, rfl, hA, _, hk⟩ := hM
   have B0 : Blk (w.alloc (.cells #[.int .i64 x, .int .i64 y, .int .i64 s, .slice (some ⟨A, 0, none⟩) 4 kc, .slice eo en ec] 64)) w.heap.size [.int .i64 x, .int .i64 y, .int .i64 s, .slice (some ⟨A, 0, none⟩) 4 kc, .slice eo en ec] := Blk.new w [.int .i64 x, .int .i64 y, .int .i64 s, .slice (some ⟨A, 0, none⟩) 4 kc, .slice eo en ec] 64 rfl
   have HB : Below w.heap.size w (w.alloc (.cells #[.int .i64 x, .int .i64 y, .int .i64 s, .slice (some ⟨A, 0, none⟩) 4 kc, .slice eo en ec] 64)) := (Below.refl _ w).alloc (Nat.le_refl _) _
   rw [nlS_four] at hn
   rw [dpS_four] at hd
   have HN4 : Hid (nlS K 4 ≤ 1048576) := hn
   have HD4 : Hid (dpS K 4 ≤ 1048576) := hd
   obtain ⟨hf, hhf⟩ : ∃ hf, s / 2 = hf := ⟨_, rfl⟩
   rw [hhf] at hk
   clear hhf hn hd
   have HK : Hid (∀ k, k < 4 → ∃ kv' ev', w.cell? ⟨A, k * 5, none⟩ = some (.int .i64 (kX x hf k)) ∧ w.cell? ⟨A, k * 5 + 1, none⟩ = some (.int .i64 (kY y hf k)) ∧ w.cell? ⟨A, k * 5 + 2, none⟩ = some (.int .i64 hf) ∧ w.cell? ⟨A, k * 5 + 3, none⟩ = some kv' ∧ w.cell? ⟨A, k * 5 + 4, none⟩ = some ev' ∧ MTr ok w (K k) (kX x hf k) (kY y hf k) hf kv' ev') := hk
   clear hk
   go_enter Try.func53, Try.ntmps53
   go_upto_region 1 with fail
   generalize (w.alloc (.cells #[.int .i64 x, .int .i64 y, .int .i64 s, .slice (some ⟨A, 0, none⟩) 4 kc, .slice eo en ec] 64)) = W1 at *
   have m3 := B0.c 3 rfl
   go_wp2_with fail
   clear m3
   go_loopw [4, 5, 6] (fun n dd i wr => ∃ c : Nat, c ≤ 4 ∧ i = .int .i64 c ∧ n = .int .i64 (nlS K c : Int) ∧ dd = .int .i64 (dpS K c : Int) ∧ Blk wr w.heap.size [.int .i64 x, .int .i64 y, .int .i64 s, .slice (some ⟨A, 0, none⟩) 4 kc, .slice eo en ec] ∧ Below w.heap.size w wr) (fun _ _ i _ => 4 - (intOf i).toNat)
   case atStart => exact ⟨0, by omega, rfl, rfl, rfl, B0, HB⟩
   case round =>
     clear B0 HB
     obtain ⟨c, hc, rfl, rfl, rfl, B0, HB⟩ := hrel
     by_cases hc4 : c < 4
     · have hcI : (c : Int) < 4 := by omega
       obtain ⟨kv', ev', c0, c1, c2, c3, c4, hM⟩ := HK.out c hc4
       obtain ⟨ko, kn, kc', eo', en', ec', rfl, rfl⟩ := hM.vals
       have l1 := nlS_le K (3 - c) (c + 1); have l2 := dpS_le K (3 - c) (c + 1)
       rw [show c + 1 + (3 - c) = 4 by omega] at l1 l2
       have l3 := HN4.out; have l4 := HD4.out
       have l5 : nlS K (c + 1) = nlS K c + nlT (K c) := rfl
       have l6 : dpS K (c + 1) = max (dpS K c) (dpT (K c) + 1) := rfl
       have C := ih c ok (kX x hf c) (kY y hf c) hf _ _ wr (by omega) (by omega) (MTr.keep HB.size (fun b _ hb => HB.block b hb) (fun _ h _ => h) hM)
       have hcc : ∀ j, wr.cell? ⟨A, j, none⟩ = w.cell? ⟨A, j, none⟩ := fun j => HB.cell (p := ⟨A, j, none⟩) hA
       have e0 := (hcc _).trans c0; have e1 := (hcc _).trans c1; have e2 := (hcc _).trans c2; have e3 := (hcc _).trans c3; have e4 := (hcc _).trans c4
       have m3 := B0.c 3 rfl
       obtain ⟨a1, ha1⟩ : ∃ a, nlS K c = a := ⟨_, rfl⟩
       obtain ⟨a2, ha2⟩ : ∃ a, nlT (K c) = a := ⟨_, rfl⟩
       obtain ⟨b1, hb1⟩ : ∃ a, dpS K c = a := ⟨_, rfl⟩
       obtain ⟨b2, hb2⟩ : ∃ a, dpT (K c) = a := ⟨_, rfl⟩
       have E1 : Hid ((nlS K (c + 1) : Int) = (a1 : Int) + a2) := by show _ = _; rw [l5, ha1, ha2, Int.natCast_add]
       have E2 : Hid ((dpS K (c + 1) : Int) = if (b1 : Int) < (b2 : Int) + 1 then (b2 : Int) + 1 else b1) := by
         show _ = _
         rw [l6, hb1, hb2]
         split <;> omega
       rw [ha1, hb1]
       rw [ha2, hb2] at C
       have g1 : (a1 : Int) + a2 ≤ 1048576 := by omega
       have g2 : (b2 : Int) ≤ 1048576 := by omega
       clear hcc c0 c1 c2 c3 c4 hM ih l1 l2 l3 l4 l5 l6 ha1 ha2 hb1 hb2
       go_wp2_with fail
       refine C.mono ?_
       rintro r w1 ⟨rfl, hB1⟩
       replace B0 := B0.step hB1
       replace HB := HB.trans (hB1.mono HB.size)
       clear C hB1 e0 e1 e2 e3 e4 m3
       go_wp2
       go_roundw
       case rel =>
         exact ⟨c + 1, by omega, by go_num, by rw [E1.out], by rw [E2.out]; first | done | (congr 1; omega), B0, HB⟩
       case measure => simp [intOf]; omega
     · obtain rfl : c = 4 := by omega
       go_wp2
       go_ret2
       exact ⟨by rw [nlS_four, dpS_four]; rfl, HB⟩
def cntV (Q : QD) (m d : Int) : Value := if qOk Q m d = true then .tuple #[.int .i64 (nlT (trQ Q d.toNat 0 (-1048576) (-1048576) 2097152) : Int), .int .i64 (dpT (trQ Q d.toNat 0 (-1048576) (-1048576) 2097152) : Int)] else .tuple #[.int .i64 0, .int .i64 0]
theorem tr_small {Q : QD} {m d : Int} (h : qOk Q m d = true) : d.toNat ≤ 8 ∧ nlT (trQ Q d.toNat 0 (-1048576) (-1048576) 2097152) ≤ 65536 ∧ dpT (trQ Q d.toNat 0 (-1048576) (-1048576) 2097152) ≤ 8 := by
 have h8 : d.toNat ≤ 8 := by
   unfold qOk limB at h
   simp at h
   omega
 exact ⟨h8, nl_small h8 (dp_tr Q _ _ _ _ _), Nat.le_trans (dp_le _ _ (dp_tr Q _ _ _ _ _)) h8⟩
set_option maxRecDepth 100000 in
set_option maxHeartbeats 4000000 in
theorem specQuadCount_any (w : World) (Q : QD) (ao bo : Option Addr) (cap bcap A off : Nat) (so : Nat → Option Addr × Nat) (m d : Int) (hm : Q.m ≤ 1048576) (hN : Q.N ≤ 1048576) (hL : ∀ i, i < Q.N → Q.L i ≤ 1048576) (hbo : 0 < Q.N → bo = some ⟨A, off, none⟩) (hso : ∀ i, i < Q.N → (so i).1 = none → (so i).2 = 0) (hS : ItIn Q w ao (List.range Q.m)) (hBl : BlIn Q w A off so) : Calls Try.prog 20 #[.agg #[.int .i64 m, .int .i64 d, .slice ao Q.m cap, .slice bo Q.N bcap]] w (VP (cntV Q m d) w) := by
 have BP : Blk (w.alloc (.cells #[.int .i64 m, .int .i64 d, .slice ao Q.m cap, .slice bo Q.N bcap] 34)) w.heap.size [.int .i64 m, .int .i64 d, .slice ao Q.m cap, .slice bo Q.N bcap] := Blk.new w [.int .i64 m, .int .i64 d, .slice ao Q.m cap, .slice bo Q.N bcap] 34 rfl
 have HB : Below w.heap.size w (w.alloc (.cells #[.int .i64 m, .int .i64 d, .slice ao Q.m cap, .slice bo Q.N bcap] 34)) := (Below.refl _ w).alloc (Nat.le_refl _) _
 have C := l13Root_any (w.alloc (.cells #[.int .i64 m, .int .i64 d, .slice ao Q.m cap, .slice bo Q.N bcap] 34)) Q ao bo cap bcap A off so m d hm hN hL hbo hso (hS.step HB) (hBl.below HB)
 clear hS hBl
 go_enter Try.func20, Try.ntmps20
 go_upto_region 1 with fail
 generalize (w.alloc (.cells #[.int .i64 m, .int .i64 d, .slice ao Q.m cap, .slice bo Q.N bcap] 34)) = W1 at *
 have c0 := BP.c 0 rfl; have c1 := BP.c 1 rfl; have c2 := BP.c 2 rfl; have c3 := BP.c 3 rfl
 go_wp2_with fail
 refine C.mono ?_
 rintro r w1 ⟨hB1, hC⟩
 replace HB := HB.trans (hB1.mono HB.size)
 clear C c0 c1 c2 c3 BP hB1
 rcases hC with ⟨hq, rfl⟩ | ⟨hq, kv, ev, rfl, hM⟩
 · have HQ : Hid (cntV Q m d = .tuple #[.int .i64 0, .int .i64 0]) := if_neg (by rw [hq]; decide)
   clear hq
   go_wp2
   go_ret2
   exact ⟨by rw [HQ.out]; rfl, HB.alloc HB.size _⟩
 · have HQ : Hid (cntV Q m d = .tuple #[.int .i64 (nlT (trQ Q d.toNat 0 (-1048576) (-1048576) 2097152) : Int), .int .i64 (dpT (trQ Q d.toNat 0 (-1048576) (-1048576) 2097152) : Int)]) := if_pos hq
   have hsm := tr_small hq
   obtain ⟨ko, kn, kc, eo, en, ec, rfl, rfl⟩ := hM.vals
   have B5 : Blk (w1.alloc (.cells #[.int .i64 (-1048576), .int .i64 (-1048576), .int .i64 2097152, .slice ko kn kc, .slice eo en ec] 64)) w1.heap.size [.int .i64 (-1048576), .int .i64 (-1048576), .int .i64 2097152, .slice ko kn kc, .slice eo en ec] := Blk.new w1 [.int .i64 (-1048576), .int .i64 (-1048576), .int .i64 2097152, .slice ko kn kc, .slice eo en ec] 64 rfl
   have hM2 := hM.step ((Below.refl _ w1).alloc (Nat.le_refl _) (.cells #[.int .i64 (-1048576), .int .i64 (-1048576), .int .i64 2097152, .slice ko kn kc, .slice eo en ec] 64))
   replace HB := HB.alloc HB.size (.cells #[.int .i64 (-1048576), .int .i64 (-1048576), .int .i64 2097152, .slice ko kn kc, .slice eo en ec] 64)
   have C2 := l13Count_any (trQ Q d.toNat 0 (-1048576) (-1048576) 2097152) _ _ _ _ _ _ _ (by omega) (by omega) hM2
   clear hq hM hM2
   obtain ⟨n1, hn1⟩ : ∃ n, nlT (trQ Q d.toNat 0 (-1048576) (-1048576) 2097152) = n := ⟨_, rfl⟩
   obtain ⟨n2, hn2⟩ : ∃ n, dpT (trQ Q d.toNat 0 (-1048576) (-1048576) 2097152) = n := ⟨_, rfl⟩
   rw [hn1, hn2] at C2
   have HQ2 : Hid (cntV Q m d = .tuple #[.int .i64 (n1 : Int), .int .i64 (n2 : Int)]) := by show _ = _; rw [HQ.out, hn1, hn2]
   clear hn1 hn2 hsm HQ
   have k0 := B5.c 0 rfl; have k1 := B5.c 1 rfl; have k2 := B5.c 2 rfl; have k3 := B5.c 3 rfl; have k4 := B5.c 4 rfl
   go_wp2_with fail
   refine C2.mono ?_
   rintro r w2 ⟨rfl, hB2⟩
   replace HB := HB.trans (hB2.mono HB.size)
   clear C2 hB2 k0 k1 k2 k3 k4 B5
   go_wp2
   go_ret2
   exact ⟨by rw [HQ2.out]; rfl, HB⟩
set_option maxRecDepth 100000 in
set_option maxHeartbeats 8000000 in
theorem implQuadCount_any (w : World) (Q : QD) (ao bo : Option Addr) (cap bcap A off : Nat) (so : Nat → Option Addr × Nat) (m d : Int) (hm : Q.m ≤ 1048576) (hN : Q.N ≤ 1048576) (hcap : Q.N ≤ bcap) (hL : ∀ i, i < Q.N → Q.L i ≤ 1048576) (hbo : 0 < Q.N → bo = some ⟨A, off, none⟩) (hao : ∀ A o sp, ao = some ⟨A, o, sp⟩ → A < w.heap.size) (hS : ItIn Q w ao (List.range Q.m)) (hBl : BlIn Q w A off so) : Calls Try.prog 19 #[.agg #[.int .i64 m, .int .i64 d, .slice ao Q.m cap, .slice bo Q.N bcap]] w (VP (cntV Q m d) w) := by
 have BP : Blk (w.alloc (.cells #[.int .i64 m, .int .i64 d, .slice ao Q.m cap, .slice bo Q.N bcap] 34)) w.heap.size [.int .i64 m, .int .i64 d, .slice ao Q.m cap, .slice bo Q.N bcap] := Blk.new w [.int .i64 m, .int .i64 d, .slice ao Q.m cap, .slice bo Q.N bcap] 34 rfl
 have HB : Below w.heap.size w (w.alloc (.cells #[.int .i64 m, .int .i64 d, .slice ao Q.m cap, .slice bo Q.N bcap] 34)) := (Below.refl _ w).alloc (Nat.le_refl _) _
 have CQ := quadOf_any (w.alloc (.cells #[.int .i64 m, .int .i64 d, .slice ao Q.m cap, .slice bo Q.N bcap] 34)) Q ao bo cap bcap A off so m d hm hN hcap hL hbo (fun A o sp e => Nat.lt_of_lt_of_le (hao A o sp e) HB.size) (hS.step HB) (hBl.below HB)
 clear hS hBl
 go_enter Try.func19, Try.ntmps19
 go_upto_region 1 with fail
 generalize (w.alloc (.cells #[.int .i64 m, .int .i64 d, .slice ao Q.m cap, .slice bo Q.N bcap] 34)) = W1 at *
 have c0 := BP.c 0 rfl; have c1 := BP.c 1 rfl; have c2 := BP.c 2 rfl; have c3 := BP.c 3 rfl
 go_wp2_with fail
 refine CQ.mono ?_
 rintro r w1 ⟨pv, rfl, hB1, hT⟩
 replace HB := HB.trans (hB1.mono HB.size)
 clear CQ c0 c1 c2 c3 BP hB1
 cases hq : qOk Q m d with
 | false =>
   have HQ : Hid (cntV Q m d = .tuple #[.int .i64 0, .int .i64 0]) := if_neg (by rw [hq]; decide)
   clear hq hT
   go_wp2
   go_ret2
   exact ⟨by rw [HQ.out]; rfl, HB⟩
 | true =>
   have HQ : Hid (cntV Q m d = .tuple #[.int .i64 (nlT (trQ Q d.toNat 0 (-1048576) (-1048576) 2097152) : Int), .int .i64 (dpT (trQ Q d.toNat 0 (-1048576) (-1048576) 2097152) : Int)]) := if_pos hq
   obtain ⟨gq, io, ic, gr, rfl, Bq, _, _, hST, _, _⟩ := hT hq
   have hPT := hST.toP
   clear hST
   have hsm := tr_small hq
   have C := leaves_any (trQ Q d.toNat 0 (-1048576) (-1048576) 2097152) _ _ _ _ _ _ w1 (by omega) hPT
   have MX := mxL_lvs (trQ Q d.toNat 0 (-1048576) (-1048576) 2097152) (-1048576) (-1048576) 2097152 0 0
   have LN := lvs_len (trQ Q d.toNat 0 (-1048576) (-1048576) 2097152) (-1048576) (-1048576) 2097152 0
   obtain ⟨t, ht⟩ : ∃ t, trQ Q d.toNat 0 (-1048576) (-1048576) 2097152 = t := ⟨_, rfl⟩
   rw [ht] at C MX LN hsm
   have HQ2 : Hid (cntV Q m d = .tuple #[.int .i64 (nlT t : Int), .int .i64 (dpT t : Int)]) := by show _ = _; rw [HQ.out, ht]
   have HMX : Hid (mxL 0 (lvs t (-1048576) (-1048576) 2097152 0) = (dpT t : Int)) := by show _ = _; rw [MX]; omega
   have HLN : Hid ((lvs t (-1048576) (-1048576) 2097152 0).length = nlT t) := LN
   obtain ⟨LL, hLL⟩ : ∃ LL, lvs t (-1048576) (-1048576) 2097152 0 = LL := ⟨_, rfl⟩
   have q3 := Bq.c 3 rfl
   rw [hLL] at C
   clear hq hT HQ ht MX LN hPT
   go_wp2_with fail
   refine C.mono ?_
   rintro r w2 ⟨v, ps, rfl, HO, hLv, hB2⟩
   have hlen := hLv.len
   have hps : ps.length ≤ 65536 := by have := HLN.out; rw [hLL] at this; omega
   have hps0 : 0 < ps.length := by have := HLN.out; rw [hLL] at this; have := nl_pos t; omega
   have HPL : Hid (ps.length = nlT t) := by show _ = _; have := HLN.out; rw [hLL] at this; omega
   have HLP : Hid (ps.length = LL.length) := hlen
   have HLV : Hid (LvP _ w1 ps LL) := hLv
   obtain ⟨g2, cc, rfl, hg1, hg2, hg3, _⟩ := ownQ_form HO hps0
   have HCL : Hid (∀ i p, ps[i]? = some p → w2.cell? ⟨g2, i, none⟩ = some (.pointer (some ⟨p, 0, none⟩))) := fun i p hi => by
     have h := HO.cells rfl i (.pointer (some ⟨p, 0, none⟩)) (by unfold ptL; rw [List.getElem?_map, hi]; rfl)
     rw [Addr.add_lit, Nat.zero_add] at h
     exact h
   have hpsI : (ps.length : Int) ≤ 65536 := by omega
   replace HB := HB.trans (hB2.mono HB.size)
   have HB2 : Hid (Below w1.heap.size w1 w2) := hB2
   clear C q3 hlen hLv HO hB2 Bq
   obtain ⟨n, hn⟩ : ∃ n, ps.length = n := ⟨_, rfl⟩
   have HNN : Hid (ps.length = n) := hn
   rw [hn] at hps hps0 hpsI hg3 ⊢
   clear hn
   go_wp2_with fail
   go_loopw [6, 24] (fun dm i wr => ∃ c : Nat, c ≤ n ∧ i = .int .i64 c ∧ dm = .int .i64 (mxL 0 (LL.take c)) ∧ Below w2.heap.size w2 wr) (fun _ i _ => n - (intOf i).toNat)
   case atStart => exact ⟨0, by omega, rfl, rfl, Below.refl _ _⟩
   case round =>
     obtain ⟨c, hc, rfl, rfl, HBr⟩ := hrel
     by_cases hcn : c < n
     · have hcI : (c : Int) < n := by omega
       obtain ⟨qq, hqq⟩ : ∃ qq, LL[c]? = some qq := ⟨_, List.getElem?_eq_getElem (by have := HNN.out; have := HLP.out; omega)⟩
       obtain ⟨p, hp, _, iv, hBk, _⟩ := HLV.out.at hqq
       have cp := (HBr.cell (p := ⟨g2, c, none⟩) hg2).trans (HCL.out c p hp)
       have c3 := ((HB2.out.trans (HBr.mono HB2.out.size)).cell (p := ⟨p, 3, none⟩) hBk.lt).trans (hBk.c 3 rfl)
       obtain ⟨m1, hm1⟩ : ∃ m1, mxL 0 (LL.take c) = m1 := ⟨_, rfl⟩
       have E2 : Hid (mxL 0 (LL.take (c + 1)) = if m1 < qq.lv then qq.lv else m1) := by
         show _ = _
         rw [List.take_add_one, hqq, mxL_app, hm1]
         show max m1 qq.lv = _
         split <;> omega
       rw [hm1]
       clear hm1 hqq hp
       go_wp2
       go_roundw
       case rel => exact ⟨c + 1, by omega, by go_num, by rw [E2.out]; first | done | (congr 1; omega), HBr⟩
       case measure => simp [intOf]; omega
     · obtain rfl : c = n := by omega
       have E3 : Hid (mxL 0 (LL.take c) = (dpT t : Int)) := by
         show _ = _
         rw [List.take_of_length_le (by have := HNN.out; have := HLP.out; omega), ← hLL]
         exact HMX.out
       have E4 : Hid ((c : Int) = (nlT t : Int)) := by show _ = _; rw [← HNN.out, HPL.out]
       go_wp2
       go_ret2
       exact ⟨by rw [HQ2.out, ← E3.out, ← E4.out]; rfl, HB.trans (HBr.mono HB.size)⟩
def AnD (e c m x a s de dc dm dx da : Nat) : Prop := (e < c ∧ c < m ∧ m < x ∧ x < a ∧ a < s) ∧ da < dm ∧ dm < de ∧ de < dc ∧ dc < dx
def TgK (XP : Value → World → Prop) (TG : Value → Nat → Nat → World → Prop) : Prop :=
 (∀ v W W2, XP v W → Below W.heap.size W W2 → XP v W2) ∧ ∀ u lo hi W W2, TG u lo hi W → W.heap.size ≤ W2.heap.size → (∀ b, lo ≤ b → b < hi → W2.heap[b]? = W.heap[b]?) → TG u lo hi W2
def llB (n : Nat) : QT → Prop
 | .leaf l => l.length ≤ n
 | .node K => ∀ k, k < 4 → llB n (K k)
theorem rt_ll {Q : QD} : ∀ {t : QT} {x y s : Int}, rtT Q t x y s = true → llB Q.m t
 | .leaf l, x, y, s, h => by
   have h := of_decide_eq_true h
   show l.length ≤ Q.m
   rw [h]
   exact canL_len Q x y s
 | .node K, x, y, s, h => fun k hk => rt_ll (t := K k) (List.all_eq_true.1 h k (List.mem_range.2 hk))
theorem ll_mono {n n' : Nat} (hn : n ≤ n') : ∀ {t : QT}, llB n t → llB n' t
 | .leaf _, h => Nat.le_trans h hn
 | .node K, h => fun k hk => ll_mono hn (t := K k) (h k hk)
theorem putT_ll {Q : QD} {j : Nat} {mx : Int} : ∀ {t : QT} {D x y s : Int}, llB Q.m t → llB Q.m (putT Q j mx t D x y s)
 | .leaf l, D, x, y, s, h => by
   rw [putLeaf]
   split
   · split
     · exact canL_len Q x y s
     · exact fun k _ => canL_len Q _ _ _
   · exact h
 | .node K, D, x, y, s, h => by
   cases hh : hitQ Q x y s j with
   | false => rw [putT_miss hh]; exact h
   | true => rw [putT_hit hh]; exact fun k hk => putT_ll (t := K k) (h k hk)
theorem mem_catW {f : Nat → List WB} {z : WB} : ∀ {n}, z ∈ catW f n → ∃ k, k < n ∧ z ∈ f k
 | 0, h => by simp [catW] at h
 | n + 1, h => by
   rw [catW, List.mem_append] at h
   rcases h with h | h
   · obtain ⟨k, h1, h2⟩ := mem_catW h
     exact ⟨k, by omega, h2⟩
   · exact ⟨n, by omega, h⟩
theorem wrT_ll {n : Nat} : ∀ {t : QT} {x y s : Int}, llB n t → ∀ q ∈ wrT t x y s, q.l.length ≤ n
 | .leaf l, x, y, s, h, q, hq => by
   simp only [wrT, List.mem_singleton] at hq
   subst hq
   exact h
 | .node K, x, y, s, h, q, hq => by
   simp only [wrT, List.mem_cons] at hq
   rcases hq with hq | hq
   · subst hq; exact Nat.zero_le _
   · obtain ⟨k, hk, hq⟩ := mem_catW hq
     exact wrT_ll (t := K k) (h k hk) q hq
theorem putL_ll {Q : QD} {m d id : Int} {sg : Int × Int × Int × Int} {j : Nat} (h : qOk Q m d = true) : ∀ q ∈ putL Q m d id sg j, q.l.length ≤ 41 := by
 obtain ⟨_, _, h3, h4⟩ := qOk_all h
 have h40 : Q.m ≤ 40 := (of_decide_eq_true h3).1
 intro q hq
 have h5 := wrT_ll (n := Q.m + 1) (putT_ll (Q := insQ Q j id sg) (ll_mono (Nat.le_succ _) (rt_ll h4))) q hq
 omega
def qdOf (Q : QD) (L : List WB) : QD := { m := Q.m, N := L.length, I := Q.I, S := Q.S, X := fun i => (L.getD i ⟨0, 0, 0, false, []⟩).x, Y := fun i => (L.getD i ⟨0, 0, 0, false, []⟩).y, Z := fun i => (L.getD i ⟨0, 0, 0, false, []⟩).s, T := fun i => (L.getD i ⟨0, 0, 0, false, []⟩).sp, L := fun i => (L.getD i ⟨0, 0, 0, false, []⟩).l.length, E := fun i j => (L.getD i ⟨0, 0, 0, false, []⟩).l.getD j 0 }
theorem wbCs_at {ok : Nat → Prop} {w : World} : ∀ {L : List WB} {I : List Value} {i k : Nat}, IvP ok w L I → i < L.length → k < 5 → (wbCs L I)[i * 5 + k]? = (wb5 (L.getD i ⟨0, 0, 0, false, []⟩) (I.getD i undef))[k]?
 | [], _, i, k, _, hi, _ => absurd hi (by simp)
 | q :: L, [], i, k, h, _, _ => h.elim
 | q :: L, iv :: I, 0, k, h, _, hk => by
   show (wb5 q iv ++ wbCs L I)[0 * 5 + k]? = _
   rw [List.getElem?_append_left (by simp [wb5]; omega), Nat.zero_mul, Nat.zero_add]
   rfl
 | q :: L, iv :: I, i + 1, k, h, hi, hk => by
   show (wb5 q iv ++ wbCs L I)[(i + 1) * 5 + k]? = _
   rw [List.getElem?_append_right (by simp [wb5]; omega), show (i + 1) * 5 + k - (wb5 q iv).length = i * 5 + k by simp [wb5]; omega, wbCs_at (L := L) (I := I) h.2 (by simpa using hi) hk]
   simp
theorem ivP_at {ok : Nat → Prop} {w : World} : ∀ {L : List WB} {I : List Value} {i : Nat}, IvP ok w L I → i < L.length → IdV ok w (I.getD i undef) (L.getD i ⟨0, 0, 0, false, []⟩).l
 | [], _, i, _, hi => absurd hi (by simp)
 | q :: L, [], i, h, _ => h.elim
 | q :: L, iv :: I, 0, h, _ => h.1
 | q :: L, iv :: I, i + 1, h, hi => by
   have h2 := ivP_at (L := L) (I := I) (i := i) h.2 (by simpa using hi)
   simpa using h2
def soL (I : List Value) (i : Nat) : Option Addr × Nat := match I.getD i undef with
 | .slice ao _ c => (ao, c)
 | _ => (none, 0)
theorem blIn_of {Q : QD} {ok : Nat → Prop} {w : World} {b A cap : Nat} {L : List WB} {I : List Value} (h : w.ownsRow b 55 5 (.slice (some ⟨A, 0, none⟩) L.length cap) L.length (wbCs L I)) (hI : IvP ok w L I) : BlIn (qdOf Q L) w A 0 (soL I) := fun i hi => by
 have hA : A < w.heap.size := (World.ownsRow.lt h A rfl).2
 obtain ⟨ao, c, e1, e2, _, _⟩ := ivP_at hI hi
 have hso : soL I i = (ao, c) := by unfold soL; rw [e1]
 have hc : ∀ k u, k < 5 → (wb5 (L.getD i ⟨0, 0, 0, false, []⟩) (I.getD i undef))[k]? = some u → w.cell? ⟨A, 0 + i * 5 + k, none⟩ = some u := fun k u hk hu => by
   have h1 := h.cells rfl (i * 5 + k) u ((wbCs_at hI hi hk).trans hu)
   rw [Addr.add_lit] at h1
   rw [show 0 + i * 5 + k = 0 + (i * 5 + k) by omega]
   exact h1
 refine ⟨hA, hc 0 _ (by omega) rfl, hc 1 _ (by omega) rfl, hc 2 _ (by omega) rfl, hc 3 _ (by omega) rfl, ?_, ?_⟩
 · have h4 := hc 4 _ (by omega) rfl
   rw [hso]
   rw [e1] at h4
   exact h4
 · rw [hso]
   exact e2
theorem turn_at (a b c d P Q : Int) : turnSp a b c d P Q = (c - a) * (Q - b) - (d - b) * (P - a) := by
 unfold turnSp
 grind
theorem mul_le {p q r : Int} (hp : 0 ≤ p) (h : q ≤ r) : p * q ≤ p * r := Int.mul_le_mul_of_nonneg_left h hp
theorem mul_ge {p q r : Int} (hp : p ≤ 0) (h : q ≤ r) : p * r ≤ p * q := Int.mul_le_mul_of_nonpos_left hp h
theorem ends_up {a b c d x y u v : Int} (hac : a ≤ c) (hbd : b ≤ d) (hxu : x ≤ u) (hyv : y ≤ v) (h : hitB a b c d x y u v = true) : 0 ≤ turnSp a b c d x v ∧ turnSp a b c d u y ≤ 0 ∧ x ≤ c ∧ a ≤ u ∧ y ≤ d ∧ b ≤ v := by
 unfold hitB at h
 simp only [Bool.and_eq_true, Bool.not_eq_true', lefts4, rights4] at h
 obtain ⟨h1, h2, h3⟩ := h
 unfold boxOut at h1
 rw [decide_eq_false_iff_not] at h1
 have e1 := mul_le (p := c - a) (show 0 ≤ c - a by omega) (show y - b ≤ v - b by omega)
 have e2 := mul_le (p := d - b) (show 0 ≤ d - b by omega) (show x - a ≤ u - a by omega)
 simp only [turn_at] at h2 h3 ⊢
 refine ⟨?_, ?_, by omega, by omega, by omega, by omega⟩
 · rcases h2 with h2 | h2 | h2 | h2 <;> omega
 · rcases h3 with h3 | h3 | h3 | h3 <;> omega
theorem ends_down {a b c d x y u v : Int} (hac : a ≤ c) (hbd : d ≤ b) (hxu : x ≤ u) (hyv : y ≤ v) (h : hitB a b c d x y u v = true) : 0 ≤ turnSp a b c d u v ∧ turnSp a b c d x y ≤ 0 ∧ x ≤ c ∧ a ≤ u ∧ y ≤ b ∧ d ≤ v := by
 unfold hitB at h
 simp only [Bool.and_eq_true, Bool.not_eq_true', lefts4, rights4] at h
 obtain ⟨h1, h2, h3⟩ := h
 unfold boxOut at h1
 rw [decide_eq_false_iff_not] at h1
 have e1 := mul_le (p := c - a) (show 0 ≤ c - a by omega) (show y - b ≤ v - b by omega)
 have e2 := mul_ge (p := d - b) (show d - b ≤ 0 by omega) (show x - a ≤ u - a by omega)
 simp only [turn_at] at h2 h3 ⊢
 refine ⟨?_, ?_, by omega, by omega, by omega, by omega⟩
 · rcases h2 with h2 | h2 | h2 | h2 <;> omega
 · rcases h3 with h3 | h3 | h3 | h3 <;> omega
theorem hit_up {a b c d x y u v : Int} (h1 : 0 ≤ turnSp a b c d x v) (h2 : turnSp a b c d u y ≤ 0) (h3 : x ≤ c) (h4 : a ≤ u) (h5 : y ≤ d) (h6 : b ≤ v) : hitB a b c d x y u v = true := by
 unfold hitB
 simp only [Bool.and_eq_true, Bool.not_eq_true', lefts4, rights4]
 refine ⟨?_, ?_, ?_⟩
 · unfold boxOut
   rw [decide_eq_false_iff_not]
   omega
 · exact .inr (.inr (.inl h1))
 · exact .inr (.inr (.inr h2))
theorem hit_down {a b c d x y u v : Int} (h1 : 0 ≤ turnSp a b c d u v) (h2 : turnSp a b c d x y ≤ 0) (h3 : x ≤ c) (h4 : a ≤ u) (h5 : y ≤ b) (h6 : d ≤ v) : hitB a b c d x y u v = true := by
 unfold hitB
 simp only [Bool.and_eq_true, Bool.not_eq_true', lefts4, rights4]
 refine ⟨?_, ?_, ?_⟩
 · unfold boxOut
   rw [decide_eq_false_iff_not]
   omega
 · exact .inr (.inl h1)
 · exact .inl h2
theorem hit_partX {a b c d x y u v X : Int} (hac : a ≤ c) (h1 : x ≤ X) (h2 : X ≤ u) (hyv : y ≤ v) (h : hitB a b c d x y u v = true) : hitB a b c d x y X v = true ∨ hitB a b c d X y u v = true := by
 rcases Int.le_total b d with hq | hq
 · obtain ⟨t1, t2, k1, k2, k3, k4⟩ := ends_up hac hq (by omega) hyv h
   by_cases hl : turnSp a b c d X y ≤ 0 ∧ a ≤ X
   · exact .inl (hit_up t1 hl.1 k1 hl.2 k3 k4)
   · refine .inr ?_
     have e1 := mul_le (p := c - a) (show 0 ≤ c - a by omega) (show y - b ≤ v - b by omega)
     by_cases ha : a ≤ X
     · have hT : ¬ turnSp a b c d X y ≤ 0 := fun e => hl ⟨e, ha⟩
       refine hit_up ?_ t2 ?_ k2 k3 k4
       · simp only [turn_at] at hT ⊢; omega
       · apply Classical.byContradiction
         intro hc
         have e2 := mul_le (p := c - a) (show 0 ≤ c - a by omega) (show y - b ≤ d - b by omega)
         have e3 := mul_le (p := d - b) (show 0 ≤ d - b by omega) (show c - a ≤ X - a by omega)
         have e4 : (c - a) * (d - b) = (d - b) * (c - a) := Int.mul_comm _ _
         simp only [turn_at] at hT
         omega
     · refine hit_up ?_ t2 (by omega) k2 k3 k4
       have e2 := mul_nn (p := c - a) (q := v - b) (by omega) (by omega)
       have e3 := mul_np (p := d - b) (q := X - a) (by omega) (by omega)
       simp only [turn_at]
       omega
 · obtain ⟨t1, t2, k1, k2, k3, k4⟩ := ends_down hac hq (by omega) hyv h
   by_cases hl : 0 ≤ turnSp a b c d X v ∧ a ≤ X
   · exact .inl (hit_down hl.1 t2 k1 hl.2 k3 k4)
   · refine .inr ?_
     have e1 := mul_le (p := c - a) (show 0 ≤ c - a by omega) (show y - b ≤ v - b by omega)
     by_cases ha : a ≤ X
     · have hT : ¬ 0 ≤ turnSp a b c d X v := fun e => hl ⟨e, ha⟩
       refine hit_down t1 ?_ ?_ k2 k3 k4
       · simp only [turn_at] at hT ⊢; omega
       · apply Classical.byContradiction
         intro hc
         have e2 := mul_le (p := c - a) (show 0 ≤ c - a by omega) (show d - b ≤ v - b by omega)
         have e3 := mul_ge (p := d - b) (show d - b ≤ 0 by omega) (show c - a ≤ X - a by omega)
         have e4 : (c - a) * (d - b) = (d - b) * (c - a) := Int.mul_comm _ _
         simp only [turn_at] at hT
         omega
     · refine hit_down t1 ?_ (by omega) k2 k3 k4
       have e2 := mul_np (p := c - a) (q := y - b) (by omega) (by omega)
       have e3 := mul_pp (p := d - b) (q := X - a) (by omega) (by omega)
       simp only [turn_at]
       omega
theorem hit_partY {a b c d x y u v Y : Int} (hac : a ≤ c) (hxu : x ≤ u) (h1 : y ≤ Y) (h2 : Y ≤ v) (h : hitB a b c d x y u v = true) : hitB a b c d x y u Y = true ∨ hitB a b c d x Y u v = true := by
 rcases Int.le_total b d with hq | hq
 · obtain ⟨t1, t2, k1, k2, k3, k4⟩ := ends_up hac hq hxu (by omega) h
   by_cases hl : 0 ≤ turnSp a b c d x Y ∧ b ≤ Y
   · exact .inl (hit_up hl.1 t2 k1 k2 k3 hl.2)
   · refine .inr ?_
     have e1 := mul_le (p := d - b) (show 0 ≤ d - b by omega) (show x - a ≤ u - a by omega)
     by_cases hb : b ≤ Y
     · have hT : ¬ 0 ≤ turnSp a b c d x Y := fun e => hl ⟨e, hb⟩
       refine hit_up t1 ?_ k1 k2 ?_ k4
       · simp only [turn_at] at hT ⊢; omega
       · apply Classical.byContradiction
         intro hc
         have e2 := mul_le (p := c - a) (show 0 ≤ c - a by omega) (show d - b ≤ Y - b by omega)
         have e3 := mul_le (p := d - b) (show 0 ≤ d - b by omega) (show x - a ≤ c - a by omega)
         have e4 : (c - a) * (d - b) = (d - b) * (c - a) := Int.mul_comm _ _
         simp only [turn_at] at hT
         omega
     · refine hit_up t1 ?_ k1 k2 (by omega) k4
       have e2 := mul_np (p := c - a) (q := Y - b) (by omega) (by omega)
       have e3 := mul_nn (p := d - b) (q := u - a) (by omega) (by omega)
       simp only [turn_at]
       omega
 · obtain ⟨t1, t2, k1, k2, k3, k4⟩ := ends_down hac hq hxu (by omega) h
   by_cases hl : 0 ≤ turnSp a b c d u Y ∧ d ≤ Y
   · exact .inl (hit_down hl.1 t2 k1 k2 k3 hl.2)
   · refine .inr ?_
     have e1 := mul_ge (p := d - b) (show d - b ≤ 0 by omega) (show x - a ≤ u - a by omega)
     by_cases hd : d ≤ Y
     · have hT : ¬ 0 ≤ turnSp a b c d u Y := fun e => hl ⟨e, hd⟩
       refine hit_down t1 ?_ k1 k2 ?_ k4
       · simp only [turn_at] at hT ⊢; omega
       · apply Classical.byContradiction
         intro hc
         have e2 := mul_nn (p := c - a) (q := Y - b) (by omega) (by omega)
         have e3 := mul_pn (p := d - b) (q := u - a) (by omega) (by omega)
         simp only [turn_at] at hT
         omega
     · refine hit_down t1 ?_ k1 k2 (by omega) k4
       have e2 := mul_le (p := c - a) (show 0 ≤ c - a by omega) (show Y - b ≤ d - b by omega)
       have e3 := mul_ge (p := d - b) (show d - b ≤ 0 by omega) (show x - a ≤ c - a by omega)
       have e4 : (c - a) * (d - b) = (d - b) * (c - a) := Int.mul_comm _ _
       simp only [turn_at]
       omega
theorem hit_some {Q : QD} {x y s : Int} {i : Nat} (hac : (Q.S i).1 ≤ (Q.S i).2.2.1) (hs : 0 ≤ s) (he : s = 2 * (s / 2)) (h : hitQ Q x y s i = true) : ∃ k, k < 4 ∧ hitQ Q (kX x (s / 2) k) (kY y (s / 2) k) (s / 2) i = true := by
 obtain ⟨f, hf⟩ : ∃ f, s / 2 = f := ⟨_, rfl⟩
 rw [hf] at he ⊢
 unfold hitQ at h ⊢
 have h0 : ∀ k, (kX x f k, kY y f k) = (x + ((k % 2 : Nat) : Int) * f, y + ((k / 2 : Nat) : Int) * f) := fun _ => rfl
 rcases hit_partX (X := x + f) hac (by omega) (by omega) (by omega) h with h | h <;> rcases hit_partY (Y := y + f) hac (by omega) (by omega) (by omega) h with h | h
 · refine ⟨0, by omega, ?_⟩
   unfold kX kY
   simpa using h
 · refine ⟨2, by omega, ?_⟩
   unfold kX kY
   rw [show y + s = y + f + f by omega] at h
   simpa using h
 · refine ⟨1, by omega, ?_⟩
   unfold kX kY
   rw [show x + s = x + f + f by omega] at h
   simpa using h
 · refine ⟨3, by omega, ?_⟩
   unfold kX kY
   rw [show x + s = x + f + f by omega, show y + s = y + f + f by omega] at h
   simpa using h
def delQ (Q : QD) (j : Nat) : QD where
 m := Q.m - 1
 N := Q.N
 I := fun i => if i < j then Q.I i else Q.I (i + 1)
 S := fun i => if i < j then Q.S i else Q.S (i + 1)
 X := Q.X
 Y := Q.Y
 Z := Q.Z
 T := Q.T
 L := Q.L
 E := Q.E
theorem delQ_lt {Q : QD} {j i : Nat} (h : i < j) : (delQ Q j).I i = Q.I i ∧ (delQ Q j).S i = Q.S i := ⟨if_pos h, if_pos h⟩
theorem delQ_ge {Q : QD} {j i : Nat} (h : j ≤ i) : (delQ Q j).I i = Q.I (i + 1) ∧ (delQ Q j).S i = Q.S (i + 1) := ⟨if_neg (by omega), if_neg (by omega)⟩
theorem ins_del {Q : QD} {j : Nat} (hj : j < Q.m) : insQ (delQ Q j) j (Q.I j) (Q.S j) = Q := by
 have h1 : ∀ i, (if i < j then (delQ Q j).I i else if i = j then Q.I j else (delQ Q j).I (i - 1)) = Q.I i := fun i => by
   by_cases h : i < j
   · rw [if_pos h, (delQ_lt h).1]
   · by_cases he : i = j
     · rw [if_neg h, if_pos he, he]
     · rw [if_neg h, if_neg he, (delQ_ge (by omega)).1, show i - 1 + 1 = i by omega]
 have h2 : ∀ i, (if i < j then (delQ Q j).S i else if i = j then Q.S j else (delQ Q j).S (i - 1)) = Q.S i := fun i => by
   by_cases h : i < j
   · rw [if_pos h, (delQ_lt h).2]
   · by_cases he : i = j
     · rw [if_neg h, if_pos he, he]
     · rw [if_neg h, if_neg he, (delQ_ge (by omega)).2, show i - 1 + 1 = i by omega]
 unfold insQ
 rw [show (delQ Q j).m + 1 = Q.m from by show Q.m - 1 + 1 = Q.m; omega, funext h1, funext h2]
 rfl
theorem rise_del {Q : QD} {j : Nat} (h : riseI Q) (_hj : j < Q.m) : riseI (delQ Q j) := by
 intro i h0 hi
 have hi' : i < Q.m - 1 := hi
 by_cases h1 : i < j
 · rw [(delQ_lt (show i - 1 < j by omega)).1, (delQ_lt h1).1]
   exact h i h0 (by omega)
 · by_cases h2 : i - 1 < j
   · rw [(delQ_lt h2).1, (delQ_ge (by omega)).1]
     have e := rise_lt h 1 (i - 1) (by omega)
     rw [show i - 1 + 1 + 1 = i + 1 by omega] at e
     exact e
   · rw [(delQ_ge (by omega)).1, (delQ_ge (by omega)).1]
     have e := h (i + 1) (by omega) (by omega)
     rw [show i + 1 - 1 = i - 1 + 1 by omega] at e
     exact e
theorem rise_to {Q : QD} (h : riseI Q) {i k : Nat} (hik : i < k) (hk : k < Q.m) : Q.I i < Q.I k := by
 have e := rise_lt h (k - i - 1) i (by omega)
 rwa [show i + (k - i - 1) + 1 = k by omega] at e
theorem canL_del {Q : QD} {j : Nat} (hr : riseI Q) (hj : j < Q.m) (x y s : Int) : canL (delQ Q j) x y s = (canL Q x y s).filter (fun z => decide (z ≠ Q.I j)) := by
 obtain ⟨A, B, h1, h2, h3, h4⟩ := canL_ins (Q := delQ Q j) (j := j) (show j ≤ Q.m - 1 by omega) (Q.I j) (Q.S j) x y s
 rw [ins_del hj] at h2
 rw [h1, h2]
 have hA : A.filter (fun z => decide (z ≠ Q.I j)) = A := List.filter_eq_self.2 fun z hz => by
   rw [h3] at hz
   obtain ⟨i, hi, rfl⟩ := canP_mem hz
   rw [(delQ_lt hi).1]
   exact decide_eq_true (Int.ne_of_lt (rise_to hr hi hj))
 have hB : B.filter (fun z => decide (z ≠ Q.I j)) = B := List.filter_eq_self.2 fun z hz => by
   rw [h4] at hz
   obtain ⟨i, hi, hi2, rfl⟩ := canR_mem hz
   have hi3 : i < j + (Q.m - 1 - j) := hi2
   rw [(delQ_ge hi).1]
   exact decide_eq_true (Int.ne_of_gt (rise_to hr (show j < i + 1 by omega) (by omega)))
 rw [List.filter_append, List.filter_append, hA, hB]
 cases newH (Q.S j) x y s <;> simp
def upL (l : List Int) : Prop := l.Pairwise (· < ·)
theorem canL_up {Q : QD} (h : riseI Q) (x y s : Int) : upL (canL Q x y s) := by
 unfold upL canL idL flQ
 rw [List.pairwise_map]
 refine List.Pairwise.imp_of_mem ?_ (List.Pairwise.filter _ List.pairwise_lt_range)
 intro a b _ hb hab
 exact rise_to h hab (List.mem_range.1 (List.mem_filter.1 hb).1)
theorem up_ext : ∀ (l l' : List Int), upL l → upL l' → (∀ z, z ∈ l ↔ z ∈ l') → l = l'
 | [], [], _, _, _ => rfl
 | [], b :: l', _, _, h => by have := (h b).2 (by simp); simp at this
 | a :: l, [], _, _, h => by have := (h a).1 (by simp); simp at this
 | a :: l, b :: l', h1, h2, h => by
   obtain ⟨u1, u2⟩ := List.pairwise_cons.1 h1
   obtain ⟨v1, v2⟩ := List.pairwise_cons.1 h2
   have hab : a = b := by
     have ha := (h a).1 (by simp)
     have hb := (h b).2 (by simp)
     rw [List.mem_cons] at ha hb
     rcases ha with ha | ha
     · exact ha
     · rcases hb with hb | hb
       · exact hb.symm
       · have e1 := v1 a ha
         have e2 := u1 b hb
         omega
   subst hab
   rw [up_ext l l' u2 v2 fun z => ⟨fun hz => ?_, fun hz => ?_⟩]
   · have e := (h z).1 (List.mem_cons_of_mem _ hz)
     rw [List.mem_cons] at e
     rcases e with e | e
     · have := u1 z hz; omega
     · exact e
   · have e := (h z).2 (List.mem_cons_of_mem _ hz)
     rw [List.mem_cons] at e
     rcases e with e | e
     · have := v1 z hz; omega
     · exact e
def withL (l : List Int) (n : Int) : List Int := l.filter (fun z => decide (z < n)) ++ n :: l.filter (fun z => decide (n < z))
theorem mem_withL (l : List Int) (n z : Int) : z ∈ withL l n ↔ z ∈ l ∨ z = n := by
 unfold withL
 simp only [List.mem_append, List.mem_cons, List.mem_filter, decide_eq_true_eq]
 constructor
 · rintro (⟨h, _⟩ | rfl | ⟨h, _⟩)
   · exact .inl h
   · exact .inr rfl
   · exact .inl h
 · rintro (h | rfl)
   · rcases Int.lt_trichotomy z n with h1 | h1 | h1
     · exact .inl ⟨h, h1⟩
     · exact .inr (.inl h1)
     · exact .inr (.inr ⟨h, h1⟩)
   · exact .inr (.inl rfl)
theorem up_withL {l : List Int} (n : Int) (h : upL l) : upL (withL l n) := by
 unfold upL withL
 rw [List.pairwise_append, List.pairwise_cons]
 refine ⟨List.Pairwise.filter _ h, ⟨fun z hz => of_decide_eq_true (List.mem_filter.1 hz).2, List.Pairwise.filter _ h⟩, fun a ha b hb => ?_⟩
 have e1 : a < n := of_decide_eq_true (List.mem_filter.1 ha).2
 rcases List.mem_cons.1 hb with rfl | hb
 · exact e1
 · have e2 : n < b := of_decide_eq_true (List.mem_filter.1 hb).2
   omega
def mrgL (a l : List Int) : List Int := l.foldl withL a
theorem mem_mrg : ∀ (l a : List Int) (z : Int), z ∈ mrgL a l ↔ z ∈ a ∨ z ∈ l
 | [], a, z => by simp [mrgL]
 | n :: l, a, z => by
   show z ∈ mrgL (withL a n) l ↔ _
   rw [mem_mrg l, mem_withL, List.mem_cons, or_assoc]
theorem up_mrg : ∀ (l : List Int) {a : List Int}, upL a → upL (mrgL a l)
 | [], _, h => h
 | n :: l, _, h => up_mrg l (up_withL n h)
def idsT : QT → List Int
 | .leaf l => l
 | .node _ => []
def isLf : QT → Bool
 | .leaf _ => true
 | .node _ => false
def allK (K : Nat → QT) : Nat → List Int
 | 0 => []
 | k + 1 => mrgL (allK K k) (idsT (K k))
def lfK (K : Nat → QT) : Nat → Bool
 | 0 => true
 | k + 1 => lfK K k && isLf (K k)
theorem up_allK (K : Nat → QT) : ∀ c, upL (allK K c)
 | 0 => List.Pairwise.nil
 | c + 1 => up_mrg _ (up_allK K c)
theorem mem_allK (K : Nat → QT) (z : Int) : ∀ c, z ∈ allK K c ↔ ∃ k, k < c ∧ z ∈ idsT (K k)
 | 0 => ⟨fun h => by simp [allK] at h, fun ⟨k, h, _⟩ => absurd h (by omega)⟩
 | c + 1 => by
   rw [allK, mem_mrg, mem_allK K z c]
   constructor
   · rintro (⟨k, h1, h2⟩ | h)
     · exact ⟨k, by omega, h2⟩
     · exact ⟨c, by omega, h⟩
   · rintro ⟨k, h1, h2⟩
     rcases Nat.lt_or_eq_of_le (Nat.le_of_lt_succ h1) with h | h
     · exact .inl ⟨k, h, h2⟩
     · subst h; exact .inr h2
theorem lfK_iff (K : Nat → QT) : ∀ c, lfK K c = true ↔ ∀ k, k < c → isLf (K k) = true
 | 0 => ⟨fun _ k h => absurd h (by omega), fun _ => rfl⟩
 | c + 1 => by
   rw [lfK, Bool.and_eq_true, lfK_iff K c]
   constructor
   · rintro ⟨h1, h2⟩ k hk
     rcases Nat.lt_or_eq_of_le (Nat.le_of_lt_succ hk) with h | h
     · exact h1 k h
     · subst h; exact h2
   · exact fun h => ⟨fun k hk => h k (by omega), h c (by omega)⟩
def cutT (mx id : Int) : QT → QT
 | .leaf l => .leaf (l.filter (fun z => decide (z ≠ id)))
 | .node K => if lfK (fun k => cutT mx id (K k)) 4 = true ∧ ((allK (fun k => cutT mx id (K k)) 4).length : Int) ≤ mx then .leaf (allK (fun k => cutT mx id (K k)) 4) else .node (fun k => if k < 4 then cutT mx id (K k) else K k)
def setT (Q : QD) (mx : Int) : QT → Int → Int → Int → QT
 | .leaf _, x, y, s => .leaf (canL Q x y s)
 | .node K, x, y, s => if ((canL Q x y s).length : Int) ≤ mx then .leaf (canL Q x y s) else .node (fun k => if k < 4 then setT Q mx (K k) (kX x (s / 2) k) (kY y (s / 2) k) (s / 2) else K k)
theorem setT_lf {Q : QD} {mx x y s : Int} : ∀ {t : QT}, isLf (setT Q mx t x y s) = true → idsT (setT Q mx t x y s) = canL Q x y s
 | .leaf _, _ => rfl
 | .node _, h => by
   unfold setT at h ⊢
   split at h
   · rw [if_pos (by assumption)]; rfl
   · exact absurd h (by simp [isLf])
theorem setT_small {Q : QD} {mx x y s : Int} (h : ((canL Q x y s).length : Int) ≤ mx) : ∀ (t : QT), isLf (setT Q mx t x y s) = true
 | .leaf _ => rfl
 | .node _ => by unfold setT; rw [if_pos h]; rfl
def evT : QT → Int → Prop
 | .leaf _, _ => True
 | .node K, s => s = 2 * (s / 2) ∧ ∀ k, k < 4 → evT (K k) (s / 2)
theorem ev_of : ∀ (d : Nat) (t : QT) (e : Int), dpB d t → evT t (2 ^ d * e)
 | _, .leaf _, _, _ => trivial
 | 0, .node _, _, h => by cases h
 | d + 1, .node K, e, h => by
   have h1 : (2 : Int) ^ (d + 1) * e = 2 * (2 ^ d * e) := by rw [Int.pow_succ]; grind
   refine ⟨by omega, fun k hk => ?_⟩
   rw [show (2 : Int) ^ (d + 1) * e / 2 = 2 ^ d * e by omega]
   exact ev_of d (K k) e (h k hk)
theorem canL_mem {Q : QD} {x y s z : Int} : z ∈ canL Q x y s ↔ ∃ i, i < Q.m ∧ hitQ Q x y s i = true ∧ z = Q.I i := by
 unfold canL idL flQ
 simp only [List.mem_map, List.mem_filter, List.mem_range]
 constructor
 · rintro ⟨i, ⟨h1, h2⟩, h3⟩
   exact ⟨i, h1, h2, h3.symm⟩
 · rintro ⟨i, h1, h2, h3⟩
   exact ⟨i, ⟨h1, h2⟩, h3.symm⟩
theorem canL_kid {Q : QD} {x y s : Int} (hs : 0 ≤ s) {k : Nat} (hk : k < 4) : (canL Q (kX x (s / 2) k) (kY y (s / 2) k) (s / 2)).length ≤ (canL Q x y s).length := by
 unfold canL idL
 rw [List.length_map, List.length_map, ← fl_kid hs hk]
 exact List.length_filter_le _ _
theorem cutT_setT {Q : QD} {j : Nat} (mx : Int) (hr : riseI Q) (hj : j < Q.m) (hac : ∀ i, i < Q.m → (Q.S i).1 ≤ (Q.S i).2.2.1) : ∀ (t : QT) (x y s : Int), 0 ≤ s → evT t s → rtT Q t x y s = true → cutT mx (Q.I j) t = setT (delQ Q j) mx t x y s
 | .leaf l, x, y, s, _, _, h => by
   have h1 : l = canL Q x y s := of_decide_eq_true h
   unfold cutT setT
   rw [canL_del hr hj, h1]
 | .node K, x, y, s, hs, he, h => by
   obtain ⟨he1, he2⟩ := he
   have hk : ∀ k, k < 4 → cutT mx (Q.I j) (K k) = setT (delQ Q j) mx (K k) (kX x (s / 2) k) (kY y (s / 2) k) (s / 2) := fun k hk => cutT_setT mx hr hj hac (K k) _ _ _ (by omega) (he2 k hk) ((List.all_eq_true.1 h) k (List.mem_range.2 hk))
   have hlf : lfK (fun k => cutT mx (Q.I j) (K k)) 4 = true → allK (fun k => cutT mx (Q.I j) (K k)) 4 = canL (delQ Q j) x y s := fun hl => by
     have hl2 := (lfK_iff _ 4).1 hl
     refine up_ext _ _ (up_allK _ 4) (canL_up (rise_del hr hj) x y s) fun z => ?_
     rw [mem_allK, canL_mem]
     have hid : ∀ k, k < 4 → idsT (cutT mx (Q.I j) (K k)) = canL (delQ Q j) (kX x (s / 2) k) (kY y (s / 2) k) (s / 2) := fun k h4 => by
       have := hl2 k h4
       simp only [hk k h4] at this ⊢
       exact setT_lf this
     constructor
     · rintro ⟨k, h4, hz⟩
       simp only [hid k h4] at hz
       obtain ⟨i, h1, h2, h3⟩ := canL_mem.1 hz
       exact ⟨i, h1, hit_kid hs h4 h2, h3⟩
     · rintro ⟨i, h1, h2, h3⟩
       have hm : i < Q.m - 1 := h1
       have hacd : ((delQ Q j).S i).1 ≤ ((delQ Q j).S i).2.2.1 := by
         by_cases hij : i < j
         · rw [(delQ_lt hij).2]; exact hac i (by omega)
         · rw [(delQ_ge (by omega)).2]; exact hac (i + 1) (by omega)
       obtain ⟨k, h4, h5⟩ := hit_some hacd hs he1 h2
       refine ⟨k, h4, ?_⟩
       simp only [hid k h4]
       exact canL_mem.2 ⟨i, h1, h5, h3⟩
   have hnode : (fun k => if k < 4 then cutT mx (Q.I j) (K k) else K k) = (fun k => if k < 4 then setT (delQ Q j) mx (K k) (kX x (s / 2) k) (kY y (s / 2) k) (s / 2) else K k) := funext fun k => by
     by_cases h4 : k < 4
     · rw [if_pos h4, if_pos h4, hk k h4]
     · rw [if_neg h4, if_neg h4]
   unfold cutT setT
   by_cases hc : ((canL (delQ Q j) x y s).length : Int) ≤ mx
   · have hl : lfK (fun k => cutT mx (Q.I j) (K k)) 4 = true := (lfK_iff _ 4).2 fun k h4 => by
       show isLf (cutT mx (Q.I j) (K k)) = true
       rw [hk k h4]
       have := canL_kid (Q := delQ Q j) (x := x) (y := y) hs h4
       exact setT_small (by omega) _
     rw [if_pos ⟨hl, by rw [hlf hl]; exact hc⟩, if_pos hc, hlf hl]
   · rw [if_neg (fun e => hc (by rw [← hlf e.1]; exact e.2)), if_neg hc, hnode]
theorem catW_mono {f g : Nat → List WB} {c : Nat} (h : ∀ k, k < c → (f k).length ≤ (g k).length) : (catW f c).length ≤ (catW g c).length := by
 induction c with
 | zero => exact Nat.le_refl _
 | succ c ih =>
   rw [catW, catW, List.length_append, List.length_append]
   have := ih fun k hk => h k (by omega)
   have := h c (by omega)
   omega
theorem cut_len (mx id : Int) : ∀ (t : QT) (x y s : Int), (wrT (cutT mx id t) x y s).length ≤ (wrT t x y s).length
 | .leaf l, x, y, s => Nat.le_refl _
 | .node K, x, y, s => by
   unfold cutT
   split
   · exact wrT_pos (.node K) x y s
   · unfold wrT
     rw [List.length_cons, List.length_cons]
     refine Nat.succ_le_succ (catW_mono fun k hk => ?_)
     simp only [if_pos hk]
     exact cut_len mx id (K k) _ _ _
theorem tr_len (Q : QD) : ∀ (d at_ : Nat) (x y s : Int) (e : Nat), mrd Q d at_ x y s = some e → at_ + (wrT (trQ Q d at_ x y s) x y s).length = e
 | 0, at_, x, y, s, e, h => by
   unfold mrd at h
   split at h
   · cases h; rfl
   · cases h
 | d + 1, at_, x, y, s, e, h => by
   unfold mrd at h
   unfold trQ
   split at h
   · by_cases hT : Q.T at_ = true
     · rw [if_pos hT] at h ⊢
       split at h
       · have hc : ∀ c e', kp (fun a x y => mrd Q d a x y (s / 2)) (at_ + 1) x y (s / 2) c = some e' → at_ + 1 + (catW (fun k => wrT (trQ Q d ((kp (fun a x y => mrd Q d a x y (s / 2)) (at_ + 1) x y (s / 2) k).getD 0) (kX x (s / 2) k) (kY y (s / 2) k) (s / 2)) (kX x (s / 2) k) (kY y (s / 2) k) (s / 2)) c).length = e' := by
           intro c
           induction c with
           | zero => intro e' h'; cases h'; rfl
           | succ c ih =>
             intro e' h'
             obtain ⟨a', h1, h2⟩ := Option.bind_eq_some_iff.1 h'
             have e1 := ih a' h1
             have e2 := tr_len Q d a' _ _ _ e' h2
             rw [catW, List.length_append, h1]
             simp only [Option.getD_some]
             omega
         have h5 := hc 4 e h
         rw [Nat.add_assoc, Nat.add_comm 1] at h5
         unfold wrT
         rw [List.length_cons]
         exact h5
       · cases h
     · rw [if_neg hT] at h ⊢
       cases h; rfl
   · cases h
theorem takeMore {w : World} {base c : Nat} {v : Value} {L : List Int} {y : Int} (h : w.ownsRow base 2 1 v (c + 1) ((L.map (Value.int .i64)).take c ++ [.int .i64 y])) (hy : L[c]? = some y) : w.ownsRow base 2 1 v (c + 1) ((L.map (Value.int .i64)).take (c + 1)) := by
 rw [List.take_add_one, List.getElem?_map, hy]
 exact h
set_option maxRecDepth 100000 in
set_option maxHeartbeats 4000000 in
theorem l7WithP_any (ao : Option Addr) (cap : Nat) (A B L : List Int) (x : Int) (hL : L = A ++ x :: B) (hm : L.length ≤ 1048576) (hA : ∀ z ∈ A, z < x) (hB0 : ∀ z ∈ B, x < z) (w : World) (hS : NoIn w ao L.length (fun i => L.getD i 0)) : Calls Try.prog 63 #[.slice ao L.length cap, .int .i64 x] w (fun r w' => ∃ v, r = .returned v ∧ w'.ownsRow w.heap.size 2 1 v L.length (L.map (Value.int .i64)) ∧ Below w.heap.size w w') := by
 obtain ⟨i0, hi, hz0, hz1, hz2⟩ := info_parts Try.infoNo
 have HA : Hid (∀ z ∈ A, z < x) := hA
 have HB0 : Hid (∀ z ∈ B, x < z) := hB0
 have HL : Hid (L = A ++ x :: B) := hL
 have hAB : A.length < L.length := by rw [hL]; simp
 obtain ⟨m, hmm⟩ : ∃ m, L.length = m := ⟨_, rfl⟩
 have HS : Hid (NoIn w ao m (fun i => L.getD i 0)) := by rw [← hmm]; exact hS
 have HM : Hid (L.length = m) := hmm
 rw [hmm] at hm hAB ⊢
 clear hA hB0 hS hmm hL
 have hmI : (m : Int) ≤ 1048576 := by omega
 have HO0 : (w.alloc (.cells #[] 2)).ownsRow w.heap.size 2 1 (.slice (some ⟨w.heap.size, 0, none⟩) 0 0) 0 [] := World.ownsRow_made w #[] 0 (Nat.le_refl _) (by decide) rfl
 have HBB : Below w.heap.size w (w.alloc (.cells #[] 2)) := (Below.refl _ w).alloc (Nat.le_refl _) _
 go_enter Try.func63, Try.ntmps63
 go_wp2_with fail
 go_loopw [5, 6, 7] (fun o d i wr => ∃ c : Nat, c ≤ m ∧ i = .int .i64 c ∧ d = .bool (decide (A.length < c)) ∧ wr.ownsRow w.heap.size 2 1 o c ((L.map (Value.int .i64)).take c) ∧ Below w.heap.size w wr) (fun _ _ i _ => m - (intOf i).toNat)
 case atStart => exact ⟨0, by omega, rfl, by simp, HO0, HBB⟩
 case round =>
   clear HO0 HBB
   obtain ⟨c, hc, rfl, rfl, HO, HB⟩ := hrel
   by_cases hcm : c < m
   · obtain ⟨A1, off, rfl, hA, hcell⟩ := HS.out.step HB c hcm
     have hcI : (c : Int) < m := by omega
     obtain ⟨y, hy⟩ : ∃ y, L[c]? = some y := ⟨_, List.getElem?_eq_getElem (by rw [HM.out]; exact hcm)⟩
     have hgd : L.getD c 0 = y := by rw [List.getD_eq_getElem?_getD, hy]; rfl
     have HY : Hid (L[c]? = some y) := hy
     replace hcell : wr.cell? ⟨A1, off + c, none⟩ = some (.int .i64 y) := by rw [← hgd]; exact hcell
     clear hgd hy
     rcases Nat.lt_trichotomy c A.length with h1 | h1 | h1
     · have hd : decide (A.length < c) = false := decide_eq_false (by omega)
       have hx : y < x := HA.out y (by have h := HY.out; rw [HL.out, List.getElem?_append_left h1] at h; exact List.mem_of_getElem? h)
       have hne : ¬ (y = x) := by omega
       rw [hd]
       clear hd
       go_wp2_with (at_builtin; refine wpList_append_own _ rfl _ _ 53 rfl w.heap.size 2 i0 (.int .i64 0) 1 8 Try.underlying53 hi hz0 hz1 hz2 rfl (by decide) _ _ _ rfl (ownA_step HO ((Below.refl _ _).alloc (Nat.le_refl _) _)) ⟨wr.heap.size, 0, none⟩ 1 1 [.int .i64 (y)] rfl rfl (cell_one_new _ _ _) (one_cellQ _) (by unfold maxLen; omega) (by omega) (by have := HB.size; simp; omega) ?_)
       intro v1 w1 hown1 hgrow1 _
       have HBN : Below w.heap.size w w1 := (HB.alloc HB.size _).grown hgrow1 (by have := HB.size; simp; omega) (fun k hk => (HO.lt k hk).1)
       have HN := takeMore hown1 HY.out
       clear HO HB hown1 hgrow1 hcell hx hne
       go_wp2
       go_roundw
       case rel => exact ⟨c + 1, by omega, by go_num, congrArg Value.bool (decide_eq_false (by omega)).symm, HN, HBN⟩
       case measure => simp [intOf]; omega
     · have hd : decide (A.length < c) = false := decide_eq_false (by omega)
       obtain rfl : y = x := by
         have h := HY.out
         rw [HL.out, h1, List.getElem?_append_right (Nat.le_refl _)] at h
         simpa using h.symm
       have H1 : Hid (c = A.length) := h1
       rw [hd]
       clear hd h1
       go_wp2_with (at_builtin; refine wpList_append_own _ rfl _ _ 53 rfl w.heap.size 2 i0 (.int .i64 0) 1 8 Try.underlying53 hi hz0 hz1 hz2 rfl (by decide) _ _ _ rfl (ownA_step HO ((Below.refl _ _).alloc (Nat.le_refl _) _)) ⟨wr.heap.size, 0, none⟩ 1 1 [.int .i64 (y)] rfl rfl (cell_one_new _ _ _) (one_cellQ _) (by unfold maxLen; omega) (by omega) (by have := HB.size; simp; omega) ?_)
       intro v1 w1 hown1 hgrow1 _
       have HBN : Below w.heap.size w w1 := (HB.alloc HB.size _).grown hgrow1 (by have := HB.size; simp; omega) (fun k hk => (HO.lt k hk).1)
       have HN := takeMore hown1 HY.out
       clear HO HB hown1 hgrow1
       have hcell1 : w1.cell? ⟨A1, off + c, none⟩ = some (.int .i64 y) := by
         obtain ⟨A', off', e', _, hc'⟩ := HS.out.step HBN c hcm
         cases e'
         rw [hc']
         show some (Value.int _ (L.getD c 0)) = _
         rw [List.getD_eq_getElem?_getD, HY.out]
         rfl
       clear hcell
       go_wp2
       go_roundw
       case rel => exact ⟨c + 1, by omega, by go_num, congrArg Value.bool (decide_eq_true (by have := H1.out; omega)).symm, HN, HBN⟩
       case measure => simp [intOf]; omega
     · have hd : decide (A.length < c) = true := decide_eq_true h1
       have hx : x < y := HB0.out y (by
         have h := HY.out
         rw [HL.out, List.getElem?_append_right (by omega)] at h
         obtain ⟨e, he⟩ : ∃ e, c - A.length = e + 1 := ⟨c - A.length - 1, by omega⟩
         rw [he, List.getElem?_cons_succ] at h
         exact List.mem_of_getElem? h)
       have hne : ¬ (y = x) := by omega
       rw [hd]
       clear hd
       go_wp2_with (at_builtin; refine wpList_append_own _ rfl _ _ 53 rfl w.heap.size 2 i0 (.int .i64 0) 1 8 Try.underlying53 hi hz0 hz1 hz2 rfl (by decide) _ _ _ rfl (ownA_step HO ((Below.refl _ _).alloc (Nat.le_refl _) _)) ⟨wr.heap.size, 0, none⟩ 1 1 [.int .i64 (y)] rfl rfl (cell_one_new _ _ _) (one_cellQ _) (by unfold maxLen; omega) (by omega) (by have := HB.size; simp; omega) ?_)
       intro v1 w1 hown1 hgrow1 _
       have HBN : Below w.heap.size w w1 := (HB.alloc HB.size _).grown hgrow1 (by have := HB.size; simp; omega) (fun k hk => (HO.lt k hk).1)
       have HN := takeMore hown1 HY.out
       clear HO HB hown1 hgrow1 hcell hx hne
       go_wp2
       go_roundw
       case rel => exact ⟨c + 1, by omega, by go_num, congrArg Value.bool (decide_eq_true (by omega)).symm, HN, HBN⟩
       case measure => simp [intOf]; omega
   · obtain rfl : c = m := by omega
     have hd : decide (A.length < c) = true := decide_eq_true hAB
     have HF : Hid (wr.ownsRow w.heap.size 2 1 u5 c (L.map (Value.int .i64))) := by
       show wr.ownsRow _ _ _ _ _ _
       rw [List.take_of_length_le (by rw [List.length_map, HM.out]; exact Nat.le_refl _)] at HO
       exact HO
     rw [hd]
     clear hd HO
     go_wp2
     go_ret
     exact ⟨_, rfl, HF.out, HB⟩
theorem up_parts {n : Int} : ∀ {l : List Int}, upL l → n ∈ l → l = l.filter (fun z => decide (z < n)) ++ n :: l.filter (fun z => decide (n < z))
 | l, h, hn => by
   refine up_ext _ _ h (up_withL n h) fun z => ?_
   show z ∈ l ↔ z ∈ withL l n
   rw [mem_withL]
   exact ⟨.inl, fun e => e.elim id fun e => e ▸ hn⟩
theorem up_parts0 {n : Int} : ∀ {l : List Int}, upL l → n ∉ l → l = l.filter (fun z => decide (z < n)) ++ l.filter (fun z => decide (n < z))
 | [], _, _ => rfl
 | a :: l, h, hn => by
   obtain ⟨h1, h2⟩ := List.pairwise_cons.1 h
   rw [List.mem_cons, not_or] at hn
   rcases Int.lt_trichotomy a n with e | e | e
   · rw [List.filter_cons_of_pos (p := fun z => decide (z < n)) (decide_eq_true e), List.filter_cons_of_neg (p := fun z => decide (n < z)) (by simp; omega), List.cons_append, ← up_parts0 h2 hn.2]
   · exact absurd e.symm hn.1
   · have e1 : (a :: l).filter (fun z => decide (z < n)) = [] := List.filter_eq_nil_iff.2 fun z hz => by
       rcases List.mem_cons.1 hz with rfl | hz
       · simp; omega
       · have := h1 z hz; simp; omega
     have e2 : (a :: l).filter (fun z => decide (n < z)) = a :: l := List.filter_eq_self.2 fun z hz => by
       rcases List.mem_cons.1 hz with rfl | hz
       · exact decide_eq_true e
       · have := h1 z hz; exact decide_eq_true (by omega)
     rw [e1, e2]
     rfl
theorem l7With_up (ao : Option Addr) (cap : Nat) (l : List Int) (n : Int) (hu : upL l) (hm : l.length ≤ 1048576) (w : World) (hS : NoIn w ao l.length (fun i => l.getD i 0)) : Calls Try.prog 63 #[.slice ao l.length cap, .int .i64 n] w (fun r w' => ∃ v, r = .returned v ∧ w'.ownsRow w.heap.size 2 1 v (withL l n).length ((withL l n).map (Value.int .i64)) ∧ Below w.heap.size w w') := by
 by_cases hn : n ∈ l
 · have e : withL l n = l := (up_parts hu hn).symm
   rw [e]
   exact l7WithP_any ao cap _ _ l n (up_parts hu hn) hm (fun z hz => of_decide_eq_true (List.mem_filter.1 hz).2) (fun z hz => of_decide_eq_true (List.mem_filter.1 hz).2) w hS
 · have e := up_parts0 hu hn
   have C := l7WithL_any ao cap (l.filter (fun z => decide (z < n))) (l.filter (fun z => decide (n < z))) n (by rw [← e]; exact hm) (fun z hz => of_decide_eq_true (List.mem_filter.1 hz).2) (fun z hz => of_decide_eq_true (List.mem_filter.1 hz).2) w (by rw [← e]; exact hS)
   rw [← e] at C
   exact C
def fltC (l : List Int) (id : Int) (c : Nat) : List Int := (l.take c).filter (fun z => decide (z ≠ id))
theorem fltC_len (l : List Int) (id : Int) (c : Nat) : (fltC l id c).length ≤ c := Nat.le_trans (List.length_filter_le _ _) (by rw [List.length_take]; omega)
theorem fltC_on {l : List Int} {id y : Int} {c : Nat} (hy : l[c]? = some y) (h : ¬ (y = id)) : fltC l id (c + 1) = fltC l id c ++ [y] := by
 unfold fltC
 rw [List.take_add_one, hy, List.filter_append]
 simp [h]
theorem fltC_off {l : List Int} {id y : Int} {c : Nat} (hy : l[c]? = some y) (h : y = id) : fltC l id (c + 1) = fltC l id c := by
 unfold fltC
 rw [List.take_add_one, hy, List.filter_append]
 simp [h]
set_option maxRecDepth 100000 in
set_option maxHeartbeats 16000000 in
theorem l13Cut_leaf (x y s mx id : Int) (l : List Int) (hl : l.length ≤ 1048576) (eo : Option Addr) (ec : Nat) (w : World) (hN : NoIn w eo l.length (fun i => l.getD i 0)) : Calls Try.prog 47 #[.agg #[.int .i64 x, .int .i64 y, .int .i64 s, .slice none 0 0, .slice eo l.length ec], .int .i64 id, .int .i64 mx] w (fun r w' => ∃ eo1 en1 ec1, r = .returned (.agg #[.int .i64 x, .int .i64 y, .int .i64 s, .slice none 0 0, .slice eo1 en1 ec1]) ∧ IdV (fun b => w.heap.size ≤ b) w' (.slice eo1 en1 ec1) (l.filter (fun z => decide (z ≠ id))) ∧ Below w.heap.size w w') := by
 obtain ⟨i0, hi, hz0, hz1, hz2⟩ := info_parts Try.infoNo
 obtain ⟨n, hn⟩ : ∃ n, l.length = n := ⟨_, rfl⟩
 have HS : Hid (NoIn w eo n (fun i => l.getD i 0)) := by rw [← hn]; exact hN
 have HM : Hid (l.length = n) := hn
 rw [hn] at hl ⊢
 clear hN hn
 have hnI : (n : Int) ≤ 1048576 := by omega
 have B0 : Blk ((w.alloc (.cells #[.int .i64 x, .int .i64 y, .int .i64 s, .slice none 0 0, .slice eo n ec] 64)).alloc (.cells #[.int .i64 0, .int .i64 0, .int .i64 0, .slice none 0 0, .slice none 0 0] 64)) w.heap.size [.int .i64 x, .int .i64 y, .int .i64 s, .slice none 0 0, .slice eo n ec] := (Blk.new w [.int .i64 x, .int .i64 y, .int .i64 s, .slice none 0 0, .slice eo n ec] 64 rfl).alloc _
 have B2 : Blk ((w.alloc (.cells #[.int .i64 x, .int .i64 y, .int .i64 s, .slice none 0 0, .slice eo n ec] 64)).alloc (.cells #[.int .i64 0, .int .i64 0, .int .i64 0, .slice none 0 0, .slice none 0 0] 64)) (w.heap.size + 1) [.int .i64 0, .int .i64 0, .int .i64 0, .slice none 0 0, .slice none 0 0] := Blk.new (w.alloc (.cells #[.int .i64 x, .int .i64 y, .int .i64 s, .slice none 0 0, .slice eo n ec] 64)) [.int .i64 0, .int .i64 0, .int .i64 0, .slice none 0 0, .slice none 0 0] 64 (by simp)
 have HB : Below w.heap.size w ((w.alloc (.cells #[.int .i64 x, .int .i64 y, .int .i64 s, .slice none 0 0, .slice eo n ec] 64)).alloc (.cells #[.int .i64 0, .int .i64 0, .int .i64 0, .slice none 0 0, .slice none 0 0] 64)) := ((Below.refl _ w).alloc (Nat.le_refl _) _).alloc (by simp) _
 go_enter Try.func47, Try.ntmps47
 go_upto_region 1 with fail
 generalize ((w.alloc (.cells #[.int .i64 x, .int .i64 y, .int .i64 s, .slice none 0 0, .slice eo n ec] 64)).alloc (.cells #[.int .i64 0, .int .i64 0, .int .i64 0, .slice none 0 0, .slice none 0 0] 64)) = W1 at *
 have hsz : w.heap.size + 1 < W1.heap.size := B2.lt
 have HO0 : (W1.alloc (.cells #[] 2)).ownsRow (w.heap.size + 2) 2 1 (.slice (some ⟨W1.heap.size, 0, none⟩) 0 0) 0 [] := ownQ_mono2 (World.ownsRow_made W1 #[] 0 (Nat.le_refl _) (by decide) rfl) (by omega)
 have m3 := B0.c 3 rfl
 go_upto_region 3 with fail
 clear m3
 replace B0 := B0.alloc (.cells #[] 2)
 replace B2 := B2.alloc (.cells #[] 2)
 replace HB := HB.alloc (by omega) (.cells #[] 2)
 generalize (W1.alloc (.cells #[] 2)) = W3 at *
 go_wp2_with fail
 go_loopw [7, 8] (fun o i wr => ∃ c : Nat, c ≤ n ∧ i = .int .i64 c ∧ wr.ownsRow (w.heap.size + 2) 2 1 o (fltC l id c).length ((fltC l id c).map (Value.int .i64)) ∧ Blk wr w.heap.size [.int .i64 x, .int .i64 y, .int .i64 s, .slice none 0 0, .slice eo n ec] ∧ Blk wr (w.heap.size + 1) [.int .i64 0, .int .i64 0, .int .i64 0, .slice none 0 0, .slice none 0 0] ∧ Below w.heap.size w wr) (fun _ i _ => n - (intOf i).toNat)
 case atStart => exact ⟨0, by omega, rfl, HO0, B0, B2, HB⟩
 case round =>
   clear HO0 HB B0 B2
   obtain ⟨c, hc, rfl, HO, B0, B2, HB⟩ := hrel
   have hwl := fltC_len l id c
   have hsw : w.heap.size + 1 < wr.heap.size := B2.lt
   obtain ⟨n1, hn1⟩ : ∃ n1, (fltC l id c).length = n1 := ⟨_, rfl⟩
   have HN1 : Hid ((fltC l id c).length = n1) := hn1
   rw [hn1] at HO hwl
   clear hn1
   by_cases hcm : c < n
   · obtain ⟨A1, off, rfl, hA, hcell⟩ := HS.out.step HB c hcm
     have hcI : (c : Int) < n := by omega
     obtain ⟨z, hz⟩ : ∃ z, l[c]? = some z := ⟨_, List.getElem?_eq_getElem (by rw [HM.out]; exact hcm)⟩
     have hgd : l.getD c 0 = z := by rw [List.getD_eq_getElem?_getD, hz]; rfl
     have HY : Hid (l[c]? = some z) := hz
     replace hcell : wr.cell? ⟨A1, off + c, none⟩ = some (.int .i64 z) := by rw [← hgd]; exact hcell
     clear hgd hz
     have m4 := B0.c 4 rfl
     by_cases hne : z = id
     · subst hne
       have HN : Hid (wr.ownsRow (w.heap.size + 2) 2 1 u7 (fltC l z (c + 1)).length ((fltC l z (c + 1)).map (Value.int .i64))) := by
         show wr.ownsRow _ _ _ _ _ _
         rw [fltC_off HY.out rfl, HN1.out]
         exact HO
       clear HO
       go_wp2
       go_roundw
       case rel => exact ⟨c + 1, by omega, by go_num, HN.out, B0, B2, HB⟩
       case measure => simp [intOf]; omega
     · go_wp2_with (at_builtin; refine wpList_append_own _ rfl _ _ 53 rfl (w.heap.size + 2) 2 i0 (.int .i64 0) 1 8 Try.underlying53 hi hz0 hz1 hz2 rfl (by decide) _ _ _ rfl (ownA_step HO ((Below.refl _ _).alloc (Nat.le_refl _) _)) ⟨wr.heap.size, 0, none⟩ 1 1 [.int .i64 (z)] rfl rfl (cell_one_new _ _ _) (one_cellQ _) (by unfold maxLen; omega) (by omega) (by have := HB.size; simp; omega) ?_)
       intro v1 w1 hown1 hgrow1 _
       have hgb : ∀ b, b < w.heap.size + 2 → w1.heap[b]? = wr.heap[b]? := fun b hb => (hgrow1.block b (by simp; omega) (fun e => by have := (HO.lt b e.symm).1; omega)).trans (((Below.refl _ wr).alloc (Nat.le_refl _) _).block b (by omega))
       have hgs : wr.heap.size ≤ w1.heap.size := by have := hgrow1.size; simp at this; omega
       have HBN : Below w.heap.size w w1 := (HB.alloc (by omega) _).grown hgrow1 (by simp; omega) (fun k hk => by have := (HO.lt k hk).1; omega)
       have HN := intsMore (M := fltC l id (c + 1)) hown1 HN1.out (fltC_on HY.out hne)
       replace B0 := B0.keep hgs (hgb _ (by omega))
       replace B2 := B2.keep hgs (hgb _ (by omega))
       clear HO HB hown1 hgrow1 hcell hne m4 hgb hgs
       go_wp2
       go_roundw
       case rel => exact ⟨c + 1, by omega, by go_num, HN, B0, B2, HBN⟩
       case measure => simp [intOf]; omega
   · obtain rfl : c = n := by omega
     have HF0 : Hid (fltC l id c = l.filter (fun z => decide (z ≠ id))) := by
       show _ = _
       unfold fltC
       rw [List.take_of_length_le (by rw [HM.out]; exact Nat.le_refl _)]
     obtain ⟨eo1, ec1, rfl⟩ := ownQ_slice HO
     have hI : IdV (fun b => w.heap.size + 2 ≤ b) wr (.slice eo1 n1 ec1) (fltC l id c) := IdV.of (by rw [HN1.out]; exact HO)
     have B0N : Blk (wr.setCell ⟨w.heap.size, 4, none⟩ (.slice eo1 n1 ec1)) w.heap.size [.int .i64 x, .int .i64 y, .int .i64 s, .slice none 0 0, .slice eo1 n1 ec1] := B0.setI 4 (by simp) _
     have B2N : Blk (wr.setCell ⟨w.heap.size, 4, none⟩ (.slice eo1 n1 ec1)) (w.heap.size + 1) [.int .i64 0, .int .i64 0, .int .i64 0, .slice none 0 0, .slice none 0 0] := B2.keep (by simp [World.setCell]) (Below.heap_setCell _ _ _ _ (by show w.heap.size + 1 ≠ w.heap.size; omega))
     have HBN : Below w.heap.size w (wr.setCell ⟨w.heap.size, 4, none⟩ (.slice eo1 n1 ec1)) := HB.setCell (Nat.le_refl _) _
     have hIN : IdV (fun b => w.heap.size + 2 ≤ b) (wr.setCell ⟨w.heap.size, 4, none⟩ (.slice eo1 n1 ec1)) (.slice eo1 n1 ec1) (fltC l id c) := hI.keep (by simp [World.setCell]) (fun b hb _ => Below.heap_setCell _ _ _ _ (by show b ≠ w.heap.size; omega)) (fun _ h _ => h)
     have m0 := B0.c 0 rfl; have m1 := B0.c 1 rfl; have m2 := B0.c 2 rfl; have m3 := B0.c 3 rfl; have m4 := B0.c 4 rfl; have y0 := B0.f 0 rfl; have y1 := B0.f 1 rfl; have y2 := B0.f 2 rfl; have y3 := B0.f 3 rfl; have y4 := B0.f 4 rfl
     clear hI HO
     go_upto_region 9 with fail
     clear m0 m1 m2 m3 m4 y0 y1 y2 y3 y4 B0 B2 HB
     generalize (wr.setCell ⟨w.heap.size, 4, none⟩ (.slice eo1 n1 ec1)) = W4 at *
     have m0 := B0N.c 0 rfl; have m1 := B0N.c 1 rfl; have m2 := B0N.c 2 rfl; have m3 := B0N.c 3 rfl; have m4 := B0N.c 4 rfl; have y0 := B2N.f 0 rfl; have y1 := B2N.f 1 rfl; have y2 := B2N.f 2 rfl; have y3 := B2N.f 3 rfl; have y4 := B2N.f 4 rfl; have z0 := B2N.c 0 rfl; have z1 := B2N.c 1 rfl; have z2 := B2N.c 2 rfl; have z3 := B2N.c 3 rfl; have z4 := B2N.c 4 rfl
     have BF := set5_blk B2N (.int .i64 x) (.int .i64 y) (.int .i64 s) (.slice none 0 0) (.slice eo1 n1 ec1)
     have HF := set5_below HBN (show w.heap.size ≤ w.heap.size + 1 by omega) (.int .i64 x) (.int .i64 y) (.int .i64 s) (.slice none 0 0) (.slice eo1 n1 ec1)
     have HI9 : Hid (IdV (fun b => w.heap.size ≤ b) (((((W4.setCell ⟨w.heap.size + 1, 0, none⟩ (.int .i64 x)).setCell ⟨w.heap.size + 1, 1, none⟩ (.int .i64 y)).setCell ⟨w.heap.size + 1, 2, none⟩ (.int .i64 s)).setCell ⟨w.heap.size + 1, 3, none⟩ (.slice none 0 0)).setCell ⟨w.heap.size + 1, 4, none⟩ (.slice eo1 n1 ec1)) (.slice eo1 n1 ec1) (fltC l id c)) := hIN.keep (by simp [World.setCell]) (fun b hb _ => set5_heap (by show b ≠ w.heap.size + 1; omega)) (fun b hb _ => by omega)
     clear hIN
     go_wp2
     have r0 := BF.out.c 0 rfl; have r1 := BF.out.c 1 rfl; have r2 := BF.out.c 2 rfl; have r3 := BF.out.c 3 rfl; have r4 := BF.out.c 4 rfl
     refine bodyPost_ret (v := .agg #[.int .i64 x, .int .i64 y, .int .i64 s, .slice none 0 0, .slice eo1 n1 ec1]) (by simp [results, Try.results47, go_sem, r0, r1, r2, r3, r4]) rfl ?_
     exact ⟨eo1, n1, ec1, rfl, by rw [← HF0.out]; exact HI9.out, HF⟩
end Go.Proofs.Ytjhapeidafbncaa
