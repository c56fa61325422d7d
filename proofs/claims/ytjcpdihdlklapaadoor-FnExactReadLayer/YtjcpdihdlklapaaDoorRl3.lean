/- Part 3 of the walks that the proof leans on. -/
import Derived.Test.YtjcpdihdlklapaaDoorRl2
import Derived.Test.YtjcpdihdlklapaaDoorRl1
import Derived.Deep.RegionHeld3
import Derived.Deep.RegionWith
import Derived.Lib.Bytealg
import Derived.WalkLawsBesides
import Derived.Lib.Strings
namespace Go.Proofs.YtjcpdihdlklapaaDoor
open Go.RowKit
structure TdJ (W wr : World) (g n : Nat) (xs zs : List Int) (k : Nat) (c : Int) : Prop where
 len : zs.length = n
 dig : Dig zs
 c0 : 0 ≤ c
 c1 : c < 10
 eq : val (xs.drop k) = 10 * val (zs.drop k) + c
 own : wr.ownsRow g 79 1 (.slice (some ⟨g, 0, none⟩) n n) n (zs.map (Value.int .u32))
 below : Below g W wr
theorem TdJ.start {W w1 : World} {g n : Nat} {xs : List Int} (hx : xs.length = n) (hg : g = W.heap.size) (hown : w1.ownsRow g 79 1 (.slice (some ⟨g, 0, none⟩) n n) n (madeCells #[Value.int .u32 0] n).toList) (hgrow : W.grownBy w1 none) : TdJ W w1 g n xs (List.replicate n 0) n 0 := by
 subst hg
 refine ⟨by simp, fun d hd => by rw [List.eq_of_mem_replicate hd]; decide, by omega, by omega, ?_, ?_, (Below.refl _ _).grown hgrow (Nat.le_refl _) (by simp)⟩
 · rw [← hx, List.drop_length, List.drop_eq_nil_of_le (by simp)]; rfl
 · rw [made_one] at hown
   simpa using hown
theorem TdJ.cell {W wr : World} {g n : Nat} {xs zs : List Int} {k : Nat} {c : Int} (h : TdJ W wr g n xs zs k c) (j : Nat) (hj : j < zs.length) : wr.cell? ⟨g, j, none⟩ = some (.int .u32 zs[j]) ∧ wr.frozen? ⟨g, j, none⟩ = false := by
 refine ⟨?_, h.own.frozenAt j⟩
 rw [h.own.cellAt j (by rw [← h.len]; omega)]
 simp [hj]
theorem TdJ.step {W wr : World} {g n : Nat} {xs zs : List Int} {m : Nat} {c : Int} (h : TdJ W wr g n xs zs (m + 1) c) (hm : m < xs.length) (hz : m < zs.length) (hd : Dig xs) (t : Int) (ht : t = xs[m] + c * 4294967296) :
   TdJ W (wr.setCell ⟨g, m, none⟩ (.int .u32 (t / 10))) g n xs (zs.set m (t / 10)) m (t % 10) := by
 obtain ⟨o1, o2⟩ := h.own.stored m (.int .u32 (t / 10))
 have hb := dig_at hd m hm
 have h0 := h.c0
 have h1 := h.c1
 refine ⟨by simpa using h.len, dig_set h.dig _ (by omega) (by omega), by omega, by omega, ?_, ?_, h.below.setCell (Nat.le_refl _) _⟩
 · rw [List.drop_eq_getElem_cons hm, List.drop_eq_getElem_cons (show m < (zs.set m (t / 10)).length by simpa using hz), List.getElem_set_self, List.drop_set_of_lt (by omega)]
   simp only [val]
   rw [h.eq]
   omega
 · have : (zs.map (Value.int .u32)).set m (.int .u32 (t / 10)) = (zs.set m (t / 10)).map (Value.int .u32) := by rw [List.map_set]
   rw [← this]; exact o1
theorem conv1 (c : Nat) (T : TypeId) (w : World) : (convert 68 9 (.slice (some ⟨w.heap.size, 0, none⟩) 1 1)).run Tryd.prog (w.alloc (.cells #[.int .u8 (48 + (c : Int))] T)) = .ok (.string (strL [48 + c])) (w.alloc (.cells #[.int .u8 (48 + (c : Int))] T)) := by
 rw [show 48 + (c : Int) = ((48 + c : Nat) : Int) by omega]
 exact run_convert_bytes_arg (P := Tryd.prog) _ 68 5 Tryd.underlying68 Tryd.underlying5 w.heap.size 0 1 1 [((48 + c : Nat) : Int)] rfl (fun i hi => by
   obtain rfl : i = 0 := by omega
   exact (Blk.new w [.int .u8 ((48 + c : Nat) : Int)] T rfl).c 0 rfl) 9 Tryd.underlying9
theorem dg_short {ds : List Int} {v k : Nat} (hd : Dig ds) (hl : ds.length ≤ k) (hv : val ds = (v : Int)) : (dg v).length ≤ 32 * k := by
 refine dg_len (32 * k) v ?_
 have h1 := val_lt hd
 rw [hv, pw_two] at h1
 have h2 : v < 2 ^ (32 * ds.length) := by omega
 have h3 : 2 ^ (32 * ds.length) ≤ 2 ^ (32 * k) := Nat.pow_le_pow_right (by omega) (by omega)
 have h4 : 2 ^ (32 * k) ≤ 10 ^ (32 * k) := Nat.pow_le_pow_left (by omega) _
 omega
def strLen : Value → Nat
 | .string b => b.size
 | _ => 0
structure LtI (w wr : World) (v : Nat) (vs : List Value) (ao : Option Addr) (n : Nat) (ds : List Int) (ts : List Nat) : Prop where
 len : ds.length = n
 nrm : Nrm ds
 rd : Rd wr ao ds
 fit : n ≤ 1000000
 eq : dg v = dg (val ds).toNat ++ ts
 blk : Blk wr w.heap.size vs
 below : Below w.heap.size w wr
theorem LtI.less {w wr : World} {v : Nat} {vs : List Value} {ao : Option Addr} {n : Nat} {ds : List Int} {ts : List Nat} (h : LtI w wr v vs ao n ds ts) (hn : 0 < n) : ts.length < (dg v).length := by
 have h1 : 0 < val ds := nrm_pos h.nrm (by intro h2; have := h.len; rw [h2] at this; simp at this; omega)
 have h2 := dg_ne (n := (val ds).toNat) (by omega)
 have h3 : 0 < (dg (val ds).toNat).length := List.length_pos_iff.2 h2
 rw [h.eq, List.length_append]
 omega
theorem LtI.done {w wr : World} {v : Nat} {vs : List Value} {ao : Option Addr} {ds : List Int} {ts : List Nat} (h : LtI w wr v vs ao 0 ds ts) : ts = dg v := by
 have h1 : ds = [] := List.length_eq_zero_iff.1 h.len
 have h2 := h.eq
 rw [h1] at h2
 rw [h2, show (val []).toNat = 0 from rfl, dg_zero]; rfl
theorem LtI.next {w wo wr w3 : World} {v : Nat} {vs : List Value} {ao ao' : Option Addr} {n n' : Nat} {ds zs ds' : List Int} {ts : List Nat} {c : Nat} {o : Obj} (h : LtI w wo v vs ao n ds ts) (hn : 0 < n) (hc : c < 10) (hJ : TdJ wo wr wo.heap.size n ds zs 0 c) (hB : Below (wr.alloc o).heap.size (wr.alloc o) w3)
   (k1 : ds'.length = n') (k3 : n' ≤ n) (k4 : Nrm ds') (k5 : val ds' = val zs) (k7 : Rd w3 ao' ds') : LtI w w3 v vs ao' n' ds' ((48 + c) :: ts) := by
 have h1 : 0 < val ds := nrm_pos h.nrm (by intro h2; have := h.len; rw [h2] at this; simp at this; omega)
 have h2 := hJ.eq
 simp only [List.drop_zero] at h2
 have h3 := val_nonneg hJ.dig
 have b1 : Below w.heap.size w wr := h.below.trans (hJ.below.mono h.below.size)
 have b2 : Below w.heap.size w (wr.alloc o) := b1.alloc b1.size _
 refine ⟨k1, k4, k7, by have := h.fit; omega, ?_, ((h.blk.step hJ.below).alloc _).step hB, b2.trans (hB.mono b2.size)⟩
 rw [h.eq, dg_step (n := (val ds).toNat) (by omega), k5, show (val ds).toNat / 10 = (val zs).toNat by omega, show (val ds).toNat % 10 = c by omega, List.append_assoc]
 rfl
theorem LtI.le {w wr : World} {v : Nat} {vs : List Value} {ao : Option Addr} {n : Nat} {ds : List Int} {ts : List Nat} (h : LtI w wr v vs ao n ds ts) : ts.length ≤ (dg v).length := by
 rw [h.eq, List.length_append]
 omega
set_option maxRecDepth 100000 in
set_option maxHeartbeats 2000000 in
theorem l1Text_any (s : Bool) (ao : Option Addr) (n cap : Nat) (ds : List Int) (z : Int) (k : Nat) (w : World) (h : IsNum w s ao n cap ds z k) (hk : k ≤ 1000000) :
   Calls Tryd.prog 31 #[.agg #[.bool s, .slice ao n cap]] w (VP (.string (txS z)) w) := by
 obtain ⟨i0, hi, hz0, hz1, hz2⟩ := info_parts Tryd.info88
 by_cases hz : z = 0
 · obtain rfl : n = 0 := h.zero.2 hz
   subst hz
   clear h
   have hT : Hid (txS 0 = strL [48]) := by show _ = _; unfold txS txL; rw [show (0 : Int).natAbs = 0 from rfl, dgs_zero]; rfl
   go_enter Tryd.func31, Tryd.ntmps31
   go_wp2
   go_ret
   exact ⟨by rw [hT.out]; rfl, (Below.refl _ _).alloc (Nat.le_refl _) _⟩
 · have hn0 : ((n : Int) == 0) = false := beq_eq_false_iff_ne.2 (by intro h2; exact hz (h.zero.1 (by omega)))
   have hnk := h.le
   have hv : Hid (val ds = (z.natAbs : Int)) := h.val
   have hs : Hid (s = decide (z < 0)) := h.neg
   have HI0 : LtI w (w.alloc (Obj.cells #[.bool s, .slice ao n cap] 62)) z.natAbs [.bool s, .slice ao n cap] ao n ds [] :=
     ⟨h.len, h.nrm, h.rd.below ((Below.refl _ _).alloc (Nat.le_refl _) _) (Nat.le_refl _), by omega, by rw [hv.out]; simp, Blk.new w [.bool s, .slice ao n cap] _ rfl, (Below.refl _ _).alloc (Nat.le_refl _) _⟩
   have HI : Hid (LtI w (w.alloc (Obj.cells #[.bool s, .slice ao n cap] 62)) z.natAbs [.bool s, .slice ao n cap] ao n ds []) := HI0
   have HZ : Hid (z ≠ 0) := hz
   have HL : Hid ((dg z.natAbs).length ≤ 32000000) := by
     have := dg_short h.nrm.1 (by rw [h.len]; exact hnk) h.val
     show _ ≤ _
     omega
   clear h HI0 hz
   go_enter Tryd.func31, Tryd.ntmps31
   go_wp2_with fail
   generalize (w.alloc (Obj.cells #[.bool s, .slice ao n cap] 62)) = W at *
   go_loopw [3, 4] (fun tv rv wr => ∃ (ao2 : Option Addr) (m c2 : Nat) (es : List Int) (ts : List Nat), tv = .string (strL ts) ∧ rv = .slice ao2 m c2 ∧ LtI w wr z.natAbs [.bool s, .slice ao n cap] ao2 m es ts) (fun tv _ _ => (dg z.natAbs).length - strLen tv)
   case atStart => exact ⟨ao, n, cap, ds, [], rfl, rfl, HI.out⟩
   case round =>
     clear HI
     obtain ⟨ao2, m, c2, es, ts, rfl, rfl, hI⟩ := hrel
     have HII : Hid (LtI w wr z.natAbs [.bool s, .slice ao n cap] ao2 m es ts) := hI
     have hfit := hI.fit
     have hshort : ts.length ≤ 32000000 := Nat.le_trans hI.le HL.out
     have hssz := strL_size ts
     by_cases hm : 0 < m
     · have hless : Hid (ts.length < (dg z.natAbs).length) := hI.less hm
       clear hI
       go_wp2_with (at_make; refine wpList_make_full _ rfl _ _ 60 rfl wr.heap.size 79 i0 (.int .u32 0) 1 Tryd.underlying60 hi hz0 hz1 _ _ _ _ m rfl rfl (by omega) (by omega) (by rw [hz2]; omega) (by unfold maxLen; omega) (Nat.le_refl _) ?_)
       intro w1 hown hgrow
       have HS : TdJ wr w1 wr.heap.size m es (List.replicate m 0) m 0 := TdJ.start HII.out.len rfl (by simpa using hown) hgrow
       clear hown hgrow
       go_wp2
       obtain ⟨wo, hwo⟩ : ∃ wo : World, wo = wr := ⟨_, rfl⟩
       subst hwo
       go_loopw [6, 7] (fun cv iv wx => ∃ (j : Nat) (c : Int) (zs : List Int), j ≤ m ∧ iv = .int .i64 ((j : Int) - 1) ∧ cv = .int .u64 c ∧ TdJ wo wx wo.heap.size m es zs j c) (fun _ iv _ => (intOf iv + 1).toNat)
       case atStart => exact ⟨m, 0, _, Nat.le_refl _, by go_num, rfl, HS⟩
       case round =>
         clear HS
         obtain ⟨j, c, zs, hj, rfl, rfl, hJ⟩ := hrel
         have zlen := hJ.len
         have HJ : Hid (TdJ wo wr wo.heap.size m es zs j c) := hJ
         by_cases hj0 : 0 < j
         · obtain ⟨q, rfl⟩ : ∃ q, j = q + 1 := ⟨j - 1, by omega⟩
           have hqe : q < es.length := by have := HII.out.len; omega
           have hqz : q < zs.length := by omega
           obtain ⟨bx, ox, rfl, hbx, hcx0⟩ := HII.out.rd q hqe
           obtain ⟨hx0, hx1⟩ := dig_at HII.out.nrm.1 q hqe
           have hcx := (hJ.below.cell (p := ⟨bx, ox + q, none⟩) hbx).trans hcx0
           obtain ⟨hcz, hfz⟩ := hJ.cell q hqz
           have hc0 := hJ.c0
           have hc1 := hJ.c1
           obtain ⟨x, hx⟩ : ∃ x, x = es[q] + c * 4294967296 := ⟨_, rfl⟩
           have hor : bits .or .u64 (c * 4294967296) es[q] = x := by
             have := or_hi es[q] c ⟨hx0, hx1⟩ ⟨hc0, by omega⟩
             rw [wrap_word (by omega) (by omega)] at this
             rw [hx]; exact this
           have d1 : x.tdiv 10 = x / 10 := Int.tdiv_eq_ediv_of_nonneg (by omega)
           have d2 : x.tmod 10 = x % 10 := Int.tmod_eq_emod_of_nonneg (by omega)
           have d3 : IntKind.u64.wrap (x / 10) = x / 10 := wrap_word (by omega) (by omega)
           have d4 : x / 10 % 4294967296 = x / 10 := by omega
           have R1 : Hid (TdJ wo (wr.setCell ⟨wo.heap.size, q, none⟩ (.int .u32 (x / 10))) wo.heap.size m es (zs.set q (x / 10)) q (x % 10)) := hJ.step hqe hqz HII.out.nrm.1 x hx
           have HX : Hid (x = es[q] + c * 4294967296) := hx
           have e1 : ((q + 1 : Nat) : Int) - 1 = q := by omega
           have hx2 : 0 ≤ x := by omega
           have hx3 : x < 42949672960 := by omega
           have hqm : (q : Int) < m := by omega
           rw [e1]
           clear hJ hx hcx0 e1
           go_wp2
           go_roundw
           case rel => exact ⟨q, x % 10, _, by omega, by go_num, by first | rfl | (rw [d2]), R1.out⟩
           case measure => simp [intOf]
         · obtain rfl : j = 0 := by omega
           have hc0 := hJ.c0
           have hc1 := hJ.c1
           obtain ⟨c, rfl⟩ : ∃ e : Nat, c = e := ⟨c.toNat, by omega⟩
           have hE : Hid (val es = 10 * val zs + c) := by have := hJ.eq; simp only [List.drop_zero] at this; exact this
           have hss1 := strL_size [48 + c]
           have CV := conv1 c 5 wr
           have R2 : Rd (wr.alloc (Obj.cells #[.int .u8 (48 + (c : Int))] 5)) (some ⟨wo.heap.size, 0, none⟩) zs := (Rd.own hJ.own hJ.len).below ((Below.refl _ _).alloc (Nat.le_refl _) _) (Nat.le_refl _)
           have R1 := hJ.dig
           have hc : Hid (c < 10) := by show _ < _; omega
           clear hJ
           go_wp2_with fail
           refine (trim_any false _ _ _ zs _ zlen (Nat.le_refl _) R1 R2 (by omega)).mono ?_
           rintro e w3 ⟨neg', ao', n', cap', ds', rfl, k1, k2, k3, k4, k5, k6, k7, k8⟩
           have N1 : Hid (LtI w w3 z.natAbs [.bool s, .slice ao n cap] ao' n' ds' ((48 + c) :: ts)) := HII.out.next hm hc.out HJ.out k8 k1 k3 k4 k5 k7
           have fd := field_d (.bool neg') (.slice ao' n' cap')
           have hcat : Hid (strL [48 + c] ++ strL ts = strL ((48 + c) :: ts)) := (strL_append [48 + c] ts).symm
           clear k1 k2 k3 k4 k5 k6 k7 k8 R1 R2 HJ HII CV hE
           go_wp2
           go_roundw
           case rel => exact ⟨ao', n', cap', ds', (48 + c) :: ts, by rw [hcat.out], rfl, N1.out⟩
           case measure =>
             have := hless.out
             rw [hcat.out]
             simp only [strLen, strL_size, List.length_cons]
             omega
     · obtain rfl : m = 0 := by omega
       have hd : Hid (ts = dg z.natAbs) := hI.done
       obtain ⟨b0, b1⟩ := hI.blk.cs2
       have HB := hI.below
       clear hI
       by_cases hz0 : z < 0
       · have hT : Hid (txS z = strL (45 :: ts)) := by show _ = _; unfold txS txL; rw [if_pos hz0, dgs_pos (by omega), hd.out]; rfl
         obtain rfl : s = true := by rw [hs.out]; exact decide_eq_true hz0
         clear hz0
         go_wp2
         go_ret
         exact ⟨by rw [hT.out]; exact congrArg (fun b => Ending.returned (Value.string b)) (strL_append [45] ts).symm, HB⟩
       · have hT : Hid (txS z = strL ts) := by show _ = _; unfold txS txL; rw [if_neg hz0, dgs_pos (by have := HZ.out; omega), hd.out]; rfl
         obtain rfl : s = false := by rw [hs.out]; exact decide_eq_false hz0
         clear hz0
         go_wp2
         go_ret
         exact ⟨by rw [hT.out]; rfl, HB⟩
set_option maxRecDepth 100000 in
set_option maxHeartbeats 4000000 in
theorem isShort_any (z : Int) (b : Bool) (hb : shB z = b) (w : World) : Calls Tryd.prog 46 #[.int .i64 z] w (VP (.bool b) w) := by
 subst hb
 by_cases h1 : (-999999999999999 : Int) ≤ z
 · by_cases h2 : z ≤ 999999999999999
   · have HO : Hid (shB z = true) := decide_eq_true ⟨h1, h2⟩
     go_enter Tryd.func46, Tryd.ntmps46
     go_wp2
     go_ret
     exact ⟨by rw [HO.out]; simp, Below.refl _ _⟩
   · have HO : Hid (shB z = false) := decide_eq_false fun h => h2 h.2
     go_enter Tryd.func46, Tryd.ntmps46
     go_wp2
     go_ret
     exact ⟨by rw [HO.out]; simp, Below.refl _ _⟩
 · have HO : Hid (shB z = false) := decide_eq_false fun h => h1 h.1
   go_enter Tryd.func46, Tryd.ntmps46
   go_wp2
   go_ret
   exact ⟨by rw [HO.out]; simp, Below.refl _ _⟩
set_option maxRecDepth 100000 in
set_option maxHeartbeats 4000000 in
theorem l6Short_any (z : Int) (b : Bool) (hb : shB z = b) (w : World) : Calls Tryd.prog 15 #[.int .i64 z] w (VP (.bool b) w) := by
 have C := l1In_any z (-999999999999999) 999999999999999 b hb w
 go_enter Tryd.func15, Tryd.ntmps15
 go_wp2_with fail
 refine C.mono ?_
 rintro e w1 ⟨rfl, hB⟩
 clear C
 go_wp2
 go_ret
 exact ⟨rfl, hB⟩
set_option maxRecDepth 100000 in
set_option maxHeartbeats 4000000 in
theorem l6Num_any (z : Int) (h : shB z = true) (w : World) : Calls Tryd.prog 16 #[.int .i64 z] w (VP (.string (bA (Lib.itoa z))) w) := by
 have h9 := of_decide_eq_true h
 have C := fun w => int_any z w (by omega) (by omega)
 have HT : Hid (txS z = bA (Lib.itoa z)) := txS_itoa z
 clear h h9
 go_enter Tryd.func16, Tryd.ntmps16
 go_wp2_with fail
 refine (C _).mono ?_
 rintro e w1 ⟨s, o, n, c, d, rfl, N1, hB⟩
 clear C
 go_wp2_with fail
 refine (l1Text_any s o n c d z _ _ N1 (by omega)).mono ?_
 rintro e w2 ⟨rfl, hB2⟩
 have HB := hB.trans (hB2.mono hB.size)
 clear N1 hB hB2
 rw [HT.out]
 go_wp2
 go_ret
 exact ⟨rfl, HB⟩
set_option maxRecDepth 100000 in
set_option maxHeartbeats 4000000 in
theorem countSpotsT_any (ao : Option Addr) (n cap : Nat) (S : Nat → Option Addr × Nat) (L : Nat → Nat) (q : Nat → Ps) (hn : n ≤ 6) (hL : ∀ i, i < n → L i ≤ 1048576) (w : World) (hS : RgIn w ao n S L q) : Calls Tryd.prog 43 #[.slice ao n cap] w (VP (.int .i64 (smR L n : Nat)) w) := by
 have HS : Hid (RgIn w ao n S L q) := hS
 have HL : Hid (∀ i, i < n → L i ≤ 1048576) := hL
 have hnI : (n : Int) ≤ 6 := by omega
 clear hS hL
 go_enter Tryd.func43, Tryd.ntmps43
 go_wp2_with fail
 go_loopw [3, 8] (fun s i wr => ∃ c : Nat, c ≤ n ∧ i = .int .i64 c ∧ s = .int .i64 (smR L c : Nat) ∧ Below w.heap.size w wr) (fun _ i _ => n - (intOf i).toNat)
 case atStart => exact ⟨0, by omega, rfl, rfl, Below.refl _ _⟩
 case round =>
   obtain ⟨c, hc, rfl, rfl, HB⟩ := hrel
   by_cases hcn : c < n
   · obtain ⟨A, off, rfl, hA, q0, -⟩ := HS.out.step HB c hcn
     have hcI : (c : Int) < n := by omega
     have s1 := smR_le HL.out c hc
     have s2 := HL.out c hcn
     have hw : IntKind.i64.wrap (((smR L c : Nat) : Int) + (L c : Int)) = ((smR L (c + 1) : Nat) : Int) := by rw [IntKind.wrap_i64, smR]; omega
     have HBN : Below w.heap.size w (wr.alloc (.cells #[.slice (S c).1 (L c) (S c).2] 39)) := HB.alloc HB.size _
     clear s1 s2 HB
     go_wp2
     go_roundw
     case rel => exact ⟨c + 1, by omega, by go_num, rfl, HBN⟩
     case measure => simp [intOf]; omega
   · obtain rfl : c = n := by omega
     clear HS HL
     go_wp2
     go_ret
     exact ⟨rfl, HB⟩
set_option maxRecDepth 100000 in
set_option maxHeartbeats 4000000 in
theorem fits_any (ao : Option Addr) (n cap : Nat) (S : Nat → Option Addr × Nat) (L : Nat → Nat) (q : Nat → Ps) (hn : n ≤ 1048576) (hL : ∀ i, i < n → L i ≤ 1048576) (w : World) (hS : RgIn w ao n S L q) : Calls Tryd.prog 26 #[.slice ao n cap] w (VP (.bool (decide (n ≤ 6 ∧ smR L n ≤ 20))) w) := by
 by_cases h6 : n ≤ 6
 · have C := countSpotsT_any ao n cap S L q h6 hL w hS
   have h6I : (n : Int) ≤ 6 := by omega
   have HO : Hid (decide (n ≤ 6 ∧ smR L n ≤ 20) = decide (((smR L n : Nat) : Int) ≤ 20)) := decide_eq_decide.2 ⟨fun h => by have := h.2; omega, fun h => ⟨h6, by omega⟩⟩
   clear hS hL
   obtain ⟨m, hm⟩ : ∃ m, smR L n = m := ⟨_, rfl⟩
   rw [hm] at C HO
   have HM : Hid (smR L n = m) := hm
   clear hm
   go_enter Tryd.func26, Tryd.ntmps26
   go_wp2_with fail
   refine C.mono ?_
   rintro e w1 ⟨rfl, hB⟩
   clear C
   go_wp2
   go_ret
   exact ⟨by rw [HM.out, HO.out]; rfl, hB⟩
 · have h6I : ¬ ((n : Int) ≤ 6) := by omega
   have HO : Hid (decide (n ≤ 6 ∧ smR L n ≤ 20) = false) := decide_eq_false fun h => h6 h.1
   clear hS hL
   go_enter Tryd.func26, Tryd.ntmps26
   go_wp2
   go_ret
   exact ⟨by first | rfl | (rw [HO.out]; rfl), Below.refl _ _⟩
theorem num_put {w : World} {s : Bool} {ao : Option Addr} {n cap : Nat} {ds : List Int} {z : Int} {k R : Nat} {p : Bool} {q : Option Addr} {q1 q2 : Nat} (h : IsNum w s ao n cap ds z k) (B : Blk w R [.bool p, .slice q q1 q2]) (u0 u1 : Value) : IsNum ((w.setCell ⟨R, 0, none⟩ u0).setCell ⟨R, 1, none⟩ u1) s ao n cap ds z k := by
 have h1 := h.rd.set u0 (B.c 0 rfl) (by intro x e; cases e)
 have B1 := B.setI 0 (by simp) u0
 have h2 := h1.set u1 (B1.c 1 rfl) (by intro x e; cases e)
 exact ⟨h.neg, h.len, h.cap, h2, h.nrm, h.val, h.le⟩
theorem num_more {w : World} {s : Bool} {ao : Option Addr} {n cap : Nat} {ds : List Int} {z : Int} {k k' : Nat} (h : IsNum w s ao n cap ds z k) (hk : k ≤ k') : IsNum w s ao n cap ds z k' := ⟨h.neg, h.len, h.cap, h.rd, h.nrm, h.val, Nat.le_trans h.le hk⟩
def cutM (l : List Nat) : List Nat := if l.head? = some 45 then l.tail else l
def RdOk (l : List Nat) : Prop := DecL (cutM l) ∧ (cutM l).length ≤ 77 ∧ ¬ (l.head? = some 45 ∧ cutM l = [48])
def rdI (l : List Nat) : Int := if l.head? = some 45 then -(rdN (cutM l) : Int) else (rdN (cutM l) : Int)
theorem cutM_neg {l : List Nat} (h : l.head? = some 45) : l = 45 :: cutM l := by
 unfold cutM
 rw [if_pos h]
 cases l with
 | nil => simp at h
 | cons x t => simp only [List.head?_cons, Option.some.injEq] at h; rw [h]; rfl
theorem cutM_pos {l : List Nat} (h : ¬ l.head? = some 45) : cutM l = l := by unfold cutM; rw [if_neg h]
theorem rd_tx {l : List Nat} (h : RdOk l) : txL (rdI l) = l := by
 obtain ⟨h1, h2, h3⟩ := h
 have h4 := dgs_rdN h1
 unfold txL rdI
 by_cases hn : l.head? = some 45
 · rw [if_pos hn]
   have h5 : rdN (cutM l) ≠ 0 := by
     intro h6
     rw [h6, dgs_zero] at h4
     exact h3 ⟨hn, h4.symm⟩
   rw [if_pos (by omega), Int.natAbs_neg, Int.natAbs_natCast, h4]
   exact (cutM_neg hn).symm
 · rw [if_neg hn, if_neg (by omega), Int.natAbs_natCast, h4, cutM_pos hn]
   rfl
theorem head_dgs (n : Nat) : ¬ (dgs n).head? = some 45 := by
 intro h
 have h1 := dgs_isD n 45 (List.mem_of_mem_head? h)
 unfold isD at h1
 omega
theorem tx_neg {z : Int} (h : z < 0) : txL z = 45 :: dgs z.natAbs := by unfold txL; rw [if_pos h]; rfl
theorem tx_pos {z : Int} (h : ¬ z < 0) : txL z = dgs z.natAbs := by unfold txL; rw [if_neg h]; rfl
theorem tx_rd {z : Int} (h : z.natAbs < 10 ^ 77) : RdOk (txL z) ∧ rdI (txL z) = z := by
 have h1 := dgs_dec z.natAbs
 have h2 := dgs_len (k := 77) (by omega) h
 by_cases hz : z < 0
 · have hc : cutM (txL z) = dgs z.natAbs := by unfold cutM; rw [tx_neg hz]; rfl
   have hh : (txL z).head? = some 45 := by rw [tx_neg hz]; rfl
   refine ⟨⟨by rw [hc]; exact h1, by rw [hc]; exact h2, fun h3 => ?_⟩, ?_⟩
   · rw [hc] at h3
     have h4 := congrArg rdN h3.2
     rw [rdN_dgs] at h4
     have : z.natAbs = 0 := h4
     omega
   · unfold rdI
     rw [if_pos hh, hc, rdN_dgs]
     omega
 · have hh : ¬ (txL z).head? = some 45 := by rw [tx_pos hz]; exact head_dgs _
   have hc : cutM (txL z) = dgs z.natAbs := by rw [cutM_pos hh, tx_pos hz]
   refine ⟨⟨by rw [hc]; exact h1, by rw [hc]; exact h2, fun h3 => hh h3.1⟩, ?_⟩
   unfold rdI
   rw [if_neg hh, hc, rdN_dgs]
   omega
def TestL (l : List Nat) : Prop := cutM l ≠ [] ∧ (cutM l).length ≤ 77 ∧ ¬ ((cutM l).head? = some 48 ∧ (l.head? = some 45 ∨ 1 < (cutM l).length))
theorem rdOk_iff {l : List Nat} : RdOk l ↔ TestL l ∧ ∀ b ∈ cutM l, isD b := by
 unfold RdOk TestL DecL
 constructor
 · rintro ⟨⟨h1, h2, h3⟩, h4, h5⟩
   refine ⟨⟨h1, h4, fun h => ?_⟩, h3⟩
   have h6 := h2 h.1
   rcases h.2 with h7 | h7
   · exact h5 ⟨h7, h6⟩
   · rw [h6] at h7; simp at h7
 · rintro ⟨⟨h1, h4, h5⟩, h3⟩
   refine ⟨⟨h1, fun h => ?_, h3⟩, h4, fun h => h5 ⟨by rw [h.2]; rfl, Or.inl h.1⟩⟩
   have h6 : ¬ 1 < (cutM l).length := fun h7 => h5 ⟨h, Or.inr h7⟩
   cases hc : cutM l with
   | nil => exact absurd hc h1
   | cons x t =>
     rw [hc] at h h6
     cases t with
     | nil => simp only [List.head?_cons, Option.some.injEq] at h; rw [h]
     | cons y m => simp at h6
theorem cutM_lt {l : List Nat} (h : ∀ b ∈ l, b < 256) : ∀ b ∈ cutM l, b < 256 := by
 intro b hb
 unfold cutM at hb
 split at hb
 · exact h b (List.mem_of_mem_tail hb)
 · exact h b hb
theorem cutM_len (l : List Nat) : (cutM l).length ≤ l.length := by
 unfold cutM
 split
 · rw [List.length_tail]; omega
 · exact Nat.le_refl _
theorem btL_extract (s : ByteArray) (a b : Nat) : btL (s.extract a b) = ((btL s).drop a).take (b - a) := by
 unfold btL
 rw [ByteArray.data_extract, Array.toList_extract, List.extract_eq_take_drop, List.map_take, List.map_drop]
theorem ix4 (x0 x1 x2 x3 : Int) (k : Nat) (hk : k < [x0, x1, x2, x3].length) (w : World) : (Instr.index 124 (.agg #[.int .u64 x0, .int .u64 x1, .int .u64 x2, .int .u64 x3]) (.int .i64 k)).run Tryd.prog w = .ok (.int .u64 [x0, x1, x2, x3][k]) w := by
 match k, hk with
 | 0, _ => exact (show (Instr.index 124 (.agg #[.int .u64 x0, .int .u64 x1, .int .u64 x2, .int .u64 x3]) (.int .i64 ((0 : Nat) : Int))).run Tryd.prog w = .ok (.int .u64 x0) w by kernel_rfl)
 | 1, _ => exact (show (Instr.index 124 (.agg #[.int .u64 x0, .int .u64 x1, .int .u64 x2, .int .u64 x3]) (.int .i64 ((1 : Nat) : Int))).run Tryd.prog w = .ok (.int .u64 x1) w by kernel_rfl)
 | 2, _ => exact (show (Instr.index 124 (.agg #[.int .u64 x0, .int .u64 x1, .int .u64 x2, .int .u64 x3]) (.int .i64 ((2 : Nat) : Int))).run Tryd.prog w = .ok (.int .u64 x2) w by kernel_rfl)
 | 3, _ => exact (show (Instr.index 124 (.agg #[.int .u64 x0, .int .u64 x1, .int .u64 x2, .int .u64 x3]) (.int .i64 ((3 : Nat) : Int))).run Tryd.prog w = .ok (.int .u64 x3) w by kernel_rfl)
structure TfI (xs zs : List Int) (d : Int) (k : Nat) (o : Int) : Prop where
 len : zs.length = 4
 wds : Words zs
 o0 : 0 ≤ o
 o1 : o < 10
 eq : val64 (zs.take k) + pw64 k * o = 10 * val64 (xs.take k) + d
theorem tf_start {xs : List Int} (hl : xs.length = 4) (hx : Words xs) {d : Int} (h0 : 0 ≤ d) (h1 : d < 10) : TfI xs xs d 0 d :=
 ⟨hl, hx, h0, h1, by simp [val64, pw64]⟩
theorem tf_step {xs zs : List Int} {d : Int} {k : Nat} {o : Int} (h : TfI xs zs d k o) (hk : k < xs.length) (hz : k < zs.length) (hx : Word xs[k]) (t : Int) (ht : t = xs[k] * 10 + o) : TfI xs (zs.set k (t % 18446744073709551616)) d (k + 1) (t / 18446744073709551616) := by
 obtain ⟨h1, h2, h3, h4, h5⟩ := h
 unfold Word at hx
 refine ⟨by simpa using h1, words_set h2 k ⟨by omega, by omega⟩, by omega, by omega, ?_⟩
 rw [val64_take (zs.set k (t % 18446744073709551616)) k (by simpa using hz), List.getElem_set_self, val64_take xs k hk, List.take_set_of_le (Nat.le_refl k), pw64]
 have e2 : t = t % 18446744073709551616 + 18446744073709551616 * (t / 18446744073709551616) := by omega
 generalize t / 18446744073709551616 = q at *
 generalize t % 18446744073709551616 = r at *
 generalize xs[k] = x at *
 generalize pw64 k = p at *
 generalize val64 (zs.take k) = a at *
 generalize val64 (xs.take k) = b at *
 clear h1 h2
 grind
theorem tf_arith {x o : Int} (h0 : 0 ≤ o) (h1 : o < 10) : Word (x * 10 % 18446744073709551616) ∧ Word o ∧ (x * 10 % 18446744073709551616 + o) % 18446744073709551616 = (x * 10 + o) % 18446744073709551616 ∧ x * 10 / 18446744073709551616 + (x * 10 % 18446744073709551616 + o) / 18446744073709551616 = (x * 10 + o) / 18446744073709551616 := by
 unfold Word at *
 omega
set_option maxRecDepth 100000 in
set_option maxHeartbeats 1000000 in
theorem tenfold_any (xs : List Int) (d : Int) (hl : xs.length = 4) (hx : Words xs) (h0 : 0 ≤ d) (h1 : d < 10) (hb : 10 * val64 xs + d < 115792089237316195423570985008687907853269984665640564039457584007913129639936) (w : World) : Calls Tryd.prog 85 #[agg xs, .int .u64 d] w (AggP 4 (10 * val64 xs + d) w) := by
 have HI : Hid (TfI xs xs d 0 d) := tf_start hl hx h0 h1
 have HX : Hid (Words xs) := hx
 have HL : Hid (xs.length = 4) := hl
 have HBD : Hid (10 * val64 xs + d < 115792089237316195423570985008687907853269984665640564039457584007913129639936) := hb
 obtain ⟨x0, x1, x2, x3, hxs⟩ := list4 hl
 have HA : agg xs = .agg #[.int .u64 x0, .int .u64 x1, .int .u64 x2, .int .u64 x3] := by rw [hxs]; rfl
 have AG := ix4 x0 x1 x2 x3
 rw [← hxs] at AG
 rw [HA]
 have HS : Mk w ((w.alloc (.cells #[.int .u64 x0, .int .u64 x1, .int .u64 x2, .int .u64 x3] 124)).alloc (.cells #[.int .u64 0, .int .u64 0, .int .u64 0, .int .u64 0] 124)) (w.heap.size + 1) w.heap.size (List.replicate 4 (.int .u64 0)) xs :=
   ⟨((Below.refl _ _).alloc (Nat.le_refl _) _).alloc (by simp) _, Blk.new _ [.int .u64 0, .int .u64 0, .int .u64 0, .int .u64 0] _ (by simp), by rw [hxs]; exact (Blk.new w [.int .u64 x0, .int .u64 x1, .int .u64 x2, .int .u64 x3] _ rfl).alloc _⟩
 clear hl hx HA hxs hb
 go_enter Tryd.func85, Tryd.ntmps85
 go_wp2
 generalize ((w.alloc (.cells #[.int .u64 x0, .int .u64 x1, .int .u64 x2, .int .u64 x3] 124)).alloc (.cells #[.int .u64 0, .int .u64 0, .int .u64 0, .int .u64 0] 124)) = W at *
 go_loopw [5, 13] (fun ov i wr => ∃ (k : Nat) (o : Int) (zs : List Int), k ≤ 4 ∧ i = .int .i64 k ∧ ov = .int .u64 o ∧ TfI xs zs d k o ∧ Mk w wr (w.heap.size + 1) w.heap.size (List.replicate 4 (.int .u64 0)) zs) (fun _ i _ => 4 - (intOf i).toNat)
 case atStart => exact ⟨0, d, _, by omega, rfl, rfl, HI.out, HS⟩
 case round =>
   clear HI HS h0 h1
   obtain ⟨k, o, zs, hk, rfl, rfl, hI, hM⟩ := hrel
   have hlen := hI.len
   by_cases hk4 : k < 4
   · have hkx : k < xs.length := by have := HL.out; omega
     have ag := AG k hkx
     have hz : k < zs.length := by omega
     obtain ⟨q1, q2⟩ := hM.cp k hz
     have hwx : Word xs[k] := words_at HX.out k hkx
     obtain ⟨t1, t2, t3, t4⟩ := tf_arith (x := xs[k]) hI.o0 hI.o1
     obtain ⟨hi, ehi⟩ : ∃ v, xs[k] * 10 / 18446744073709551616 = v := ⟨_, rfl⟩
     obtain ⟨lo, elo⟩ : ∃ v, xs[k] * 10 % 18446744073709551616 = v := ⟨_, rfl⟩
     have M1 := mul64d xs[k] 10 hi lo hwx ⟨by decide, by decide⟩ ehi elo
     rw [elo] at t1 t3 t4
     rw [ehi] at t4
     obtain ⟨n1, en1⟩ : ∃ v, (lo + o) % 18446744073709551616 = v := ⟨_, rfl⟩
     obtain ⟨c1, ec1⟩ : ∃ v, (lo + o) / 18446744073709551616 = v := ⟨_, rfl⟩
     have A1 := add64d lo o n1 c1 t1 t2 en1 ec1
     have R1 := tf_step hI hkx hz hwx _ rfl
     rw [← t3, ← t4, en1, ec1] at R1
     have R2 : Hid (TfI xs (zs.set k n1) d (k + 1) (hi + c1)) := R1
     have d4 : 0 ≤ hi + c1 := R1.o0
     have d5 : hi + c1 < 10 := R1.o1
     have M3 : Hid (Mk w (wr.setCell ⟨w.heap.size, k, none⟩ (.int .u64 n1)) (w.heap.size + 1) w.heap.size (List.replicate 4 (.int .u64 0)) (zs.set k n1)) := hM.set (by omega) (Nat.le_refl _) k hz n1
     have hkI : (k : Int) < 4 := by omega
     clear hI hM t1 t2 t3 t4 ehi elo en1 ec1 R1 AG hwx
     go_wp2_with fail
     refine (M1 _).mono ?_
     rintro e w1 ⟨rfl, rfl⟩
     clear M1
     go_wp2
     go_roundw
     case rel => exact ⟨k + 1, _, _, by omega, by go_num, rfl, R2.out, M3.out⟩
     case measure => simp [intOf]; omega
   · obtain rfl : k = 4 := by omega
     have HV := hI.eq
     have HW := hI.wds
     have ho0 := hI.o0
     obtain ⟨z0, z1, z2, z3, rfl⟩ := list4 hlen
     obtain ⟨c0, f0⟩ := hM.cp 0 (by simp)
     obtain ⟨c1, f1⟩ := hM.cp 1 (by simp)
     obtain ⟨c2, f2⟩ := hM.cp 2 (by simp)
     obtain ⟨c3, f3⟩ := hM.cp 3 (by simp)
     have d0 := hM.r.c 0 rfl; have e0 := hM.r.f 0 rfl
     have d1 := hM.r.c 1 rfl; have e1 := hM.r.f 1 rfl
     have d2 := hM.r.c 2 rfl; have e2 := hM.r.f 2 rfl
     have d3 := hM.r.c 3 rfl; have e3 := hM.r.f 3 rfl
     have HB := hM.below
     simp only [List.getElem_cons_zero, List.getElem_cons_succ] at c0 c1 c2 c3
     have HV2 : Hid (val64 [z0, z1, z2, z3] = 10 * val64 xs + d) := by
       show _ = _
       rw [List.take_of_length_le (by simp), List.take_of_length_le (by rw [HL.out]; omega), show pw64 4 = 115792089237316195423570985008687907853269984665640564039457584007913129639936 by decide] at HV
       have h8 := val64_nonneg HW
       have h9 := HBD.out
       omega
     clear hI hM hlen HV ho0
     go_wp2
     refine bodyPost_ret (v := .agg #[.int .u64 z0, .int .u64 z1, .int .u64 z2, .int .u64 z3]) (by simp [results, Tryd.results85, go_sem, d0, d1, d2, d3]) rfl ?_
     refine ⟨[z0, z1, z2, z3], rfl, rfl, HW, HV2.out, ?_⟩
     repeat' (refine Below.setCell ?_ (by simp) _)
     exact HB
def bt (s : ByteArray) (i : Nat) : Nat := (s.data.toList.getD i 0).toNat
theorem bt_at {s : ByteArray} {i : Nat} (h : i < s.size) : s[i].toNat = bt s i := by
 have h2 : i < s.data.size := h
 show (s.data[i]).toNat = _
 unfold bt
 rw [List.getD_eq_getElem?_getD, Array.getElem?_toList, Array.getElem?_eq_getElem h2]; rfl
theorem bt_lt (s : ByteArray) (i : Nat) : bt s i < 256 := UInt8.toNat_lt _
def nine (t : List Nat) (s : ByteArray) : Bool := decide (s.size = 9) && (List.range 9).all fun i => decide (bt s i ∈ t)
def Bytes (ts : ByteArray) (t : List Nat) : Prop := ∀ n : Nat, n < 256 → (0 ≤ Lib.indexByte ts.data.toList (Int.toNat (n : Int)).toUInt8 ↔ n ∈ t)
theorem tl_data (s : ByteArray) : s.toList = s.data.toList := Lib.toList_data s
theorem tl_btL (s : ByteArray) : btL s = s.toList.map UInt8.toNat := by rw [tl_data]; rfl
theorem btL_getQ {s : ByteArray} {i : Nat} (h : i < s.size) : (btL s)[i]? = some (bt s i) := by
 have h2 : i < s.data.toList.length := h
 unfold btL bt
 rw [List.getElem?_map, List.getD_eq_getElem?_getD, List.getElem?_eq_getElem h2]
 rfl
theorem btL_get {s : ByteArray} {i : Nat} (h : i < (btL s).length) : (btL s)[i] = bt s i := (List.getElem?_eq_some_iff.1 (btL_getQ (by rw [btL_len] at h; exact h))).2
theorem tl_nil {s : ByteArray} : s.toList = [] ↔ btL s = [] := by rw [tl_btL, List.map_eq_nil_iff]
theorem tl_one {s : ByteArray} (c : UInt8) : s.toList = [c] ↔ btL s = [c.toNat] := by
 rw [tl_btL]
 constructor
 · intro h; rw [h]; rfl
 · intro h
   cases hl : s.toList with
   | nil => rw [hl] at h; simp at h
   | cons x l =>
     rw [hl] at h
     cases l with
     | nil => simp only [List.map_cons, List.map_nil, List.cons.injEq, and_true] at h; rw [UInt8.toNat_inj.1 h]
     | cons y m => simp at h
theorem btL_head {s : ByteArray} (h : 0 < s.size) : (btL s).head? = some (bt s 0) := by
 have h2 : 0 < (btL s).length := by rw [btL_len]; exact h
 rw [List.head?_eq_getElem?, List.getElem?_eq_getElem h2, btL_get h2]
theorem btL_mem {s : ByteArray} {P : Nat → Prop} : (∀ b ∈ btL s, P b) ↔ ∀ j, j < s.size → P (bt s j) := by
 rw [← btL_len]
 constructor
 · intro h j hj
   rw [← btL_get hj]
   exact h _ (List.getElem_mem hj)
 · intro h b hb
   obtain ⟨j, hj, rfl⟩ := List.getElem_of_mem hb
   rw [btL_get hj]
   exact h j hj
set_option maxRecDepth 100000 in
set_option maxHeartbeats 1000000 in
theorem isDecimal_any (s : ByteArray) (hm : s.size ≤ 9223372036854775807) (b : Bool) (hb : b = true ↔ DecL (btL s)) (w : World) : Calls Tryd.prog 84 #[.string s] w (VP (.bool b) w) := by
 have HB : Hid (b = true ↔ DecL (btL s)) := hb
 clear hb
 by_cases h0 : s.toList = []
 · obtain rfl : b = false := by
     cases b
     · rfl
     · exact absurd (tl_nil.1 h0) (HB.out.1 rfl).1
   have e1 : s.toList.isEmpty = true := by rw [h0]; rfl
   clear h0
   go_enter Tryd.func84, Tryd.ntmps84
   go_wp2
   go_ret
   exact ⟨rfl, Below.refl _ _⟩
 · have e1 : s.toList.isEmpty = false := by rw [List.isEmpty_eq_false_iff]; exact h0
   have hs : 0 < s.size := by
     rcases Nat.eq_zero_or_pos s.size with h | h
     · exact absurd (tl_nil.2 (List.length_eq_zero_iff.1 (by rw [btL_len]; exact h))) h0
     · exact h
   have hbt := bt_at hs
   have hlt := bt_lt s 0
   by_cases hz : bt s 0 = 48 ∧ ¬ s.toList = [48]
   · obtain ⟨hz0, hz1⟩ := hz
     obtain rfl : b = false := by
       cases b
       · rfl
       · exact absurd ((HB.out.1 rfl).2.1 (by rw [btL_head hs, hz0])) (fun h => hz1 ((tl_one 48).2 h))
     rw [hz0] at hbt
     have e2 : (s.toList == [48]) = false := beq_eq_false_iff_ne.2 hz1
     clear h0 hz1
     go_enter Tryd.func84, Tryd.ntmps84
     go_wp2
     go_ret
     exact ⟨rfl, Below.refl _ _⟩
   · have HZ : Hid ((btL s).head? = some 48 → btL s = [48]) := by
       intro h
       rw [btL_head hs] at h
       have h2 : bt s 0 = 48 := by simpa using h
       exact (tl_one 48).1 (Classical.byContradiction fun h3 => hz ⟨h2, h3⟩)
     have hcase : (bt s 0 = 48 ∧ s.toList = [48]) ∨ ¬ bt s 0 = 48 := by
       by_cases h2 : bt s 0 = 48
       · exact Or.inl ⟨h2, Classical.byContradiction fun h3 => hz ⟨h2, h3⟩⟩
       · exact Or.inr h2
     clear hz
     rcases hcase with ⟨h2, h3⟩ | h2
     · have hb0 : ((bt s 0 : Int) == 48) = true := by rw [h2]; rfl
       have e2 : (s.toList == [48]) = true := beq_iff_eq.2 h3
       have H0 : Hid (¬ s.toList = []) := h0
       clear h2 h3 h0
       go_enter Tryd.func84, Tryd.ntmps84
       go_wp2
       go_loop [17] (fun i => ∃ c : Nat, c ≤ s.size ∧ i = .int .i64 c ∧ ∀ j, j < c → isD (bt s j)) (fun i => s.size - (intOf i).toNat)
       case atStart => exact ⟨0, by omega, rfl, fun j hj => by omega⟩
       case round =>
         obtain ⟨c, hc, rfl, hI⟩ := hrel
         have HI : Hid (∀ j, j < c → isD (bt s j)) := hI
         clear hI hbt hlt
         by_cases hcs : c < s.size
         · have hbt := bt_at hcs
           have hlt := bt_lt s c
           have hcI : (c : Int) < s.size := by omega
           by_cases hd : isD (bt s c)
           · obtain ⟨hd1, hd2⟩ := hd
             have hd3 : ¬ ((bt s c : Int) < 48) := by omega
             have hd4 : ¬ ((57 : Int) < (bt s c : Int)) := by omega
             go_wp2
             go_round
             case rel => exact ⟨c + 1, by omega, by go_num, fun j hj => by
               by_cases e : j = c
               · rw [e]; exact ⟨hd1, hd2⟩
               · exact HI.out j (by omega)⟩
             case measure => simp [intOf]; omega
           · obtain rfl : b = false := by
               cases b
               · rfl
               · exact absurd (btL_mem.1 (HB.out.1 rfl).2.2 c hcs) hd
             by_cases hd1 : 48 ≤ bt s c
             · have hd3 : ¬ ((bt s c : Int) < 48) := by omega
               have hd4 : (57 : Int) < (bt s c : Int) := by unfold isD at hd; omega
               clear hd
               go_wp2
               go_ret
               exact ⟨rfl, Below.refl _ _⟩
             · have hd3 : (bt s c : Int) < 48 := by omega
               clear hd
               go_wp2
               go_ret
               exact ⟨rfl, Below.refl _ _⟩
         · obtain rfl : c = s.size := by omega
           obtain rfl : b = true := HB.out.2 ⟨fun h => H0.out (tl_nil.2 h), HZ.out, btL_mem.2 HI.out⟩
           go_wp2
           go_ret
           exact ⟨rfl, Below.refl _ _⟩
     · have hb0 : ((bt s 0 : Int) == 48) = false := beq_eq_false_iff_ne.2 (by omega)
       have H0 : Hid (¬ s.toList = []) := h0
       clear h2 h0
       go_enter Tryd.func84, Tryd.ntmps84
       go_wp2
       go_loop [17] (fun i => ∃ c : Nat, c ≤ s.size ∧ i = .int .i64 c ∧ ∀ j, j < c → isD (bt s j)) (fun i => s.size - (intOf i).toNat)
       case atStart => exact ⟨0, by omega, rfl, fun j hj => by omega⟩
       case round =>
         obtain ⟨c, hc, rfl, hI⟩ := hrel
         have HI : Hid (∀ j, j < c → isD (bt s j)) := hI
         clear hI hbt hlt
         by_cases hcs : c < s.size
         · have hbt := bt_at hcs
           have hlt := bt_lt s c
           have hcI : (c : Int) < s.size := by omega
           by_cases hd : isD (bt s c)
           · obtain ⟨hd1, hd2⟩ := hd
             have hd3 : ¬ ((bt s c : Int) < 48) := by omega
             have hd4 : ¬ ((57 : Int) < (bt s c : Int)) := by omega
             go_wp2
             go_round
             case rel => exact ⟨c + 1, by omega, by go_num, fun j hj => by
               by_cases e : j = c
               · rw [e]; exact ⟨hd1, hd2⟩
               · exact HI.out j (by omega)⟩
             case measure => simp [intOf]; omega
           · obtain rfl : b = false := by
               cases b
               · rfl
               · exact absurd (btL_mem.1 (HB.out.1 rfl).2.2 c hcs) hd
             by_cases hd1 : 48 ≤ bt s c
             · have hd3 : ¬ ((bt s c : Int) < 48) := by omega
               have hd4 : (57 : Int) < (bt s c : Int) := by unfold isD at hd; omega
               clear hd
               go_wp2
               go_ret
               exact ⟨rfl, Below.refl _ _⟩
             · have hd3 : (bt s c : Int) < 48 := by omega
               clear hd
               go_wp2
               go_ret
               exact ⟨rfl, Below.refl _ _⟩
         · obtain rfl : c = s.size := by omega
           obtain rfl : b = true := HB.out.2 ⟨fun h => H0.out (tl_nil.2 h), HZ.out, btL_mem.2 HI.out⟩
           go_wp2
           go_ret
           exact ⟨rfl, Below.refl _ _⟩
theorem ex_head {s : ByteArray} (hs : 0 < s.size) : ((s.extract 0 1).toList == [45]) = decide ((btL s).head? = some 45) := by
 rw [Bool.eq_iff_iff, beq_iff_eq, decide_eq_true_iff, tl_one, btL_extract]
 have h : 0 < (btL s).length := by rw [btL_len]; exact hs
 cases hl : btL s with
 | nil => rw [hl] at h; simp at h
 | cons x t => simp
theorem ex_tail {s : ByteArray} (h : (btL s).head? = some 45) : s.extract 1 s.size = strL (cutM (btL s)) := by
 rw [← strL_btL (s.extract 1 s.size), btL_extract, ← btL_len]
 congr 1
 unfold cutM
 rw [if_pos h, List.drop_one, List.take_of_length_le (by simp)]
set_option maxRecDepth 100000 in
set_option maxHeartbeats 1000000 in
theorem cutPre_any (s : ByteArray) (hm : s.size ≤ 9223372036854775807) (b : Bool) (hb : b = decide ((btL s).head? = some 45)) (w : World) : Calls Tryd.prog 83 #[.string s, .string ⟨#[45]⟩] w (VP (.tuple #[.string (strL (cutM (btL s))), .bool b]) w) := by
 by_cases h : (btL s).head? = some 45
 · obtain rfl : b = true := by rw [hb]; exact decide_eq_true h
   have hs : 0 < s.size := by
     rw [← btL_len]
     cases hl : btL s with
     | nil => rw [hl] at h; simp at h
     | cons x t => simp
   have e1 := ex_head hs
   rw [← hb] at e1
   have e2 := ex_tail h
   have hs1 : (1 : Int) ≤ s.size := by omega
   clear h hb
   go_enter Tryd.func83, Tryd.ntmps83
   go_wp2
   refine bodyPost_ret (v := .tuple #[.string (strL (cutM (btL s))), .bool true]) (by simp [results, Tryd.results83, go_sem]) rfl ?_
   exact ⟨rfl, Below.refl _ _⟩
 · obtain rfl : b = false := by rw [hb]; exact decide_eq_false h
   have e2 : Hid (strL (cutM (btL s)) = s) := by show _ = _; rw [cutM_pos h, strL_btL]
   rw [e2.out]
   clear e2
   by_cases hs : 0 < s.size
   · have e1 := ex_head hs
     rw [← hb] at e1
     have hs1 : (1 : Int) ≤ s.size := by omega
     clear h hb
     go_enter Tryd.func83, Tryd.ntmps83
     go_wp2
     refine bodyPost_ret (v := .tuple #[.string s, .bool false]) (by simp [results, Tryd.results83, go_sem]) rfl ?_
     exact ⟨rfl, Below.refl _ _⟩
   · have hs1 : ¬ (1 : Int) ≤ s.size := by omega
     clear h hb
     go_enter Tryd.func83, Tryd.ntmps83
     go_wp2
     refine bodyPost_ret (v := .tuple #[.string s, .bool false]) (by simp [results, Tryd.results83, go_sem]) rfl ?_
     exact ⟨rfl, Below.refl _ _⟩
noncomputable def rdV (l : List Nat) : Value := @ite _ (RdOk l) (Classical.propDecidable _) (tellV (rdI l)) (.tuple #[W4 0, .bool false])
theorem rdV_yes {l : List Nat} (h : RdOk l) : rdV l = tellV (rdI l) := by unfold rdV; rw [if_pos h]
theorem rdV_no {l : List Nat} (h : ¬ RdOk l) : rdV l = .tuple #[W4 0, .bool false] := by unfold rdV; rw [if_neg h]
structure RwI (w wr : World) (g : Nat) (zs : List Int) (n : Nat) : Prop where
 below : Below w.heap.size w wr
 br : Blk wr w.heap.size [.int .u64 0, .int .u64 0, .int .u64 0, .int .u64 0]
 bs : Blk wr g (zs.map (Value.int .u64))
 zl : zs.length = 4
 zw : Words zs
 gl : w.heap.size < g
 eq : val64 zs = (n : Int)
theorem RwI.drew {w wr : World} {g : Nat} {zs : List Int} {n : Nat} (h : RwI w wr g zs n) : RwI w wr.drew g zs n := ⟨h.below.drew, h.br, h.bs, h.zl, h.zw, h.gl, h.eq⟩
theorem RwI.next {w wr w1 : World} {g : Nat} {zs ys : List Int} {n m : Nat} (h : RwI w wr g zs n) (hB : Below wr.heap.size wr w1) {y0 y1 y2 y3 : Int} (hy : ys = [y0, y1, y2, y3]) (yw : Words ys) (yv : val64 ys = (m : Int)) :
   RwI w ((((w1.setCell ⟨g, 0, none⟩ (.int .u64 y0)).setCell ⟨g, 1, none⟩ (.int .u64 y1)).setCell ⟨g, 2, none⟩ (.int .u64 y2)).setCell ⟨g, 3, none⟩ (.int .u64 y3)) g ys m := by
 have hgl := h.gl
 have B1 := h.below.trans (hB.mono h.below.size)
 have BS := h.bs.step hB
 obtain ⟨z0, z1, z2, z3, hz⟩ := list4 h.zl
 rw [hz] at BS
 refine ⟨tell_below B1 (by omega), (h.br.step hB).set4 (by omega), ?_, by rw [hy]; rfl, yw, hgl, yv⟩
 rw [hy]
 exact Blk.stored4g BS _ _ _ _
theorem tellV_form (z : Int) : ∃ y3 y2 y1 y0 b, tellV z = .tuple #[.agg #[.int .u64 y3, .int .u64 y2, .int .u64 y1, .int .u64 y0], .bool b] := by
 unfold tellV
 split <;> exact ⟨_, _, _, _, _, rfl⟩
set_option maxRecDepth 100000 in
set_option maxHeartbeats 2000000 in
theorem implRead_any (s : ByteArray) (hm : s.size ≤ 9223372036854775807) (w : World) : Calls Tryd.prog 71 #[.string s] w (VP (rdV (btL s)) w) := by
 have CC := cutPre_any s hm _ rfl
 obtain ⟨u, hu⟩ : ∃ u, u = strL (cutM (btL s)) := ⟨_, rfl⟩
 have hul : btL u = cutM (btL s) := by
   rw [hu]
   refine btL_strL fun b hb => btL_lt s b ?_
   unfold cutM at hb
   split at hb
   · exact List.mem_of_mem_tail hb
   · exact hb
 have hus : u.size ≤ 9223372036854775807 := by
   rw [← btL_len, hul]
   have h2 := btL_len s
   unfold cutM
   split
   · rw [List.length_tail]; omega
   · omega
 have CD := fun b hb => isDecimal_any u hus b hb
 rw [← hu] at CC
 have HU : Hid (btL u = cutM (btL s)) := hul
 have HB0 : Hid (Below w.heap.size w (w.alloc (Obj.cells #[.int .u64 0, .int .u64 0, .int .u64 0, .int .u64 0] 111))) := (Below.refl _ _).alloc (Nat.le_refl _) _
 have BR0 : Hid (Blk (w.alloc (Obj.cells #[.int .u64 0, .int .u64 0, .int .u64 0, .int .u64 0] 111)) w.heap.size [.int .u64 0, .int .u64 0, .int .u64 0, .int .u64 0]) := Blk.new w [.int .u64 0, .int .u64 0, .int .u64 0, .int .u64 0] _ rfl
 clear hul hu hm
 by_cases hok : RdOk (btL s)
 · obtain ⟨h1, h2, h3⟩ := hok
   have HR : Hid (rdV (btL s) = tellV (rdI (btL s))) := rdV_yes ⟨h1, h2, h3⟩
   have CD1 := CD true (by rw [HU.out]; exact ⟨fun _ => h1, fun _ => rfl⟩)
   have hl77 : u.size ≤ 77 := by rw [← btL_len, HU.out]; exact h2
   have hl77' : ¬ ((77 : Int) < u.size) := by omega
   obtain ⟨b, hb⟩ : ∃ b, b = decide ((btL s).head? = some 45) := ⟨_, rfl⟩
   rw [← hb] at CC
   have e1 : (b && (u.toList == [48])) = false := by
     cases b
     · rfl
     · simp only [Bool.true_and]
       refine beq_eq_false_iff_ne.2 fun h => h3 ⟨of_decide_eq_true hb.symm, ?_⟩
       rw [← HU.out]
       exact (tl_one 48).1 h
   have HD : Hid (DecL (cutM (btL s))) := h1
   have HBB : Hid (b = decide ((btL s).head? = some 45)) := hb
   clear h1 h2 h3 CD hb
   go_enter Tryd.func71, Tryd.ntmps71
   go_wp2_with fail
   generalize (w.alloc (Obj.cells #[.int .u64 0, .int .u64 0, .int .u64 0, .int .u64 0] 111)) = W0 at *
   refine (CC _).mono ?_
   rintro e w1 ⟨rfl, hB⟩
   have BR1 := BR0.out.step hB
   have HB1 := HB0.out.trans (hB.mono HB0.out.size)
   clear BR0 HB0 hB CC
   go_upto_region 2 with fail
   go_cut [28] (fun p wx => p = .bool false ∧ Blk wx w.heap.size [.int .u64 0, .int .u64 0, .int .u64 0, .int .u64 0] ∧ Below w.heap.size w wx)
   case first =>
     cases b
     · go_wp2_with fail
       refine (CD1 _).mono ?_
       rintro e w2 ⟨rfl, hB⟩
       have BR2 := BR1.step hB
       have HB2 := HB1.trans (hB.mono HB1.size)
       clear BR1 HB1 hB CD1
       go_wp2
       go_meet
       exact ⟨congrArg Value.bool (decide_eq_false (by omega)), BR2, HB2⟩
     · simp only [Bool.true_and] at e1
       go_wp2_with fail
       refine (CD1 _).mono ?_
       rintro e w2 ⟨rfl, hB⟩
       have BR2 := BR1.step hB
       have HB2 := HB1.trans (hB.mono HB1.size)
       clear BR1 HB1 hB CD1
       go_wp2
       go_meet
       exact ⟨congrArg Value.bool (decide_eq_false (by omega)), BR2, HB2⟩
   case rest =>
     clear BR1 HB1 CD1 e1
     obtain ⟨hp, BR2, HB2⟩ := hcut
     subst hp
     have HI0 : Hid (RwI w (wc.alloc (Obj.cells #[.int .u64 0, .int .u64 0, .int .u64 0, .int .u64 0] 124)) wc.heap.size [0, 0, 0, 0] 0) :=
       ⟨HB2.alloc HB2.size _, BR2.alloc _, Blk.new _ [.int .u64 0, .int .u64 0, .int .u64 0, .int .u64 0] _ rfl, rfl, words4 wd0 wd0 wd0 wd0, BR2.lt, rfl⟩
     clear BR2 HB2
     rename_i hk
     refine hk _ _ ?_
     go_wp2
     generalize (wc.alloc (Obj.cells #[.int .u64 0, .int .u64 0, .int .u64 0, .int .u64 0] 124)) = W1 at *
     generalize wc.heap.size = g at *
     go_loopw [32] (fun i wr => ∃ (c : Nat) (zs : List Int), c ≤ u.size ∧ i = .int .i64 c ∧ RwI w wr g zs (rdN ((btL u).take c))) (fun i _ => u.size - (intOf i).toNat)
     case atStart => exact ⟨0, _, Nat.zero_le _, rfl, HI0.out⟩
     case round =>
       clear HI0
       obtain ⟨c, zs, hc, rfl, hI⟩ := hrel
       have zl := hI.zl
       have zw := hI.zw
       have hgl := hI.gl
       obtain ⟨y0, y1, y2, y3, hy⟩ := list4 zl
       have BS := hI.bs
       rw [hy] at BS
       obtain ⟨c0, f0, c1, f1, c2, f2, c3, f3⟩ := BS.cf4
       have slt := BS.lt
       have HII : Hid (RwI w wr g zs (rdN ((btL u).take c))) := hI
       by_cases hcs : c < u.size
       · have hbt := bt_at hcs
         have hlt := bt_lt u c
         have hcI : (c : Int) < u.size := by omega
         have hdl : ∀ b ∈ btL u, isD b := by rw [HU.out]; exact HD.out.2.2
         have hcl : c < (btL u).length := by rw [btL_len]; exact hcs
         obtain ⟨hd1, hd2⟩ : isD (bt u c) := by rw [← btL_get hcl]; exact hdl _ (List.getElem_mem hcl)
         obtain ⟨d, hd⟩ : ∃ d, d = bt u c - 48 := ⟨_, rfl⟩
         have hdI : (bt u c : Int) - 48 = d := by omega
         have hnx : Hid (10 * rdN ((btL u).take c) + d = rdN ((btL u).take (c + 1))) := by show _ = _; rw [rdN_take _ _ hcl, btL_get hcl, hd]
         have hn2 : rdN ((btL u).take (c + 1)) < 10 ^ 77 := by
           have h5 := rdN_lt ((btL u).take (c + 1)) (fun b hb => hdl b (List.mem_of_mem_take hb))
           have h6 : 10 ^ ((btL u).take (c + 1)).length ≤ 10 ^ 77 := Nat.pow_le_pow_right (by omega) (by rw [List.length_take]; omega)
           omega
         have CT0 := tenfold_any zs d zl zw (by omega) (by omega) (by rw [hI.eq]; have := hnx.out; omega)
         have CT : ∀ w, Calls Tryd.prog 85 #[.agg #[.int .u64 y0, .int .u64 y1, .int .u64 y2, .int .u64 y3], .int .u64 d] w (AggP 4 ((rdN ((btL u).take (c + 1)) : Nat) : Int) w) := by
           intro w
           have := CT0 w
           rw [hI.eq, show 10 * ((rdN ((btL u).take c) : Nat) : Int) + (d : Int) = ((rdN ((btL u).take (c + 1)) : Nat) : Int) by have := hnx.out; omega, show agg zs = .agg #[.int .u64 y0, .int .u64 y1, .int .u64 y2, .int .u64 y3] by rw [hy]; rfl] at this
           exact this
         have hd9 : (d : Int) < 10 := by omega
         have hw1 : IntKind.u8.wrap (d : Int) = d := by rw [IntKind.wrap_u8]; omega
         have hw2 : IntKind.u64.wrap (d : Int) = d := wrap_word (by omega) (by omega)
         have BS0 : Hid (Blk wr.drew g [.int .u64 y0, .int .u64 y1, .int .u64 y2, .int .u64 y3]) := BS.drew
         have HJJ : Hid (RwI w wr.drew g zs (rdN ((btL u).take c))) := hI.drew
         clear hI hy CT0 hn2 hdl hd BS HII
         go_wp2
         go_region_with (go_at_call 85; refine (CT _).mono ?_; rintro e w4 ⟨xs, rfl, xl, xw, xv, hB⟩; obtain ⟨s0, s1, s2, s3, hs⟩ := list4 xl; have N1 : Hid (RwI w ((((w4.setCell ⟨g, 0, none⟩ (.int .u64 s0)).setCell ⟨g, 1, none⟩ (.int .u64 s1)).setCell ⟨g, 2, none⟩ (.int .u64 s2)).setCell ⟨g, 3, none⟩ (.int .u64 s3)) g xs (rdN ((btL u).take (c + 1)))) := HJJ.out.next hB hs xw xv; have SA : agg xs = .agg #[.int .u64 s0, .int .u64 s1, .int .u64 s2, .int .u64 s3] := (by rw [hs]; rfl); rw [SA]; obtain ⟨k0, l0, k1, l1, k2, l2, k3, l3⟩ := (show Blk w4 g [.int .u64 y0, .int .u64 y1, .int .u64 y2, .int .u64 y3] from BS0.out.step hB).cf4; have l4 := (show Blk w4 g [.int .u64 y0, .int .u64 y1, .int .u64 y2, .int .u64 y3] from BS0.out.step hB).lt; clear hB hs SA xv xw xl)
         all_goals
           go_wp2
           go_roundw
           case rel => exact ⟨c + 1, _, by omega, by go_num, N1.out⟩
           case measure => simp [intOf]; omega
       · obtain rfl : c = u.size := by omega
         have hv := hI.eq
         rw [← btL_len, List.take_length] at hv
         have h5 : rdN (btL u) < 10 ^ 77 := by
           have h5 := rdN_lt (btL u) (by rw [HU.out]; exact HD.out.2.2)
           have h6 : 10 ^ (btL u).length ≤ 10 ^ 77 := Nat.pow_le_pow_right (by omega) (by rw [btL_len]; omega)
           omega
         obtain ⟨g0, g1, g2, g3⟩ := words4_of (by rw [← hy]; exact zw)
         have hw8 : Words [y0, y1, y2, y3, 0, 0, 0, 0] := words_cons.2 ⟨g0, words_cons.2 ⟨g1, words_cons.2 ⟨g2, words_cons.2 ⟨g3, words4 wd0 wd0 wd0 wd0⟩⟩⟩⟩
         have hv8 : val64 [y0, y1, y2, y3, 0, 0, 0, 0] = (rdN (btL u) : Int) := by
           rw [← hv, hy]
           simp only [val64]
           omega
         have CS := signedL_any y0 y1 y2 y3 0 0 0 0 b hw8 (by rw [hv8]; omega)
         have ez : (if b = true then -val64 [y0, y1, y2, y3, 0, 0, 0, 0] else val64 [y0, y1, y2, y3, 0, 0, 0, 0]) = rdI (btL s) := by
           rw [hv8, HU.out, HBB.out]
           unfold rdI
           by_cases h : (btL s).head? = some 45
           · rw [if_pos h, if_pos (decide_eq_true h)]
           · rw [if_neg h, if_neg (by simpa using h)]
         rw [ez] at CS
         have BR := hI.br
         have HB := hI.below
         have BR1 := BR.alloc (Obj.cells #[.int .u64 y0, .int .u64 y1, .int .u64 y2, .int .u64 y3, .int .u64 0, .int .u64 0, .int .u64 0, .int .u64 0] 127)
         have HB1 := HB.alloc HB.size (Obj.cells #[.int .u64 y0, .int .u64 y1, .int .u64 y2, .int .u64 y3, .int .u64 0, .int .u64 0, .int .u64 0, .int .u64 0] 127)
         have BR2 : Hid (Blk (wr.alloc (Obj.cells #[.int .u64 y0, .int .u64 y1, .int .u64 y2, .int .u64 y3, .int .u64 0, .int .u64 0, .int .u64 0, .int .u64 0] 127)) w.heap.size [.int .u64 0, .int .u64 0, .int .u64 0, .int .u64 0]) := BR1
         have HB2 : Hid (Below w.heap.size w (wr.alloc (Obj.cells #[.int .u64 y0, .int .u64 y1, .int .u64 y2, .int .u64 y3, .int .u64 0, .int .u64 0, .int .u64 0, .int .u64 0] 127))) := HB1
         clear hI hv BR HB BR1 HB1 hy BS hv8 ez h5
         go_wp2_with fail
         generalize (wr.alloc (Obj.cells #[.int .u64 y0, .int .u64 y1, .int .u64 y2, .int .u64 y3, .int .u64 0, .int .u64 0, .int .u64 0, .int .u64 0] 127)) = W5 at *
         refine (CS _).mono ?_
         rintro e w6 ⟨q0, q1, q2, q3, q4, q5, q6, q7, rfl, qw, qz, hB⟩
         have BR6 := BR2.out.step hB
         have HB6 := HB2.out.trans (hB.mono HB2.out.size)
         clear BR2 HB2 hB CS c0 c1 c2 c3 f0 f1 f2 f3
         have CT := tellWide_det q0 q1 q2 q3 q4 q5 q6 q7 qw _ qz
         obtain ⟨t3, t2, t1, t0, tb, ht⟩ := tellV_form (rdI (btL s))
         have HT : Hid (tellV (rdI (btL s)) = .tuple #[.agg #[.int .u64 t3, .int .u64 t2, .int .u64 t1, .int .u64 t0], .bool tb]) := ht
         rw [ht] at CT
         go_wp2_with fail
         refine (CT _).mono ?_
         rintro e w7 ⟨rfl, hB⟩
         have BR7 := BR6.step hB
         have HB7 := HB6.trans (hB.mono HB6.size)
         clear BR6 HB6 hB CT ht
         obtain ⟨d0, e0, d1, e1, d2, e2, d3, e3⟩ := BR7.cf4
         have dl := BR7.lt
         go_wp2
         refine bodyPost_ret (v := .tuple #[.agg #[.int .u64 t3, .int .u64 t2, .int .u64 t1, .int .u64 t0], .bool tb]) (by simp [results, Tryd.results71, go_sem, d0, d1, d2, d3]) rfl ?_
         exact ⟨by rw [HR.out, HT.out], tell_below HB7 (Nat.le_refl _)⟩
 · have HR : Hid (rdV (btL s) = .tuple #[W4 0, .bool false]) := rdV_no hok
   obtain ⟨b, hb⟩ : ∃ b, b = decide ((btL s).head? = some 45) := ⟨_, rfl⟩
   rw [← hb] at CC
   by_cases h1 : DecL (cutM (btL s))
   · have CD1 := CD true (by rw [HU.out]; exact ⟨fun _ => h1, fun _ => rfl⟩)
     by_cases h2 : u.size ≤ 77
     · have h3 : (btL s).head? = some 45 ∧ cutM (btL s) = [48] := Classical.byContradiction fun h3 => hok ⟨h1, by rw [← HU.out, btL_len]; exact h2, h3⟩
       obtain rfl : b = true := by rw [hb]; exact decide_eq_true h3.1
       have e1 : (u.toList == [48]) = true := beq_iff_eq.2 ((tl_one 48).2 (by rw [HU.out]; exact h3.2))
       have e2 : ¬ ((77 : Int) < u.size) := by omega
       clear hok h1 h3 hb CD
       go_enter Tryd.func71, Tryd.ntmps71
       go_wp2_with fail
       generalize (w.alloc (Obj.cells #[.int .u64 0, .int .u64 0, .int .u64 0, .int .u64 0] 111)) = W0 at *
       refine (CC _).mono ?_
       rintro e w1 ⟨rfl, hB⟩
       have BR1 := BR0.out.step hB
       have HB1 := HB0.out.trans (hB.mono HB0.out.size)
       clear BR0 HB0 hB CC
       go_wp2_with fail
       refine (CD1 _).mono ?_
       rintro e w2 ⟨rfl, hB⟩
       have BR2 := BR1.step hB
       have HB2 := HB1.trans (hB.mono HB1.size)
       clear BR1 HB1 hB CD1
       obtain ⟨d0, e0, d1, e1, d2, e2, d3, e3⟩ := BR2.cf4
       have dl := BR2.lt
       go_wp2
       refine bodyPost_ret (v := .tuple #[.agg #[.int .u64 0, .int .u64 0, .int .u64 0, .int .u64 0], .bool false]) (by simp [results, Tryd.results71, go_sem, d0, d1, d2, d3]) rfl ?_
       exact ⟨by rw [HR.out]; rfl, tell_below HB2 (Nat.le_refl _)⟩
     · have e2 : (77 : Int) < u.size := by omega
       clear hok h1 hb CD
       go_enter Tryd.func71, Tryd.ntmps71
       go_wp2_with fail
       generalize (w.alloc (Obj.cells #[.int .u64 0, .int .u64 0, .int .u64 0, .int .u64 0] 111)) = W0 at *
       refine (CC _).mono ?_
       rintro e w1 ⟨rfl, hB⟩
       have BR1 := BR0.out.step hB
       have HB1 := HB0.out.trans (hB.mono HB0.out.size)
       clear BR0 HB0 hB CC
       go_wp2_with fail
       refine (CD1 _).mono ?_
       rintro e w2 ⟨rfl, hB⟩
       have BR2 := BR1.step hB
       have HB2 := HB1.trans (hB.mono HB1.size)
       clear BR1 HB1 hB CD1
       obtain ⟨d0, e0, d1, e1, d2, e2, d3, e3⟩ := BR2.cf4
       have dl := BR2.lt
       go_wp2
       refine bodyPost_ret (v := .tuple #[.agg #[.int .u64 0, .int .u64 0, .int .u64 0, .int .u64 0], .bool false]) (by simp [results, Tryd.results71, go_sem, d0, d1, d2, d3]) rfl ?_
       exact ⟨by rw [HR.out]; rfl, tell_below HB2 (Nat.le_refl _)⟩
   · have CD1 := CD false (by rw [HU.out]; exact ⟨fun h => Bool.noConfusion h, fun h => absurd h h1⟩)
     clear hok h1 hb CD
     go_enter Tryd.func71, Tryd.ntmps71
     go_wp2_with fail
     generalize (w.alloc (Obj.cells #[.int .u64 0, .int .u64 0, .int .u64 0, .int .u64 0] 111)) = W0 at *
     refine (CC _).mono ?_
     rintro e w1 ⟨rfl, hB⟩
     have BR1 := BR0.out.step hB
     have HB1 := HB0.out.trans (hB.mono HB0.out.size)
     clear BR0 HB0 hB CC
     go_wp2_with fail
     refine (CD1 _).mono ?_
     rintro e w2 ⟨rfl, hB⟩
     have BR2 := BR1.step hB
     have HB2 := HB1.trans (hB.mono HB1.size)
     clear BR1 HB1 hB CD1
     obtain ⟨d0, e0, d1, e1, d2, e2, d3, e3⟩ := BR2.cf4
     have dl := BR2.lt
     go_wp2
     refine bodyPost_ret (v := .tuple #[.agg #[.int .u64 0, .int .u64 0, .int .u64 0, .int .u64 0], .bool false]) (by simp [results, Tryd.results71, go_sem, d0, d1, d2, d3]) rfl ?_
     exact ⟨by rw [HR.out]; rfl, tell_below HB2 (Nat.le_refl _)⟩
end Go.Proofs.YtjcpdihdlklapaaDoor
namespace Go.Proofs.YtjcpdihdlklapaaDoor
variable {P : Program} {ops : Array Oper} {Q : Exit → Act → World → Prop} {md : Region.Mode}
def open_ (l : Array Bool) : Nat := l.toList.countP (fun b => !b)
theorem open_set {l : Array Bool} {i : Nat} (h : l.getD i true = false) : open_ (l.setIfInBounds i true) + 1 = open_ l := by
 obtain ⟨xs⟩ := l
 have hi : i < xs.length := by
   rcases Nat.lt_or_ge i xs.length with h' | h'
   · exact h'
   · simp [Array.getD, Nat.not_lt.2 h'] at h
 have hv : xs[i] = false := by simpa [Array.getD, hi] using h
 have hp : 0 < xs.countP (fun b => !b) := List.countP_pos_iff.2 ⟨xs[i], List.getElem_mem hi, by simp [hv]⟩
 simp only [open_, List.setIfInBounds_toArray, List.countP_set hi, hv]
 simp
 omega
theorem wpAny_inv (J : Array Bool → Act → World → Prop) (hs : ∀ l a w i o, J l a w → l.getD i true = false → ops[i]? = some o → (∀ e ∈ o.after, Region.binds md e = true → l.getD e.on false = true) → wpOp P ops Q i (J (l.setIfInBounds i true)) a w)
   (hd : ∀ l a w, J l a w → Region.ready md ops l = [] → Q .normal a w) : ∀ (fuel : Nat) (l : Array Bool) (a : Act) (w : World), open_ l ≤ fuel → J l a w → wpAny P md ops Q fuel l a w := by
 intro fuel
 induction fuel with
 | zero =>
   intro l a w hf hJ
   have hr : Region.ready md ops l = [] := by
     rw [List.eq_nil_iff_forall_not_mem]
     intro i hi
     have := open_set (mem_ready.1 hi).1
     omega
   exact ⟨hr, hd l a w hJ hr⟩
 | succ fuel ih =>
   intro l a w hf hJ
   refine ⟨fun hr => hd l a w hJ hr, fun i hi => ?_⟩
   obtain ⟨h0, o, ho, hall⟩ := mem_ready.1 hi
   exact wpOp_mono (fun a' w' h' => ih _ a' w' (by have := open_set h0; omega) h') (hs l a w i o hJ h0 ho hall)
theorem wp_region_inv {id : Nat} {a : Act} {w : World} (hm : P.follows .mixedOrders = true) (J : Array Bool → Act → World → Prop)
   (h0 : J (Array.replicate ops.size false) a { w with drawn := w.drawn + 1 })
   (hs : ∀ l a w i o, J l a w → l.getD i true = false → ops[i]? = some o → (∀ e ∈ o.after, Region.binds .any e = true → l.getD e.on false = true) → wpOp P ops Q i (J (l.setIfInBounds i true)) a w)
   (hd : ∀ l a w, J l a w → Region.ready .any ops l = [] → Q .normal a w) : (Code.region id ops true).wp P Q a w :=
 wp_region_any hm (wpAny_inv J hs hd _ _ _ _ (by
   unfold open_
   refine Nat.le_trans List.countP_le_length ?_
   simp) h0)
def waits (md : Region.Mode) (ops : Array Oper) : List Nat → List Nat → Bool
 | _, [] => true
 | acc, i :: r => ((ops[i]?).map (fun o => o.after.all (fun e => !Region.binds md e || acc.contains e.on))).getD false && waits md ops (i :: acc) r
theorem listed_of {l : Array Bool} (hr : Region.ready md ops l = []) : ∀ (r acc : List Nat), (∀ k ∈ acc, l.getD k false = true) → waits md ops acc r = true → (∀ k ∈ r, k < l.size) → ∀ k ∈ r, l.getD k false = true
 | [], _, _, _, _ => fun k hk => by simp at hk
 | i :: r, acc, ha, hw, hz => by
   simp only [waits, Bool.and_eq_true] at hw
   obtain ⟨hw1, hw2⟩ := hw
   have hi : l.getD i false = true := by
     cases ho : ops[i]? with
     | none => rw [ho] at hw1; simp at hw1
     | some o =>
       rw [ho] at hw1
       have hall : ∀ e ∈ o.after, Region.binds md e = true → l.getD e.on false = true := fun e he hb => by
         have h2 : o.after.all (fun e => !Region.binds md e || acc.contains e.on) = true := by simpa using hw1
         rw [Array.all_eq_true'] at h2
         have h3 := h2 e he
         rw [hb] at h3
         exact ha _ (by simpa using h3)
       have hz' := hz i (by simp)
       by_cases hc : l.getD i true = false
       · have : i ∈ Region.ready md ops l := mem_ready.2 ⟨hc, o, ho, hall⟩
         rw [hr] at this
         simp at this
       · simpa [Array.getD, hz'] using hc
   intro k hk
   rcases List.mem_cons.1 hk with rfl | hk
   · exact hi
   · exact listed_of hr r (i :: acc) (fun k hk => by
       rcases List.mem_cons.1 hk with rfl | hk
       · exact hi
       · exact ha k hk) hw2 (fun k hk => hz k (by simp [hk])) k hk
theorem wpOp_of {i : Nat} {o : Oper} {a : Act} {w : World} {K : Act → World → Prop} (ho : ops[i]? = some o) (hg : o.guard = none) (h : o.wp P a w K Q) : wpOp P ops Q i K a w := by
 unfold wpOp
 simp only [ho]
 have hw : Region.wanted o (yielded ops a.tmps) = true := by unfold Region.wanted; rw [hg]
 rw [if_pos hw]
 exact .inl h
theorem tmps_fold : ∀ (D : List Nat) (t s : Array Value), t.size = s.size → (∀ d, d ∉ D → t[d]? = s[d]?) → t = D.foldl (fun u d => u.setIfInBounds d (t.getD d undef)) s
 | [], t, s, _, h => Array.ext_getElem? (fun d => h d (by simp))
 | d :: D, t, s, hz, h => by
   rw [List.foldl_cons]
   refine tmps_fold D t _ (by simpa using hz) (fun e he => ?_)
   by_cases hed : e = d
   · subst hed
     rcases Nat.lt_or_ge e t.size with h' | h'
     · simp [Array.getD, h', ← hz]
     · simp [← hz, h']
   · rw [Array.getElem?_setIfInBounds_ne (fun hh => hed hh.symm)]
     exact h e (by simp [hed, he])
theorem put_getD_ne {a : Act} {d e : Nat} {v : Value} (h : d ≠ e) : (a.put (some d) v).tmps.getD e undef = a.tmps.getD e undef := by
 simp [Act.put, Array.getD_eq_getD_getElem?, Array.getElem?_setIfInBounds_ne h]
theorem put_getD_same {a : Act} {d : Nat} {v : Value} (h : d < a.tmps.size) : (a.put (some d) v).tmps.getD d undef = v := by
 simp [Act.put, Array.getD_eq_getD_getElem?, h]
end Go.Proofs.YtjcpdihdlklapaaDoor
namespace Go.Proofs.YtjcpdihdlklapaaDoor
variable {P : Program} {ops : Array Oper} {Q : Exit → Act → World → Prop}
theorem yielded_of {j d : Nat} {o : Oper} {t : Array Value} {b : Bool} (ho : ops[j]? = some o) (hd : o.dst = some d) (ht : t.getD d undef = .bool b) : yielded ops t j = some b := by
 have h : t[d]? = some (.bool b) := by
   rcases Nat.lt_or_ge d t.size with h | h
   · simpa [Array.getD, h] using ht
   · simp [Array.getD, Nat.not_lt.2 h, undef] at ht
 unfold yielded
 rw [ho]
 simp only [Option.bind_some, hd]
 rw [h]
theorem wpOp_off {i k d : Nat} {b : Bool} {o ok : Oper} {a : Act} {w : World} {K : Act → World → Prop} (ho : ops[i]? = some o) (hg : o.guard = some (k, b)) (hk : ops[k]? = some ok) (hd : ok.dst = some d) (ht : a.tmps.getD d undef = .bool (!b)) (h : K (a.put o.dst undef) w) : wpOp P ops Q i K a w := by
 unfold wpOp
 simp only [ho]
 have hw : Region.wanted o (yielded ops a.tmps) = false := by
   unfold Region.wanted
   rw [hg]
   simp only [yielded_of hk hd ht]
   cases b <;> rfl
 rw [hw]
 exact h
theorem wpOp_on {i k d : Nat} {b : Bool} {o ok : Oper} {a : Act} {w : World} {K : Act → World → Prop} (ho : ops[i]? = some o) (hg : o.guard = some (k, b)) (hk : ops[k]? = some ok) (hd : ok.dst = some d) (ht : a.tmps.getD d undef = .bool b) (h : o.wp P a w K Q) : wpOp P ops Q i K a w := by
 unfold wpOp
 simp only [ho]
 have hw : Region.wanted o (yielded ops a.tmps) = true := by
   unfold Region.wanted
   rw [hg]
   simp only [yielded_of hk hd ht]
   cases b <;> rfl
 rw [if_pos hw]
 exact .inl h
end Go.Proofs.YtjcpdihdlklapaaDoor
namespace Go.Proofs.YtjcpdihdlklapaaDoor
open Go.RowKit
variable {P : Program} {ops : Array Oper}
def distS : List (Option Nat) → Bool
 | [] => true
 | none :: r => distS r
 | some d :: r => !(r.contains (some d)) && distS r
theorem distS_inj : ∀ (S : List (Option Nat)) (i j d : Nat), distS S = true → S[i]? = some (some d) → S[j]? = some (some d) → i = j
 | [], i, _, _, _, h, _ => by simp at h
 | o :: r, i, j, d, hd, hi, hj => by
   have hr : distS r = true := by
     cases o with
     | none => exact hd
     | some d' => simp only [distS, Bool.and_eq_true] at hd; exact hd.2
   have hno : ∀ k, o = some d → r[k]? = some (some d) → False := fun k ho hk => by
     subst ho
     simp only [distS, Bool.and_eq_true, Bool.not_eq_true'] at hd
     have hm : some d ∈ r := List.mem_of_getElem? hk
     rw [← List.contains_iff_mem, hd.1] at hm
     cases hm
   match i, j with
   | 0, 0 => rfl
   | 0, j + 1 => exact (hno j (by simpa using hi) (by simpa using hj)).elim
   | i + 1, 0 => exact (hno i (by simpa using hj) (by simpa using hi)).elim
   | i + 1, j + 1 => exact congrArg (· + 1) (distS_inj r i j d hr (by simpa using hi) (by simpa using hj))
def InvQ (B : Nat) (S : List (Option Nat)) (V : Nat → Value → World → Prop) (w0 : World) (a0 : Act) (l : Array Bool) (a : Act) (W : World) : Prop :=
 l.size = S.length ∧ a.tmps.size = a0.tmps.size ∧ a.defers = a0.defers ∧ (∀ e, some e ∉ S → a.tmps[e]? = a0.tmps[e]?) ∧ Below B w0 W ∧ (∀ j d, l.getD j false = true → S[j]? = some (some d) → V j (a.tmps.getD d undef) W) ∧ (∀ j, l.getD j false = true → S[j]? = some none → V j undef W)
theorem getD_set_q {l : Array Bool} {i j : Nat} (h : (l.setIfInBounds i true).getD j false = true) (hne : j ≠ i) : l.getD j false = true := by
 rw [getD_set_ne false (Ne.symm hne)] at h
 exact h
theorem InvQ.put {B : Nat} {S : List (Option Nat)} {V : Nat → Value → World → Prop} {w0 : World} {a0 : Act} {l : Array Bool} {a : Act} {W W' : World} (h : InvQ B S V w0 a0 l a W) (hS : distS S = true) (i d : Nat) (hi : S[i]? = some (some d)) (hlt : d < a0.tmps.size)
   (hW : Below B w0 W') (hT : ∀ j v, V j v W → V j v W') (v : Value) (hv : V i v W') : InvQ B S V w0 a0 (l.setIfInBounds i true) (a.put (some d) v) W' := by
 obtain ⟨h1, h2, h3, h4, h5, h6, h7⟩ := h
 refine ⟨by simpa using h1, by simpa [Act.put] using h2, h3, fun e he => ?_, hW, fun j d' hj hd' => ?_, fun j hj hn => ?_⟩
 · have hne : d ≠ e := fun hh => he (hh ▸ List.mem_of_getElem? hi)
   simp only [Act.put]
   rw [Array.getElem?_setIfInBounds_ne hne]
   exact h4 e he
 · by_cases hji : j = i
   · subst hji
     rw [hi] at hd'
     cases hd'
     rw [put_getD_same (by omega)]
     exact hv
   · have hne : d ≠ d' := fun hh => hji (distS_inj S j i d hS (hh ▸ hd') hi)
     rw [put_getD_ne hne]
     exact hT _ _ (h6 j d' (getD_set_q hj hji) hd')
 · have hji : j ≠ i := fun hh => by subst hh; rw [hi] at hn; cases hn
   exact hT _ _ (h7 j (getD_set_q hj hji) hn)
theorem wp_region_q {Q : Exit → Act → World → Prop} {id : Nat} {a0 : Act} {w0 : World} (hm : P.follows .mixedOrders = true) (B : Nat) (S : List (Option Nat)) (V : Nat → Value → World → Prop) (hSz : ops.size = S.length)
   (hs : ∀ (Q : Exit → Act → World → Prop) l a W i o, InvQ B S V w0 a0 l a W → l.getD i true = false → ops[i]? = some o → (∀ e ∈ o.after, Region.binds .any e = true → l.getD e.on false = true) → wpOp P ops Q i (InvQ B S V w0 a0 (l.setIfInBounds i true)) a W)
   (hd : ∀ l a W, InvQ B S V w0 a0 l a W → Region.ready .any ops l = [] → Q .normal a W) : (Code.region id ops true).wp P Q a0 w0 := by
 refine wp_region_inv hm (InvQ B S V w0 a0) ⟨by simpa using hSz, rfl, rfl, fun _ _ => rfl, (Below.refl _ w0).drew, fun j d hj => ?_, fun j hj => ?_⟩ (hs Q) hd
 all_goals
   exfalso
   rw [Array.getD_eq_getD_getElem?, Array.getElem?_replicate] at hj
   split at hj <;> simp at hj
end Go.Proofs.YtjcpdihdlklapaaDoor
