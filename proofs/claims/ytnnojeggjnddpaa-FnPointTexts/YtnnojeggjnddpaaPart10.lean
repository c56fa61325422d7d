/- Part 10 of the walks that the proof leans on. -/
import Derived.Test.YtnnojeggjnddpaaPart9
import Derived.Test.YtnnojeggjnddpaaPart1
import Derived.Test.YtnnojeggjnddpaaPart2
import Derived.Test.YtnnojeggjnddpaaPart4
import Derived.Test.YtnnojeggjnddpaaPart8
import Derived.Test.YtnnojeggjnddpaaPart7
import Derived.Test.YtnnojeggjnddpaaPart3
import Derived.Test.YtnnojeggjnddpaaPart6
import Derived.Lib.Bytealg
import Derived.WalkLawsBesides
import Derived.Lib.Strings
/- The model's text of a number. -/
namespace Go.Proofs.Ytnnojeggjnddpaa
open Go.RowKit
/-- The digits from a place on, divided by ten; the rest that is left. -/
structure TdJ (W wr : World) (g n : Nat) (xs zs : List Int) (k : Nat) (c : Int) : Prop where
  len : zs.length = n
  dig : Dig zs
  c0 : 0 ≤ c
  c1 : c < 10
  eq : val (xs.drop k) = 10 * val (zs.drop k) + c
  own : wr.ownsRow g 112 1 (.slice (some ⟨g, 0, none⟩) n n) n (zs.map (Value.int .u32))
  below : Below g W wr
theorem TdJ.start {W w1 : World} {g n : Nat} {xs : List Int} (hx : xs.length = n) (hg : g = W.heap.size) (hown : w1.ownsRow g 112 1 (.slice (some ⟨g, 0, none⟩) n n) n (madeCells #[Value.int .u32 0] n).toList) (hgrow : W.grownBy w1 none) : TdJ W w1 g n xs (List.replicate n 0) n 0 := by
  subst hg
  refine ⟨by simp, fun d hd => by rw [List.eq_of_mem_replicate hd]; decide, by omega, by omega, ?_, ?_, (Below.refl _ _).grown hgrow (Nat.le_refl _) (by simp)⟩
  · rw [← hx, List.drop_length, List.drop_eq_nil_of_le (by simp)]; rfl
  · rw [made_one] at hown
    simpa using hown
theorem TdJ.cell {W wr : World} {g n : Nat} {xs zs : List Int} {k : Nat} {c : Int} (h : TdJ W wr g n xs zs k c) (j : Nat) (hj : j < zs.length) : wr.cell? ⟨g, j, none⟩ = some (.int .u32 zs[j]) ∧ wr.frozen? ⟨g, j, none⟩ = false := by
  refine ⟨?_, h.own.frozenAt j⟩
  rw [h.own.cellAt j (by rw [← h.len]; omega)]
  simp [hj]
theorem TdJ.step {W wr : World} {g n : Nat} {xs zs : List Int} {m : Nat} {c : Int} (h : TdJ W wr g n xs zs (m + 1) c) (hm : m < xs.length) (hz : m < zs.length) (hd : Dig xs) (t : Int) (ht : t = xs[m] + c * 4294967296) :
    TdJ W (wr.setCell ⟨g, m, none⟩ (.int .u32 (t / 10))) g n xs (zs.set m (t / 10)) m (t % 10) := by
  obtain ⟨o1, o2⟩ := h.own.stored m (.int .u32 (t / 10))
  have hb := dig_at hd m hm
  have h0 := h.c0
  have h1 := h.c1
  refine ⟨by simpa using h.len, dig_set h.dig _ (by omega) (by omega), by omega, by omega, ?_, ?_, h.below.setCell (Nat.le_refl _) _⟩
  · rw [List.drop_eq_getElem_cons hm, List.drop_eq_getElem_cons (show m < (zs.set m (t / 10)).length by simpa using hz), List.getElem_set_self, List.drop_set_of_lt (by omega)]
    simp only [val]
    rw [h.eq]
    omega
  · have : (zs.map (Value.int .u32)).set m (.int .u32 (t / 10)) = (zs.set m (t / 10)).map (Value.int .u32) := by rw [List.map_set]
    rw [← this]; exact o1
theorem conv1 (c : Nat) (T : TypeId) (w : World) : (convert 53 9 (.slice (some ⟨w.heap.size, 0, none⟩) 1 1)).run Try.prog (w.alloc (.cells #[.int .u8 (48 + (c : Int))] T)) = .ok (.string (strL [48 + c])) (w.alloc (.cells #[.int .u8 (48 + (c : Int))] T)) := by
  rw [show 48 + (c : Int) = ((48 + c : Nat) : Int) by omega]
  exact run_convert_bytes_arg (P := Try.prog) _ 53 5 Try.underlying53 Try.underlying5 w.heap.size 0 1 1 [((48 + c : Nat) : Int)] rfl (fun i hi => by
    obtain rfl : i = 0 := by omega
    exact (Blk.new w [.int .u8 ((48 + c : Nat) : Int)] T rfl).c 0 rfl) 9 Try.underlying9
theorem dg_short {ds : List Int} {v k : Nat} (hd : Dig ds) (hl : ds.length ≤ k) (hv : val ds = (v : Int)) : (dg v).length ≤ 32 * k := by
  refine dg_len (32 * k) v ?_
  have h1 := val_lt hd
  rw [hv, pw_two] at h1
  have h2 : v < 2 ^ (32 * ds.length) := by omega
  have h3 : 2 ^ (32 * ds.length) ≤ 2 ^ (32 * k) := Nat.pow_le_pow_right (by omega) (by omega)
  have h4 : 2 ^ (32 * k) ≤ 10 ^ (32 * k) := Nat.pow_le_pow_left (by omega) _
  omega
def strLen : Value → Nat
  | .string b => b.size
  | _ => 0
/-- Between the rounds: the digits that are left, and those that are written. -/
structure LtI (w wr : World) (v : Nat) (vs : List Value) (ao : Option Addr) (n : Nat) (ds : List Int) (ts : List Nat) : Prop where
  len : ds.length = n
  nrm : Nrm ds
  rd : Rd wr ao ds
  fit : n ≤ 1000000
  eq : dg v = dg (val ds).toNat ++ ts
  blk : Blk wr w.heap.size vs
  below : Below w.heap.size w wr
theorem LtI.less {w wr : World} {v : Nat} {vs : List Value} {ao : Option Addr} {n : Nat} {ds : List Int} {ts : List Nat} (h : LtI w wr v vs ao n ds ts) (hn : 0 < n) : ts.length < (dg v).length := by
  have h1 : 0 < val ds := nrm_pos h.nrm (by intro h2; have := h.len; rw [h2] at this; simp at this; omega)
  have h2 := dg_ne (n := (val ds).toNat) (by omega)
  have h3 : 0 < (dg (val ds).toNat).length := List.length_pos_iff.2 h2
  rw [h.eq, List.length_append]
  omega
theorem LtI.done {w wr : World} {v : Nat} {vs : List Value} {ao : Option Addr} {ds : List Int} {ts : List Nat} (h : LtI w wr v vs ao 0 ds ts) : ts = dg v := by
  have h1 : ds = [] := List.length_eq_zero_iff.1 h.len
  have h2 := h.eq
  rw [h1] at h2
  rw [h2, show (val []).toNat = 0 from rfl, dg_zero]; rfl
theorem LtI.next {w wo wr w3 : World} {v : Nat} {vs : List Value} {ao ao' : Option Addr} {n n' : Nat} {ds zs ds' : List Int} {ts : List Nat} {c : Nat} {o : Obj} (h : LtI w wo v vs ao n ds ts) (hn : 0 < n) (hc : c < 10) (hJ : TdJ wo wr wo.heap.size n ds zs 0 c) (hB : Below (wr.alloc o).heap.size (wr.alloc o) w3)
    (k1 : ds'.length = n') (k3 : n' ≤ n) (k4 : Nrm ds') (k5 : val ds' = val zs) (k7 : Rd w3 ao' ds') : LtI w w3 v vs ao' n' ds' ((48 + c) :: ts) := by
  have h1 : 0 < val ds := nrm_pos h.nrm (by intro h2; have := h.len; rw [h2] at this; simp at this; omega)
  have h2 := hJ.eq
  simp only [List.drop_zero] at h2
  have h3 := val_nonneg hJ.dig
  have b1 : Below w.heap.size w wr := h.below.trans (hJ.below.mono h.below.size)
  have b2 : Below w.heap.size w (wr.alloc o) := b1.alloc b1.size _
  refine ⟨k1, k4, k7, by have := h.fit; omega, ?_, ((h.blk.step hJ.below).alloc _).step hB, b2.trans (hB.mono b2.size)⟩
  rw [h.eq, dg_step (n := (val ds).toNat) (by omega), k5, show (val ds).toNat / 10 = (val zs).toNat by omega, show (val ds).toNat % 10 = c by omega, List.append_assoc]
  rfl
theorem LtI.le {w wr : World} {v : Nat} {vs : List Value} {ao : Option Addr} {n : Nat} {ds : List Int} {ts : List Nat} (h : LtI w wr v vs ao n ds ts) : ts.length ≤ (dg v).length := by
  rw [h.eq, List.length_append]
  omega
set_option maxRecDepth 100000 in
set_option maxHeartbeats 2000000 in
theorem l1Text_any (s : Bool) (ao : Option Addr) (n cap : Nat) (ds : List Int) (z : Int) (k : Nat) (w : World) (h : IsNum w s ao n cap ds z k) (hk : k ≤ 1000000) :
    Calls Try.prog 42 #[.agg #[.bool s, .slice ao n cap]] w (VP (.string (txS z)) w) := by
  obtain ⟨i0, hi, hz0, hz1, hz2⟩ := info_parts Try.info88
  by_cases hz : z = 0
  · obtain rfl : n = 0 := h.zero.2 hz
    subst hz
    clear h
    have hT : Hid (txS 0 = strL [48]) := by show _ = _; unfold txS txL; rw [show (0 : Int).natAbs = 0 from rfl, dgs_zero]; rfl
    go_enter Try.func42, Try.ntmps42
    go_wp2
    go_ret
    exact ⟨by rw [hT.out]; rfl, (Below.refl _ _).alloc (Nat.le_refl _) _⟩
  · have hn0 : ((n : Int) == 0) = false := beq_eq_false_iff_ne.2 (by intro h2; exact hz (h.zero.1 (by omega)))
    have hnk := h.le
    have hv : Hid (val ds = (z.natAbs : Int)) := h.val
    have hs : Hid (s = decide (z < 0)) := h.neg
    have HI0 : LtI w (w.alloc (Obj.cells #[.bool s, .slice ao n cap] 66)) z.natAbs [.bool s, .slice ao n cap] ao n ds [] :=
      ⟨h.len, h.nrm, h.rd.below ((Below.refl _ _).alloc (Nat.le_refl _) _) (Nat.le_refl _), by omega, by rw [hv.out]; simp, Blk.new w [.bool s, .slice ao n cap] _ rfl, (Below.refl _ _).alloc (Nat.le_refl _) _⟩
    have HI : Hid (LtI w (w.alloc (Obj.cells #[.bool s, .slice ao n cap] 66)) z.natAbs [.bool s, .slice ao n cap] ao n ds []) := HI0
    have HZ : Hid (z ≠ 0) := hz
    have HL : Hid ((dg z.natAbs).length ≤ 32000000) := by
      have := dg_short h.nrm.1 (by rw [h.len]; exact hnk) h.val
      show _ ≤ _
      omega
    clear h HI0 hz
    go_enter Try.func42, Try.ntmps42
    go_wp2_with fail
    generalize (w.alloc (Obj.cells #[.bool s, .slice ao n cap] 66)) = W at *
    go_loopw [3, 4] (fun tv rv wr => ∃ (ao2 : Option Addr) (m c2 : Nat) (es : List Int) (ts : List Nat), tv = .string (strL ts) ∧ rv = .slice ao2 m c2 ∧ LtI w wr z.natAbs [.bool s, .slice ao n cap] ao2 m es ts) (fun tv _ _ => (dg z.natAbs).length - strLen tv)
    case atStart => exact ⟨ao, n, cap, ds, [], rfl, rfl, HI.out⟩
    case round =>
      clear HI
      obtain ⟨ao2, m, c2, es, ts, rfl, rfl, hI⟩ := hrel
      have HII : Hid (LtI w wr z.natAbs [.bool s, .slice ao n cap] ao2 m es ts) := hI
      have hfit := hI.fit
      have hshort : ts.length ≤ 32000000 := Nat.le_trans hI.le HL.out
      have hssz := strL_size ts
      by_cases hm : 0 < m
      · have hless : Hid (ts.length < (dg z.natAbs).length) := hI.less hm
        clear hI
        go_wp2_with (at_make; refine wpList_make_full _ rfl _ _ 64 rfl wr.heap.size 112 i0 (.int .u32 0) 1 Try.underlying64 hi hz0 hz1 _ _ _ _ m rfl rfl (by omega) (by omega) (by rw [hz2]; omega) (by unfold maxLen; omega) (Nat.le_refl _) ?_)
        intro w1 hown hgrow
        have HS : TdJ wr w1 wr.heap.size m es (List.replicate m 0) m 0 := TdJ.start HII.out.len rfl (by simpa using hown) hgrow
        clear hown hgrow
        go_wp2
        obtain ⟨wo, hwo⟩ : ∃ wo : World, wo = wr := ⟨_, rfl⟩
        subst hwo
        go_loopw [6, 7] (fun cv iv wx => ∃ (j : Nat) (c : Int) (zs : List Int), j ≤ m ∧ iv = .int .i64 ((j : Int) - 1) ∧ cv = .int .u64 c ∧ TdJ wo wx wo.heap.size m es zs j c) (fun _ iv _ => (intOf iv + 1).toNat)
        case atStart => exact ⟨m, 0, _, Nat.le_refl _, by go_num, rfl, HS⟩
        case round =>
          clear HS
          obtain ⟨j, c, zs, hj, rfl, rfl, hJ⟩ := hrel
          have zlen := hJ.len
          have HJ : Hid (TdJ wo wr wo.heap.size m es zs j c) := hJ
          by_cases hj0 : 0 < j
          · obtain ⟨q, rfl⟩ : ∃ q, j = q + 1 := ⟨j - 1, by omega⟩
            have hqe : q < es.length := by have := HII.out.len; omega
            have hqz : q < zs.length := by omega
            obtain ⟨bx, ox, rfl, hbx, hcx0⟩ := HII.out.rd q hqe
            obtain ⟨hx0, hx1⟩ := dig_at HII.out.nrm.1 q hqe
            have hcx := (hJ.below.cell (p := ⟨bx, ox + q, none⟩) hbx).trans hcx0
            obtain ⟨hcz, hfz⟩ := hJ.cell q hqz
            have hc0 := hJ.c0
            have hc1 := hJ.c1
            obtain ⟨x, hx⟩ : ∃ x, x = es[q] + c * 4294967296 := ⟨_, rfl⟩
            have hor : bits .or .u64 (c * 4294967296) es[q] = x := by
              have := or_hi es[q] c ⟨hx0, hx1⟩ ⟨hc0, by omega⟩
              rw [wrap_word (by omega) (by omega)] at this
              rw [hx]; exact this
            have d1 : x.tdiv 10 = x / 10 := Int.tdiv_eq_ediv_of_nonneg (by omega)
            have d2 : x.tmod 10 = x % 10 := Int.tmod_eq_emod_of_nonneg (by omega)
            have d3 : IntKind.u64.wrap (x / 10) = x / 10 := wrap_word (by omega) (by omega)
            have d4 : x / 10 % 4294967296 = x / 10 := by omega
            have R1 : Hid (TdJ wo (wr.setCell ⟨wo.heap.size, q, none⟩ (.int .u32 (x / 10))) wo.heap.size m es (zs.set q (x / 10)) q (x % 10)) := hJ.step hqe hqz HII.out.nrm.1 x hx
            have HX : Hid (x = es[q] + c * 4294967296) := hx
            have e1 : ((q + 1 : Nat) : Int) - 1 = q := by omega
            have hx2 : 0 ≤ x := by omega
            have hx3 : x < 42949672960 := by omega
            have hqm : (q : Int) < m := by omega
            rw [e1]
            clear hJ hx hcx0 e1
            go_wp2
            go_roundw
            case rel => exact ⟨q, x % 10, _, by omega, by go_num, by first | rfl | (rw [d2]), R1.out⟩
            case measure => simp [intOf]
          · obtain rfl : j = 0 := by omega
            have hc0 := hJ.c0
            have hc1 := hJ.c1
            obtain ⟨c, rfl⟩ : ∃ e : Nat, c = e := ⟨c.toNat, by omega⟩
            have hE : Hid (val es = 10 * val zs + c) := by have := hJ.eq; simp only [List.drop_zero] at this; exact this
            have hss1 := strL_size [48 + c]
            have CV := conv1 c 5 wr
            have R2 : Rd (wr.alloc (Obj.cells #[.int .u8 (48 + (c : Int))] 5)) (some ⟨wo.heap.size, 0, none⟩) zs := (Rd.own hJ.own hJ.len).below ((Below.refl _ _).alloc (Nat.le_refl _) _) (Nat.le_refl _)
            have R1 := hJ.dig
            have hc : Hid (c < 10) := by show _ < _; omega
            clear hJ
            go_wp2_with fail
            refine (trim_any false _ _ _ zs _ zlen (Nat.le_refl _) R1 R2 (by omega)).mono ?_
            rintro e w3 ⟨neg', ao', n', cap', ds', rfl, k1, k2, k3, k4, k5, k6, k7, k8⟩
            have N1 : Hid (LtI w w3 z.natAbs [.bool s, .slice ao n cap] ao' n' ds' ((48 + c) :: ts)) := HII.out.next hm hc.out HJ.out k8 k1 k3 k4 k5 k7
            have fd := field_d (.bool neg') (.slice ao' n' cap')
            have hcat : Hid (strL [48 + c] ++ strL ts = strL ((48 + c) :: ts)) := (strL_append [48 + c] ts).symm
            clear k1 k2 k3 k4 k5 k6 k7 k8 R1 R2 HJ HII CV hE
            go_wp2
            go_roundw
            case rel => exact ⟨ao', n', cap', ds', (48 + c) :: ts, by rw [hcat.out], rfl, N1.out⟩
            case measure =>
              have := hless.out
              rw [hcat.out]
              simp only [strLen, strL_size, List.length_cons]
              omega
      · obtain rfl : m = 0 := by omega
        have hd : Hid (ts = dg z.natAbs) := hI.done
        obtain ⟨b0, b1⟩ := hI.blk.cs2
        have HB := hI.below
        clear hI
        by_cases hz0 : z < 0
        · have hT : Hid (txS z = strL (45 :: ts)) := by show _ = _; unfold txS txL; rw [if_pos hz0, dgs_pos (by omega), hd.out]; rfl
          obtain rfl : s = true := by rw [hs.out]; exact decide_eq_true hz0
          clear hz0
          go_wp2
          go_ret
          exact ⟨by rw [hT.out]; exact congrArg (fun b => Ending.returned (Value.string b)) (strL_append [45] ts).symm, HB⟩
        · have hT : Hid (txS z = strL ts) := by show _ = _; unfold txS txL; rw [if_neg hz0, dgs_pos (by have := HZ.out; omega), hd.out]; rfl
          obtain rfl : s = false := by rw [hs.out]; exact decide_eq_false hz0
          clear hz0
          go_wp2
          go_ret
          exact ⟨by rw [hT.out]; rfl, HB⟩
end Go.Proofs.Ytnnojeggjnddpaa

/- The text of a number: the law over both sides. -/
namespace Go.Proofs.Ytnnojeggjnddpaa
open Go.RowKit
end Go.Proofs.Ytnnojeggjnddpaa

/- A number read from its text: the reckoning, of no program. -/
namespace Go.Proofs.Ytnnojeggjnddpaa
/-- Bytes without a sign. -/
def cutM (l : List Nat) : List Nat := if l.head? = some 45 then l.tail else l
/-- That bytes are a number of at most 77 digits as it is written. -/
def RdOk (l : List Nat) : Prop := DecL (cutM l) ∧ (cutM l).length ≤ 77 ∧ ¬ (l.head? = some 45 ∧ cutM l = [48])
/-- The number that bytes stand for. -/
def rdI (l : List Nat) : Int := if l.head? = some 45 then -(rdN (cutM l) : Int) else (rdN (cutM l) : Int)
theorem cutM_neg {l : List Nat} (h : l.head? = some 45) : l = 45 :: cutM l := by
  unfold cutM
  rw [if_pos h]
  cases l with
  | nil => simp at h
  | cons x t => simp only [List.head?_cons, Option.some.injEq] at h; rw [h]; rfl
theorem cutM_pos {l : List Nat} (h : ¬ l.head? = some 45) : cutM l = l := by unfold cutM; rw [if_neg h]
theorem rd_tx {l : List Nat} (h : RdOk l) : txL (rdI l) = l := by
  obtain ⟨h1, h2, h3⟩ := h
  have h4 := dgs_rdN h1
  unfold txL rdI
  by_cases hn : l.head? = some 45
  · rw [if_pos hn]
    have h5 : rdN (cutM l) ≠ 0 := by
      intro h6
      rw [h6, dgs_zero] at h4
      exact h3 ⟨hn, h4.symm⟩
    rw [if_pos (by omega), Int.natAbs_neg, Int.natAbs_natCast, h4]
    exact (cutM_neg hn).symm
  · rw [if_neg hn, if_neg (by omega), Int.natAbs_natCast, h4, cutM_pos hn]
    rfl
theorem head_dgs (n : Nat) : ¬ (dgs n).head? = some 45 := by
  intro h
  have h1 := dgs_isD n 45 (List.mem_of_mem_head? h)
  unfold isD at h1
  omega
theorem tx_neg {z : Int} (h : z < 0) : txL z = 45 :: dgs z.natAbs := by unfold txL; rw [if_pos h]; rfl
theorem tx_pos {z : Int} (h : ¬ z < 0) : txL z = dgs z.natAbs := by unfold txL; rw [if_neg h]; rfl
theorem tx_rd {z : Int} (h : z.natAbs < 10 ^ 77) : RdOk (txL z) ∧ rdI (txL z) = z := by
  have h1 := dgs_dec z.natAbs
  have h2 := dgs_len (k := 77) (by omega) h
  by_cases hz : z < 0
  · have hc : cutM (txL z) = dgs z.natAbs := by unfold cutM; rw [tx_neg hz]; rfl
    have hh : (txL z).head? = some 45 := by rw [tx_neg hz]; rfl
    refine ⟨⟨by rw [hc]; exact h1, by rw [hc]; exact h2, fun h3 => ?_⟩, ?_⟩
    · rw [hc] at h3
      have h4 := congrArg rdN h3.2
      rw [rdN_dgs] at h4
      have : z.natAbs = 0 := h4
      omega
    · unfold rdI
      rw [if_pos hh, hc, rdN_dgs]
      omega
  · have hh : ¬ (txL z).head? = some 45 := by rw [tx_pos hz]; exact head_dgs _
    have hc : cutM (txL z) = dgs z.natAbs := by rw [cutM_pos hh, tx_pos hz]
    refine ⟨⟨by rw [hc]; exact h1, by rw [hc]; exact h2, fun h3 => hh h3.1⟩, ?_⟩
    unfold rdI
    rw [if_neg hh, hc, rdN_dgs]
    omega
theorem tx_len {z : Int} (h : z.natAbs < 10 ^ 77) : (txL z).length ≤ 78 := by
  have h2 := dgs_len (k := 77) (by omega) h
  by_cases hz : z < 0
  · rw [tx_neg hz, List.length_cons]; omega
  · rw [tx_pos hz]; omega
theorem tx_inj {x y : Int} (h : txL x = txL y) : x = y := by
  by_cases hx : x < 0 <;> by_cases hy : y < 0
  · rw [tx_neg hx, tx_neg hy, List.cons.injEq] at h
    have := congrArg rdN h.2
    rw [rdN_dgs, rdN_dgs] at this
    omega
  · rw [tx_neg hx, tx_pos hy] at h
    exact absurd (by rw [← h]; rfl) (head_dgs y.natAbs)
  · rw [tx_pos hx, tx_neg hy] at h
    exact absurd (by rw [h]; rfl) (head_dgs x.natAbs)
  · rw [tx_pos hx, tx_pos hy] at h
    have := congrArg rdN h
    rw [rdN_dgs, rdN_dgs] at this
    omega
theorem btL_extract (s : ByteArray) (a b : Nat) : btL (s.extract a b) = ((btL s).drop a).take (b - a) := by
  unfold btL
  rw [ByteArray.data_extract, Array.toList_extract, List.extract_eq_take_drop, List.map_take, List.map_drop]
end Go.Proofs.Ytnnojeggjnddpaa

/- The texts of fractions and of points: the program's. -/
namespace Go.Proofs.Ytnnojeggjnddpaa
open Go.RowKit
/-- What stands under a number, as it is written. -/
def unL (y : Int) : List Nat := if y = 1 then [] else 47 :: txL y
def ptL (x y z : Int) : List Nat := txL x ++ (44 :: (txL y ++ unL z))
theorem unL_one : unL 1 = [] := by unfold unL; rw [if_pos rfl]
theorem unL_not {y : Int} (h : ¬ y = 1) : unL y = 47 :: txL y := by unfold unL; rw [if_neg h]
theorem told77 {z : Int} (h : told z = true) : z.natAbs < 10 ^ 77 := by
  have := of_decide_eq_true h
  omega
theorem txS_le {z : Int} (h : told z = true) : (txS z).size ≤ 78 := by
  unfold txS
  rw [strL_size]
  exact tx_len (told77 h)
theorem unL_le {y : Int} (h : told y = true) : (strL (unL y)).size ≤ 79 := by
  rw [strL_size]
  unfold unL
  have := tx_len (told77 h)
  split
  · simp
  · rw [List.length_cons]; omega
theorem textI_det (x : Int) (hx : told x = true) (w : World) : Calls Try.prog 14 #[W4 x] w (VP (.string (txS x)) w) := by
  obtain ⟨g3, g2, g1, g0⟩ := ww_words x
  have := implText_any _ _ _ _ g3 g2 g1 g0 w
  rw [ww_sw hx] at this
  exact this
theorem one_det (w : World) : Calls Try.prog 95 #[.int .i64 1] w (VP (W4 1) w) := by
  refine (implOf_any 1 w (by decide) (by decide)).mono ?_
  rintro e w1 ⟨a3, a2, a1, a0, rfl, h3, h2, h1, h0, hz, hB⟩
  obtain ⟨rfl, rfl, rfl, rfl⟩ := wd_of h3 h2 h1 h0 hz
  exact ⟨rfl, hB⟩
theorem told_one : told 1 = true := by decide
set_option maxRecDepth 100000 in
set_option maxHeartbeats 2000000 in
theorem eqW10 (x u : Int) (hx : told x = true) (hu : told u = true) (w : World) : (Op.equalIn 10000 26 (W4 x) (W4 u)).run Try.prog w = .ok (decide (x = u)) w := by
  have E : ∀ a3 a2 a1 a0 b3 b2 b1 b0 : Int, (Op.equalIn 10000 26 (.agg #[.int .u64 a3, .int .u64 a2, .int .u64 a1, .int .u64 a0]) (.agg #[.int .u64 b3, .int .u64 b2, .int .u64 b1, .int .u64 b0])).run Try.prog w = .ok (a3 == b3 && a2 == b2 && a1 == b1 && a0 == b0) w := by
    intro a3 a2 a1 a0 b3 b2 b1 b0
    have u3 := Try.underlying22
    have a3' := Try.isAgg22
    have z3 := Try.sizeOf22
    rw [show (10000 : Nat) = 9999 + 1 from rfl, Op.equalIn]
    simp only [Sem.run_bind, run_underlying Try.underlying26, Result.andThen_ok]
    go_simp
    by_cases h3 : a3 = b3
    · subst h3
      by_cases h2 : a2 = b2
      · subst h2
        by_cases h1 : a1 = b1
        · subst h1
          by_cases h0 : a0 = b0
          · subst h0
            simp
          · simp [h0]
        · simp [h1]
      · simp [h2]
    · simp [h3]
  rw [E]
  congr 1
  rw [Bool.eq_iff_iff]
  simp only [Bool.and_eq_true, beq_iff_eq, decide_eq_true_eq]
  constructor
  · rintro ⟨⟨⟨e3, e2⟩, e1⟩, e0⟩
    rw [← ww_sw hx, ← ww_sw hu, e3, e2, e1, e0]
  · rintro rfl
    exact ⟨⟨⟨rfl, rfl⟩, rfl⟩, rfl⟩
set_option maxRecDepth 100000 in
set_option maxHeartbeats 2000000 in
theorem under_det (y : Int) (hy : told y = true) (w : World) : Calls Try.prog 59 #[W4 y] w (VP (.string (strL (unL y))) w) := by
  have C1 := one_det
  have C2 := textI_det y hy
  have E := eqW10 y 1 hy told_one
  have hsz := txS_le hy
  have X0 := Blk.new w [.int .u64 (ww3 y), .int .u64 (ww2 y), .int .u64 (ww1 y), .int .u64 (ww0 y)] 26 rfl
  have HB := (Below.refl _ w).alloc (Nat.le_refl _) (.cells #[.int .u64 (ww3 y), .int .u64 (ww2 y), .int .u64 (ww1 y), .int .u64 (ww0 y)] 26)
  rw [show ([.int .u64 (ww3 y), .int .u64 (ww2 y), .int .u64 (ww1 y), .int .u64 (ww0 y)] : List Value).toArray = #[.int .u64 (ww3 y), .int .u64 (ww2 y), .int .u64 (ww1 y), .int .u64 (ww0 y)] from rfl] at X0
  by_cases h1 : y = 1
  · rw [decide_eq_true h1] at E
    have HO : Hid (unL y = []) := by show _ = _; rw [h1]; exact unL_one
    clear h1
    go_enter Try.func59, Try.ntmps59
    go_wp2_with fail
    generalize (w.alloc (.cells #[.int .u64 (ww3 y), .int .u64 (ww2 y), .int .u64 (ww1 y), .int .u64 (ww0 y)] 26)) = W at *
    go_region_held3 (fun w' => w'.cell? ⟨w.heap.size, 0, none⟩ = some (.int .u64 (ww3 y)) ∧ w'.cell? ⟨w.heap.size, 1, none⟩ = some (.int .u64 (ww2 y)) ∧ w'.cell? ⟨w.heap.size, 2, none⟩ = some (.int .u64 (ww1 y)) ∧ w'.cell? ⟨w.heap.size, 3, none⟩ = some (.int .u64 (ww0 y))) (first | (with_reducible exact X0.cs4) | (with_reducible exact X0.drew.cs4))
      (first | (go_at_call 95; refine (C1 _).mono ?_; rintro e w1 ⟨rfl, hB⟩; (first | (replace X0 := X0.step hB; replace HB := HB.trans (hB.mono HB.size)) | (replace X0 := X0.drew.step hB; replace HB := HB.drew.trans (hB.mono HB.size))); clear hB))
    all_goals go_wp2
    all_goals go_ret
    all_goals exact ⟨by rw [HO.out]; rfl, by first | exact HB | exact HB.drew⟩
  · rw [decide_eq_false h1] at E
    have HO : Hid (unL y = 47 :: txL y) := unL_not h1
    clear h1
    go_enter Try.func59, Try.ntmps59
    go_wp2_with fail
    generalize (w.alloc (.cells #[.int .u64 (ww3 y), .int .u64 (ww2 y), .int .u64 (ww1 y), .int .u64 (ww0 y)] 26)) = W at *
    go_region_held3 (fun w' => w'.cell? ⟨w.heap.size, 0, none⟩ = some (.int .u64 (ww3 y)) ∧ w'.cell? ⟨w.heap.size, 1, none⟩ = some (.int .u64 (ww2 y)) ∧ w'.cell? ⟨w.heap.size, 2, none⟩ = some (.int .u64 (ww1 y)) ∧ w'.cell? ⟨w.heap.size, 3, none⟩ = some (.int .u64 (ww0 y))) (first | (with_reducible exact X0.cs4) | (with_reducible exact X0.drew.cs4))
      (first | (go_at_call 95; refine (C1 _).mono ?_; rintro e w1 ⟨rfl, hB⟩; (first | (replace X0 := X0.step hB; replace HB := HB.trans (hB.mono HB.size)) | (replace X0 := X0.drew.step hB; replace HB := HB.drew.trans (hB.mono HB.size))); clear hB))
    all_goals obtain ⟨c0, c1, c2, c3⟩ := X0.cs4
    all_goals go_wp2_with fail
    all_goals refine (C2 _).mono ?_
    all_goals rintro e w2 ⟨rfl, hB⟩
    all_goals have HB2 := HB.trans (Below.mono (by first | exact hB | exact hB) HB.size)
    all_goals clear hB
    all_goals go_wp2
    all_goals go_ret
    all_goals exact ⟨by rw [HO.out]; exact congrArg (fun b => Ending.returned (Value.string b)) (strL_append [47] (txL y)).symm, HB2⟩
set_option maxRecDepth 100000 in
set_option maxHeartbeats 2000000 in
theorem ptText_det (x y z : Int) (hx : told x = true) (hy : told y = true) (hz : told z = true) (w : World) : Calls Try.prog 26 #[PV x y z] w (VP (.string (strL (if ptB x y z = true then ptL x y z else []))) w) := by
  have C0 := pright_det x y z hx hy hz
  have C1 := textI_det x hx
  have C2 := textI_det y hy
  have C3 := under_det z hz
  have hs1 := txS_le hx
  have hs2 := txS_le hy
  have hs3 := unL_le hz
  have tok1 : True := trivial
  have X0 := Blk.new w [.int .u64 (ww3 x), .int .u64 (ww2 x), .int .u64 (ww1 x), .int .u64 (ww0 x), .int .u64 (ww3 y), .int .u64 (ww2 y), .int .u64 (ww1 y), .int .u64 (ww0 y), .int .u64 (ww3 z), .int .u64 (ww2 z), .int .u64 (ww1 z), .int .u64 (ww0 z)] 47 rfl
  have HB := (Below.refl _ w).alloc (Nat.le_refl _) (.cells #[.int .u64 (ww3 x), .int .u64 (ww2 x), .int .u64 (ww1 x), .int .u64 (ww0 x), .int .u64 (ww3 y), .int .u64 (ww2 y), .int .u64 (ww1 y), .int .u64 (ww0 y), .int .u64 (ww3 z), .int .u64 (ww2 z), .int .u64 (ww1 z), .int .u64 (ww0 z)] 47)
  rw [show ([.int .u64 (ww3 x), .int .u64 (ww2 x), .int .u64 (ww1 x), .int .u64 (ww0 x), .int .u64 (ww3 y), .int .u64 (ww2 y), .int .u64 (ww1 y), .int .u64 (ww0 y), .int .u64 (ww3 z), .int .u64 (ww2 z), .int .u64 (ww1 z), .int .u64 (ww0 z)] : List Value).toArray = #[.int .u64 (ww3 x), .int .u64 (ww2 x), .int .u64 (ww1 x), .int .u64 (ww0 x), .int .u64 (ww3 y), .int .u64 (ww2 y), .int .u64 (ww1 y), .int .u64 (ww0 y), .int .u64 (ww3 z), .int .u64 (ww2 z), .int .u64 (ww1 z), .int .u64 (ww0 z)] from rfl] at X0
  cases hb : ptB x y z
  · rw [hb] at C0
    rw [if_neg (by decide)]
    clear hb
    obtain ⟨c0, c1, c2, c3, c4, c5, c6, c7, c8, c9, c10, c11⟩ := X0.cs12
    go_enter Try.func26, Try.ntmps26
    go_wp2_with fail
    refine (C0 _).mono ?_
    rintro e w1 ⟨rfl, hB⟩
    have HB2 := HB.trans (hB.mono HB.size)
    clear hB
    go_wp2
    go_ret
    exact ⟨rfl, HB2⟩
  · rw [hb] at C0
    rw [if_pos rfl]
    clear hb
    obtain ⟨c0, c1, c2, c3, c4, c5, c6, c7, c8, c9, c10, c11⟩ := X0.cs12
    have hcat : Hid (txS x ++ ⟨#[44]⟩ ++ txS y ++ strL (unL z) = strL (ptL x y z)) := by
      show _ = _
      unfold ptL
      rw [strL_append, show (44 :: (txL y ++ unL z)) = [44] ++ (txL y ++ unL z) from rfl, strL_append, strL_append, ← ByteArray.append_assoc, ← ByteArray.append_assoc]
      rfl
    have hsz1 : (txS x ++ ⟨#[44]⟩).size = (txS x).size + 1 := by rw [ByteArray.size_append]; rfl
    have q1 : ¬ (9223372036854775807 < (txS x).size + (⟨#[44]⟩ : ByteArray).size) := by show ¬ (9223372036854775807 < (txS x).size + 1); omega
    have hsz2 : (txS x ++ ⟨#[44]⟩ ++ txS y).size = (txS x).size + 1 + (txS y).size := by rw [ByteArray.size_append, hsz1]
    have r1 : ¬ (9223372036854775807 < (txS x).size + 1) := by omega
    have r2 : ¬ (9223372036854775807 < (txS x).size + 1 + (txS y).size) := by omega
    have r3 : ¬ (9223372036854775807 < (txS x).size + 1 + (txS y).size + (strL (unL z)).size) := by omega
    have q2 : ¬ (9223372036854775807 < (txS x ++ ⟨#[44]⟩).size + (txS y).size) := by omega
    have q3 : ¬ (9223372036854775807 < (txS x ++ ⟨#[44]⟩ ++ txS y).size + (strL (unL z)).size) := by omega
    go_enter Try.func26, Try.ntmps26
    go_wp2_with fail
    refine (C0 _).mono ?_
    rintro e w1 ⟨rfl, hB⟩
    replace X0 := X0.step hB
    replace HB := HB.trans (hB.mono HB.size)
    clear hB C0 c0 c1 c2 c3 c4 c5 c6 c7 c8 c9 c10 c11
    go_wp2_with fail
    go_region_held3 (fun w' => w'.cell? ⟨w.heap.size, 0, none⟩ = some (.int .u64 (ww3 x)) ∧ w'.cell? ⟨w.heap.size, 1, none⟩ = some (.int .u64 (ww2 x)) ∧ w'.cell? ⟨w.heap.size, 2, none⟩ = some (.int .u64 (ww1 x)) ∧ w'.cell? ⟨w.heap.size, 3, none⟩ = some (.int .u64 (ww0 x)) ∧ w'.cell? ⟨w.heap.size, 4, none⟩ = some (.int .u64 (ww3 y)) ∧ w'.cell? ⟨w.heap.size, 5, none⟩ = some (.int .u64 (ww2 y)) ∧ w'.cell? ⟨w.heap.size, 6, none⟩ = some (.int .u64 (ww1 y)) ∧ w'.cell? ⟨w.heap.size, 7, none⟩ = some (.int .u64 (ww0 y)) ∧ w'.cell? ⟨w.heap.size, 8, none⟩ = some (.int .u64 (ww3 z)) ∧ w'.cell? ⟨w.heap.size, 9, none⟩ = some (.int .u64 (ww2 z)) ∧ w'.cell? ⟨w.heap.size, 10, none⟩ = some (.int .u64 (ww1 z)) ∧ w'.cell? ⟨w.heap.size, 11, none⟩ = some (.int .u64 (ww0 z))) (first | (with_reducible exact X0.cs12) | (with_reducible exact X0.drew.cs12))
      (first
        | (go_at_call 14; have _t := tok1; refine (C1 _).mono ?_; rintro e w2 ⟨rfl, hB⟩; (first | (replace X0 := X0.step hB; replace HB := HB.trans (hB.mono HB.size)) | (replace X0 := X0.drew.step hB; replace HB := HB.drew.trans (hB.mono HB.size))); clear hB tok1 _t)
        | (go_at_call 14; refine (C2 _).mono ?_; rintro e w3 ⟨rfl, hB⟩; (first | (replace X0 := X0.step hB; replace HB := HB.trans (hB.mono HB.size)) | (replace X0 := X0.drew.step hB; replace HB := HB.drew.trans (hB.mono HB.size))); clear hB)
        | (go_at_call 59; refine (C3 _).mono ?_; rintro e w4 ⟨rfl, hB⟩; (first | (replace X0 := X0.step hB; replace HB := HB.trans (hB.mono HB.size)) | (replace X0 := X0.drew.step hB; replace HB := HB.drew.trans (hB.mono HB.size))); clear hB))
    all_goals go_wp2
    all_goals go_ret
    all_goals exact ⟨by rw [← hcat.out]; rfl, by first | exact HB | exact HB.drew⟩
end Go.Proofs.Ytnnojeggjnddpaa

/- The texts of fractions and of points: the model's. -/
namespace Go.Proofs.Ytnnojeggjnddpaa
open Go.RowKit
theorem cmp_one (y : Int) : (cmpI y 1 == 0) = decide (y = 1) := by
  unfold cmpI
  by_cases h : y = 1
  · subst h; rfl
  · rw [decide_eq_false h]
    split
    · rfl
    · split
      · rfl
      · omega
set_option maxRecDepth 100000 in
set_option maxHeartbeats 2000000 in
theorem specPtText_det (x y z : Int) (hx : told x = true) (hy : told y = true) (hz : told z = true) (w : World) : Calls Try.prog 24 #[PV x y z] w (VP (.string (strL (if ptB x y z = true then ptL x y z else []))) w) := by
  have C0 := specPointOk_det x y z hx hy hz
  have CO := l3Of_det x y z hx hy hz
  have hs1 := txS_le hx
  have hs2 := txS_le hy
  have hs3 := txS_le hz
  have X0 := Blk.new w [.int .u64 (ww3 x), .int .u64 (ww2 x), .int .u64 (ww1 x), .int .u64 (ww0 x), .int .u64 (ww3 y), .int .u64 (ww2 y), .int .u64 (ww1 y), .int .u64 (ww0 y), .int .u64 (ww3 z), .int .u64 (ww2 z), .int .u64 (ww1 z), .int .u64 (ww0 z)] 47 rfl
  have HB := (Below.refl _ w).alloc (Nat.le_refl _) (.cells #[.int .u64 (ww3 x), .int .u64 (ww2 x), .int .u64 (ww1 x), .int .u64 (ww0 x), .int .u64 (ww3 y), .int .u64 (ww2 y), .int .u64 (ww1 y), .int .u64 (ww0 y), .int .u64 (ww3 z), .int .u64 (ww2 z), .int .u64 (ww1 z), .int .u64 (ww0 z)] 47)
  rw [show ([.int .u64 (ww3 x), .int .u64 (ww2 x), .int .u64 (ww1 x), .int .u64 (ww0 x), .int .u64 (ww3 y), .int .u64 (ww2 y), .int .u64 (ww1 y), .int .u64 (ww0 y), .int .u64 (ww3 z), .int .u64 (ww2 z), .int .u64 (ww1 z), .int .u64 (ww0 z)] : List Value).toArray = #[.int .u64 (ww3 x), .int .u64 (ww2 x), .int .u64 (ww1 x), .int .u64 (ww0 x), .int .u64 (ww3 y), .int .u64 (ww2 y), .int .u64 (ww1 y), .int .u64 (ww0 y), .int .u64 (ww3 z), .int .u64 (ww2 z), .int .u64 (ww1 z), .int .u64 (ww0 z)] from rfl] at X0
  cases hb : ptB x y z
  · rw [hb] at C0
    rw [if_neg (by decide)]
    clear hb
    obtain ⟨c0, c1, c2, c3, c4, c5, c6, c7, c8, c9, c10, c11⟩ := X0.cs12
    go_enter Try.func24, Try.ntmps24
    go_wp2_with fail
    refine (C0 _).mono ?_
    rintro e w1 ⟨rfl, hB⟩
    have HB2 := HB.trans (hB.mono HB.size)
    clear hB
    go_wp2
    go_ret
    exact ⟨rfl, HB2⟩
  · rw [hb] at C0
    rw [if_pos rfl]
    clear hb
    obtain ⟨c0, c1, c2, c3, c4, c5, c6, c7, c8, c9, c10, c11⟩ := X0.cs12
    have hsz1 : (txS x ++ ⟨#[44]⟩).size = (txS x).size + 1 := by rw [ByteArray.size_append]; rfl
    have r1 : ¬ (9223372036854775807 < (txS x).size + 1) := by omega
    have r2 : ¬ (9223372036854775807 < (txS x).size + 1 + (txS y).size) := by omega
    have q2 : ¬ (9223372036854775807 < (txS x ++ ⟨#[44]⟩).size + (txS y).size) := by omega
    have tok1 : True := trivial
    go_enter Try.func24, Try.ntmps24
    go_wp2_with fail
    refine (C0 _).mono ?_
    rintro e w1 ⟨rfl, hB⟩
    replace X0 := X0.step hB
    replace HB := HB.trans (hB.mono HB.size)
    clear hB C0 c0 c1 c2 c3 c4 c5 c6 c7 c8 c9 c10 c11
    obtain ⟨c0, c1, c2, c3, c4, c5, c6, c7, c8, c9, c10, c11⟩ := X0.cs12
    go_wp2_with fail
    refine (CO _).mono ?_
    rintro e w2 ⟨s1, o1, n1, k1, d1, s2, o2, n2, k2, d2, s3, o3, n3, k3, d3, rfl, N1, N2, N3, hB⟩
    replace HB := HB.trans (hB.mono HB.size)
    clear hB CO X0 c0 c1 c2 c3 c4 c5 c6 c7 c8 c9 c10 c11
    generalize k1 = c1 at *
    generalize k2 = c2 at *
    generalize k3 = c3 at *
    have X0 := Blk.new w2 [.bool s1, .slice o1 n1 c1, .bool s2, .slice o2 n2 c2, .bool s3, .slice o3 n3 c3] 95 rfl
    rw [show ([.bool s1, .slice o1 n1 c1, .bool s2, .slice o2 n2 c2, .bool s3, .slice o3 n3 c3] : List Value).toArray = #[.bool s1, .slice o1 n1 c1, .bool s2, .slice o2 n2 c2, .bool s3, .slice o3 n3 c3] from rfl] at X0
    replace HB := HB.alloc HB.size (.cells #[.bool s1, .slice o1 n1 c1, .bool s2, .slice o2 n2 c2, .bool s3, .slice o3 n3 c3] 95)
    replace N1 := N1.alloc (.cells #[.bool s1, .slice o1 n1 c1, .bool s2, .slice o2 n2 c2, .bool s3, .slice o3 n3 c3] 95)
    replace N2 := N2.alloc (.cells #[.bool s1, .slice o1 n1 c1, .bool s2, .slice o2 n2 c2, .bool s3, .slice o3 n3 c3] 95)
    replace N3 := N3.alloc (.cells #[.bool s1, .slice o1 n1 c1, .bool s2, .slice o2 n2 c2, .bool s3, .slice o3 n3 c3] 95)
    go_upto_region 4 with fail
    generalize (w2.alloc (.cells #[.bool s1, .slice o1 n1 c1, .bool s2, .slice o2 n2 c2, .bool s3, .slice o3 n3 c3] 95)) = W at *
    generalize w2.heap.size = g at *
    go_cut [4] (fun p wx => p = .string (txS x ++ ⟨#[44]⟩ ++ txS y) ∧ Blk wx g [.bool s1, .slice o1 n1 c1, .bool s2, .slice o2 n2 c2, .bool s3, .slice o3 n3 c3] ∧ Below w.heap.size w wx ∧ IsNum wx s1 o1 n1 c1 d1 x 8 ∧ IsNum wx s2 o2 n2 c2 d2 y 8 ∧ IsNum wx s3 o3 n3 c3 d3 z 8)
    case first =>
      go_region_held3 (fun w' => w'.cell? ⟨g, 0, none⟩ = some (.bool s1) ∧ w'.cell? ⟨g, 1, none⟩ = some (.slice o1 n1 c1) ∧ w'.cell? ⟨g, 2, none⟩ = some (.bool s2) ∧ w'.cell? ⟨g, 3, none⟩ = some (.slice o2 n2 c2) ∧ w'.cell? ⟨g, 4, none⟩ = some (.bool s3) ∧ w'.cell? ⟨g, 5, none⟩ = some (.slice o3 n3 c3)) (first | (with_reducible exact X0.cs6) | (with_reducible exact X0.drew.cs6))
        (first
          | (go_at_call 42; have _t := tok1; refine (l1Text_any s1 o1 n1 c1 d1 x 8 _ (by first | (with_reducible exact N1) | (with_reducible exact N1.drew)) (by omega)).mono ?_; rintro e w5 ⟨rfl, hB⟩; (first | (replace X0 := X0.step hB; replace HB := HB.trans (hB.mono HB.size); replace N1 := N1.step hB; replace N2 := N2.step hB; replace N3 := N3.step hB) | (replace X0 := X0.drew.step hB; replace HB := HB.drew.trans (hB.mono HB.size); replace N1 := N1.drew.step hB; replace N2 := N2.drew.step hB; replace N3 := N3.drew.step hB)); clear hB tok1 _t)
          | (go_at_call 42; refine (l1Text_any s2 o2 n2 c2 d2 y 8 _ (by first | (with_reducible exact N2) | (with_reducible exact N2.drew)) (by omega)).mono ?_; rintro e w6 ⟨rfl, hB⟩; (first | (replace X0 := X0.step hB; replace HB := HB.trans (hB.mono HB.size); replace N1 := N1.step hB; replace N2 := N2.step hB; replace N3 := N3.step hB) | (replace X0 := X0.drew.step hB; replace HB := HB.drew.trans (hB.mono HB.size); replace N1 := N1.drew.step hB; replace N2 := N2.drew.step hB; replace N3 := N3.drew.step hB)); clear hB))
      all_goals go_wp2_with fail
      all_goals go_meet
      all_goals exact ⟨rfl, X0, HB, N1, N2, N3⟩
    case rest =>
      clear X0 HB N1 N2 N3 tok1
      obtain ⟨hp, X0, HB, N1, N2, N3⟩ := hcut
      subst hp
      generalize wc = W2 at *
      rename_i hk
      refine hk _ _ ?_
      clear hk
      go_upto_region 5 with fail
      go_cut [22] (fun p wx => p = .bool (decide (z = 1)) ∧ Blk wx g [.bool s1, .slice o1 n1 c1, .bool s2, .slice o2 n2 c2, .bool s3, .slice o3 n3 c3] ∧ Below w.heap.size w wx ∧ IsNum wx s3 o3 n3 c3 d3 z 8)
      case first =>
        go_region_held3 (fun w' => w'.cell? ⟨g, 0, none⟩ = some (.bool s1) ∧ w'.cell? ⟨g, 1, none⟩ = some (.slice o1 n1 c1) ∧ w'.cell? ⟨g, 2, none⟩ = some (.bool s2) ∧ w'.cell? ⟨g, 3, none⟩ = some (.slice o2 n2 c2) ∧ w'.cell? ⟨g, 4, none⟩ = some (.bool s3) ∧ w'.cell? ⟨g, 5, none⟩ = some (.slice o3 n3 c3)) (first | (with_reducible exact X0.cs6) | (with_reducible exact X0.drew.cs6))
          (first
            | (go_at_call 57; refine (int_any 1 _ (by decide) (by decide)).mono ?_; rintro e w3 ⟨s5, o5, n5, c5, d5, rfl, N5, hB⟩; (first | (replace X0 := X0.step hB; replace HB := HB.trans (hB.mono HB.size); replace N1 := N1.step hB; replace N2 := N2.step hB; replace N3 := N3.step hB) | (replace X0 := X0.drew.step hB; replace HB := HB.drew.trans (hB.mono HB.size); replace N1 := N1.drew.step hB; replace N2 := N2.drew.step hB; replace N3 := N3.drew.step hB)); clear hB)
            | (go_at_call 56; refine (cmp_any s3 s5 o3 o5 n3 n5 c3 c5 8 d3 d5 _ _ _ N3 (num_more N5 (by omega)) (by omega)).mono ?_; rintro e w4 ⟨rfl, hB⟩; (first | (replace X0 := X0.step hB; replace HB := HB.trans (hB.mono HB.size); replace N1 := N1.step hB; replace N2 := N2.step hB; replace N3 := N3.step hB) | (replace X0 := X0.drew.step hB; replace HB := HB.drew.trans (hB.mono HB.size); replace N1 := N1.drew.step hB; replace N2 := N2.drew.step hB; replace N3 := N3.drew.step hB)); clear hB N5))
        all_goals go_wp2_with fail
        all_goals go_meet
        all_goals exact ⟨by rw [show (cmpI z 1 == 0) = decide (z = 1) from cmp_one z], X0, HB, N3⟩
      case rest =>
        clear X0 HB N1 N2 N3
        obtain ⟨hp, X0, HB, N3⟩ := hcut
        subst hp
        generalize wc = W3 at *
        rename_i hk
        refine hk _ _ ?_
        clear hk
        obtain ⟨e0, e1, e2, e3, e4, e5⟩ := X0.cs6
        by_cases h1 : z = 1
        · have HO : Hid (strL (ptL x y z) = txS x ++ ⟨#[44]⟩ ++ txS y) := by
            show _ = _
            unfold ptL
            rw [h1, unL_one, List.append_nil, strL_append, show (44 :: txL y) = [44] ++ txL y from rfl, strL_append, ← ByteArray.append_assoc]
            rfl
          rw [decide_eq_true h1]
          clear h1
          go_wp2
          go_ret
          exact ⟨by rw [HO.out]; rfl, HB⟩
        · have hcat : Hid (txS x ++ ⟨#[44]⟩ ++ txS y ++ ⟨#[47]⟩ ++ txS z = strL (ptL x y z)) := by
            show _ = _
            unfold ptL
            rw [unL_not h1, strL_append, show (44 :: (txL y ++ 47 :: txL z)) = [44] ++ (txL y ++ ([47] ++ txL z)) from rfl, strL_append, strL_append, strL_append, ← ByteArray.append_assoc, ← ByteArray.append_assoc, ← ByteArray.append_assoc]
            rfl
          have hsz2 : (txS x ++ ⟨#[44]⟩ ++ txS y).size = (txS x).size + 1 + (txS y).size := by rw [ByteArray.size_append, hsz1]
          have hsz3 : (txS x ++ ⟨#[44]⟩ ++ txS y ++ ⟨#[47]⟩).size = (txS x).size + 1 + (txS y).size + 1 := by rw [ByteArray.size_append, hsz2]; rfl
          have r3 : ¬ (9223372036854775807 < (txS x).size + 1 + (txS y).size + 1) := by omega
          have r4 : ¬ (9223372036854775807 < (txS x).size + 1 + (txS y).size + 1 + (txS z).size) := by omega
          rw [decide_eq_false h1]
          clear h1
          go_wp2_with fail
          refine (l1Text_any s3 o3 n3 c3 d3 z 8 _ N3 (by omega)).mono ?_
          rintro e w7 ⟨rfl, hB⟩
          have HB2 := HB.trans (hB.mono HB.size)
          clear hB X0 HB N3
          go_wp2
          go_ret
          exact ⟨by rw [← hcat.out]; rfl, HB2⟩
end Go.Proofs.Ytnnojeggjnddpaa

/- Texts of points drawn from a code. -/
namespace Go.Proofs.Ytnnojeggjnddpaa
open Go.RowKit
/-- Some text of at most 400 bytes. -/
def TxtP (w : World) (e : Ending) (w' : World) : Prop := ∃ t : ByteArray, e = .returned (.string t) ∧ t.size ≤ 400 ∧ Below w.heap.size w w'
theorem pt_size {x y z : Int} (hx : told x = true) (hy : told y = true) (hz : told z = true) : (strL (if ptB x y z = true then ptL x y z else [])).size ≤ 300 := by
  rw [strL_size]
  split
  · have h1 := txS_le hx
    have h3 := txS_le hy
    have h2 := unL_le hz
    unfold txS at h1 h3
    rw [strL_size] at h1 h2 h3
    unfold ptL
    rw [List.length_append, List.length_cons, List.length_append]
    omega
  · simp
def OnePP (w : World) (e : Ending) (w' : World) : Prop := ∃ x y z : Int, e = .returned (.agg #[.int .u64 (ww3 x), .int .u64 (ww2 x), .int .u64 (ww1 x), .int .u64 (ww0 x), .int .u64 (ww3 y), .int .u64 (ww2 y), .int .u64 (ww1 y), .int .u64 (ww0 y), .int .u64 (ww3 z), .int .u64 (ww2 z), .int .u64 (ww1 z), .int .u64 (ww0 z)]) ∧ told x = true ∧ told y = true ∧ told z = true ∧ Below w.heap.size w w'
set_option maxRecDepth 100000 in
set_option maxHeartbeats 8000000 in
theorem drawPointText_any (ao : Option Addr) (n cap : Nat) (cs : List Int) (w : World) (h : Code w ao n cs) : Calls Try.prog 39 #[.slice ao n cap] w (OnePP w) := by
  have B0 := Blk.new w [.int .u64 0, .int .u64 0, .int .u64 0, .int .u64 0, .int .u64 0, .int .u64 0, .int .u64 0, .int .u64 0, .int .u64 0, .int .u64 0, .int .u64 0, .int .u64 0] 47 rfl
  rw [show ([.int .u64 0, .int .u64 0, .int .u64 0, .int .u64 0, .int .u64 0, .int .u64 0, .int .u64 0, .int .u64 0, .int .u64 0, .int .u64 0, .int .u64 0, .int .u64 0] : List Value).toArray = #[.int .u64 0, .int .u64 0, .int .u64 0, .int .u64 0, .int .u64 0, .int .u64 0, .int .u64 0, .int .u64 0, .int .u64 0, .int .u64 0, .int .u64 0, .int .u64 0] from rfl] at B0
  have HB : Below w.heap.size w (w.alloc (.cells #[.int .u64 0, .int .u64 0, .int .u64 0, .int .u64 0, .int .u64 0, .int .u64 0, .int .u64 0, .int .u64 0, .int .u64 0, .int .u64 0, .int .u64 0, .int .u64 0] 47)) := (Below.refl _ _).alloc (Nat.le_refl _) _
  replace h := h.below HB
  go_enter Try.func39, Try.ntmps39
  go_wp2_with fail
  refine (open_any ao n cap cs _ h).mono ?_
  rintro e w1 ⟨g, rfl, hG, R, hB⟩
  simp at hG
  have h0 : w.heap.size ≠ g := by omega
  replace B0 := B0.step hB
  replace HB : Below w.heap.size w w1 := HB.trans (hB.mono HB.size)
  have hl := HB.size
  clear h hB
  go_wp2_with fail
  refine (point_any g ao n cap cs _ R).mono ?_
  rintro e w2 ⟨_, rfl, ⟨x, y, z, rfl, tx, ty, tz⟩, R1, K⟩
  replace B0 := B0.kept K h0
  replace HB : Below w.heap.size w w2 := HB.trans (K.below (by omega) hl)
  have dl := B0.lt
  have o0 := B0.c 0 rfl; have f0 := B0.f 0 rfl; have o1 := B0.c 1 rfl; have f1 := B0.f 1 rfl; have o2 := B0.c 2 rfl; have f2 := B0.f 2 rfl; have o3 := B0.c 3 rfl; have f3 := B0.f 3 rfl; have o4 := B0.c 4 rfl; have f4 := B0.f 4 rfl; have o5 := B0.c 5 rfl; have f5 := B0.f 5 rfl; have o6 := B0.c 6 rfl; have f6 := B0.f 6 rfl; have o7 := B0.c 7 rfl; have f7 := B0.f 7 rfl; have o8 := B0.c 8 rfl; have f8 := B0.f 8 rfl; have o9 := B0.c 9 rfl; have f9 := B0.f 9 rfl; have o10 := B0.c 10 rfl; have f10 := B0.f 10 rfl; have o11 := B0.c 11 rfl; have f11 := B0.f 11 rfl
  clear K R R1
  go_wp2
  refine bodyPost_ret (v := .agg #[.int .u64 (ww3 x), .int .u64 (ww2 x), .int .u64 (ww1 x), .int .u64 (ww0 x), .int .u64 (ww3 y), .int .u64 (ww2 y), .int .u64 (ww1 y), .int .u64 (ww0 y), .int .u64 (ww3 z), .int .u64 (ww2 z), .int .u64 (ww1 z), .int .u64 (ww0 z)]) (by simp [results, Try.results39, go_sem, o0, o1, o2, o3, o4, o5, o6, o7, o8, o9, o10, o11]) rfl ?_
  have HBF : Below w.heap.size w _ := ((((((((((((HB.setCell (p := ⟨w.heap.size, 0, none⟩) (Nat.le_refl _) (.int .u64 (ww3 x))).setCell (p := ⟨w.heap.size, 1, none⟩) (Nat.le_refl _) (.int .u64 (ww2 x))).setCell (p := ⟨w.heap.size, 2, none⟩) (Nat.le_refl _) (.int .u64 (ww1 x))).setCell (p := ⟨w.heap.size, 3, none⟩) (Nat.le_refl _) (.int .u64 (ww0 x))).setCell (p := ⟨w.heap.size, 4, none⟩) (Nat.le_refl _) (.int .u64 (ww3 y))).setCell (p := ⟨w.heap.size, 5, none⟩) (Nat.le_refl _) (.int .u64 (ww2 y))).setCell (p := ⟨w.heap.size, 6, none⟩) (Nat.le_refl _) (.int .u64 (ww1 y))).setCell (p := ⟨w.heap.size, 7, none⟩) (Nat.le_refl _) (.int .u64 (ww0 y))).setCell (p := ⟨w.heap.size, 8, none⟩) (Nat.le_refl _) (.int .u64 (ww3 z))).setCell (p := ⟨w.heap.size, 9, none⟩) (Nat.le_refl _) (.int .u64 (ww2 z))).setCell (p := ⟨w.heap.size, 10, none⟩) (Nat.le_refl _) (.int .u64 (ww1 z))).setCell (p := ⟨w.heap.size, 11, none⟩) (Nat.le_refl _) (.int .u64 (ww0 z)))
  exact ⟨x, y, z, rfl, tx, ty, tz, HBF⟩
set_option maxRecDepth 100000 in
set_option maxHeartbeats 8000000 in
theorem drawReadPoint_any (ao : Option Addr) (n cap : Nat) (cs : List Int) (w : World) (h : Code w ao n cs) : Calls Try.prog 41 #[.slice ao n cap] w (TxtP w) := by
  go_enter Try.func41, Try.ntmps41
  go_wp2_with fail
  refine (open_any ao n cap cs _ h).mono ?_
  rintro e w1 ⟨g, rfl, hG, R, HB⟩
  have hl := HB.size
  clear h
  go_wp2_with fail
  refine (point_any g ao n cap cs _ R).mono ?_
  rintro e w2 ⟨_, rfl, ⟨x, y, z, rfl, tx, ty, tz⟩, R1, K⟩
  clear R
  have CT := specPtText_det x y z tx ty tz
  have hT : (strL (if ptB x y z = true then ptL x y z else [])).size ≤ 300 := pt_size tx ty tz
  generalize strL (if ptB x y z = true then ptL x y z else []) = T at *
  go_wp2_with fail
  refine (CT _).mono ?_
  rintro e w3 ⟨rfl, hB⟩
  have R := R1.step hB
  replace K := K.trans (Kept.of hB)
  clear R1 hB CT
  go_wp2_with fail
  refine (below_any 8 (by decide) (by decide) g ao n cap cs _ R).mono ?_
  rintro e w4 ⟨_, rfl, ⟨v, rfl, v0, v1⟩, R4, K4⟩
  replace K := K.trans K4
  clear R K4
  have R := R4
  clear R4
  by_cases hv0 : v = 0
  · subst hv0
    have G := Blk.new w4 [.string ⟨#[47, 49]⟩, .string ⟨#[47, 50]⟩, .string ⟨#[44, 49]⟩, .string ⟨#[48]⟩, .string ⟨#[32]⟩] 9 rfl
    rw [show ([.string ⟨#[47, 49]⟩, .string ⟨#[47, 50]⟩, .string ⟨#[44, 49]⟩, .string ⟨#[48]⟩, .string ⟨#[32]⟩] : List Value).toArray = #[.string ⟨#[47, 49]⟩, .string ⟨#[47, 50]⟩, .string ⟨#[44, 49]⟩, .string ⟨#[48]⟩, .string ⟨#[32]⟩] from rfl] at G
    have hgl := R.lt
    have hgn : w4.heap.size ≠ g := by omega
    replace R := R.alloc (.cells #[.string ⟨#[47, 49]⟩, .string ⟨#[47, 50]⟩, .string ⟨#[44, 49]⟩, .string ⟨#[48]⟩, .string ⟨#[32]⟩] 9)
    replace K := K.alloc (.cells #[.string ⟨#[47, 49]⟩, .string ⟨#[47, 50]⟩, .string ⟨#[44, 49]⟩, .string ⟨#[48]⟩, .string ⟨#[32]⟩] 9)
    go_wp2_with fail
    refine (below_any 5 (by decide) (by decide) g ao n cap cs _ R).mono ?_
    rintro e w6 ⟨_, rfl, ⟨j, rfl, j0, j1⟩, R6, K6⟩
    replace G := G.kept K6 hgn
    replace K := K.trans K6
    obtain ⟨k, rfl⟩ : ∃ k : Nat, j = k := ⟨j.toNat, by omega⟩
    obtain ⟨u, hu, hus⟩ : ∃ u : ByteArray, w6.cell? ⟨w4.heap.size, k, none⟩ = some (.string u) ∧ u.size ≤ 100 := by
      rcases (by omega : k = 0 ∨ k = 1 ∨ k = 2 ∨ k = 3 ∨ k = 4) with rfl | rfl | rfl | rfl | rfl
      · exact ⟨_, G.c 0 rfl, by decide⟩
      · exact ⟨_, G.c 1 rfl, by decide⟩
      · exact ⟨_, G.c 2 rfl, by decide⟩
      · exact ⟨_, G.c 3 rfl, by decide⟩
      · exact ⟨_, G.c 4 rfl, by decide⟩
    have q1 : ¬ (9223372036854775807 < T.size + u.size) := by omega
    have HBF := HB.trans (K.below hG hl)
    clear G R R6 K6 K HB
    go_wp2
    go_ret
    exact ⟨_, rfl, by rw [ByteArray.size_append]; omega, HBF⟩
  · have b0 : (v == 0) = false := beq_eq_false_iff_ne.2 hv0
    by_cases hv1 : v = 1
    · subst hv1
      have G := Blk.new w4 [.string ⟨#[50, 44, 52, 47, 50]⟩, .string ⟨#[49, 44, 50]⟩, .string ⟨#[45, 49, 44, 48, 47, 51]⟩, .string ⟨#[44]⟩, .string ⟨#[49, 44, 50, 47, 45, 51]⟩, .string ⟨#[49, 47, 50, 44, 51]⟩, .string ⟨#[48, 44, 48, 47, 50]⟩, .string ⟨#[]⟩] 9 rfl
      rw [show ([.string ⟨#[50, 44, 52, 47, 50]⟩, .string ⟨#[49, 44, 50]⟩, .string ⟨#[45, 49, 44, 48, 47, 51]⟩, .string ⟨#[44]⟩, .string ⟨#[49, 44, 50, 47, 45, 51]⟩, .string ⟨#[49, 47, 50, 44, 51]⟩, .string ⟨#[48, 44, 48, 47, 50]⟩, .string ⟨#[]⟩] : List Value).toArray = #[.string ⟨#[50, 44, 52, 47, 50]⟩, .string ⟨#[49, 44, 50]⟩, .string ⟨#[45, 49, 44, 48, 47, 51]⟩, .string ⟨#[44]⟩, .string ⟨#[49, 44, 50, 47, 45, 51]⟩, .string ⟨#[49, 47, 50, 44, 51]⟩, .string ⟨#[48, 44, 48, 47, 50]⟩, .string ⟨#[]⟩] from rfl] at G
      have hgl := R.lt
      have hgn : w4.heap.size ≠ g := by omega
      replace R := R.alloc (.cells #[.string ⟨#[50, 44, 52, 47, 50]⟩, .string ⟨#[49, 44, 50]⟩, .string ⟨#[45, 49, 44, 48, 47, 51]⟩, .string ⟨#[44]⟩, .string ⟨#[49, 44, 50, 47, 45, 51]⟩, .string ⟨#[49, 47, 50, 44, 51]⟩, .string ⟨#[48, 44, 48, 47, 50]⟩, .string ⟨#[]⟩] 9)
      replace K := K.alloc (.cells #[.string ⟨#[50, 44, 52, 47, 50]⟩, .string ⟨#[49, 44, 50]⟩, .string ⟨#[45, 49, 44, 48, 47, 51]⟩, .string ⟨#[44]⟩, .string ⟨#[49, 44, 50, 47, 45, 51]⟩, .string ⟨#[49, 47, 50, 44, 51]⟩, .string ⟨#[48, 44, 48, 47, 50]⟩, .string ⟨#[]⟩] 9)
      go_wp2_with fail
      refine (below_any 8 (by decide) (by decide) g ao n cap cs _ R).mono ?_
      rintro e w6 ⟨_, rfl, ⟨j, rfl, j0, j1⟩, R6, K6⟩
      replace G := G.kept K6 hgn
      replace K := K.trans K6
      obtain ⟨k, rfl⟩ : ∃ k : Nat, j = k := ⟨j.toNat, by omega⟩
      obtain ⟨u, hu, hus⟩ : ∃ u : ByteArray, w6.cell? ⟨w4.heap.size, k, none⟩ = some (.string u) ∧ u.size ≤ 100 := by
        rcases (by omega : k = 0 ∨ k = 1 ∨ k = 2 ∨ k = 3 ∨ k = 4 ∨ k = 5 ∨ k = 6 ∨ k = 7) with rfl | rfl | rfl | rfl | rfl | rfl | rfl | rfl
        · exact ⟨_, G.c 0 rfl, by decide⟩
        · exact ⟨_, G.c 1 rfl, by decide⟩
        · exact ⟨_, G.c 2 rfl, by decide⟩
        · exact ⟨_, G.c 3 rfl, by decide⟩
        · exact ⟨_, G.c 4 rfl, by decide⟩
        · exact ⟨_, G.c 5 rfl, by decide⟩
        · exact ⟨_, G.c 6 rfl, by decide⟩
        · exact ⟨_, G.c 7 rfl, by decide⟩
      have q1 : ¬ (9223372036854775807 < T.size + u.size) := by omega
      have HBF := HB.trans (K.below hG hl)
      clear G R R6 K6 K HB
      go_wp2
      go_ret
      exact ⟨_, rfl, by omega, HBF⟩
    · have b1 : (v == 1) = false := beq_eq_false_iff_ne.2 hv1
      have HBF := HB.trans (K.below hG hl)
      clear R K HB
      go_wp2
      go_ret
      exact ⟨_, rfl, by omega, HBF⟩
end Go.Proofs.Ytnnojeggjnddpaa

/- Ten times a number of four words and one more digit. -/
namespace Go.Proofs.Ytnnojeggjnddpaa
open Go.RowKit
theorem ix4 (x0 x1 x2 x3 : Int) (k : Nat) (hk : k < [x0, x1, x2, x3].length) (w : World) : (Instr.index 70 (.agg #[.int .u64 x0, .int .u64 x1, .int .u64 x2, .int .u64 x3]) (.int .i64 k)).run Try.prog w = .ok (.int .u64 [x0, x1, x2, x3][k]) w := by
  match k, hk with
  | 0, _ => exact (show (Instr.index 70 (.agg #[.int .u64 x0, .int .u64 x1, .int .u64 x2, .int .u64 x3]) (.int .i64 ((0 : Nat) : Int))).run Try.prog w = .ok (.int .u64 x0) w by kernel_rfl)
  | 1, _ => exact (show (Instr.index 70 (.agg #[.int .u64 x0, .int .u64 x1, .int .u64 x2, .int .u64 x3]) (.int .i64 ((1 : Nat) : Int))).run Try.prog w = .ok (.int .u64 x1) w by kernel_rfl)
  | 2, _ => exact (show (Instr.index 70 (.agg #[.int .u64 x0, .int .u64 x1, .int .u64 x2, .int .u64 x3]) (.int .i64 ((2 : Nat) : Int))).run Try.prog w = .ok (.int .u64 x2) w by kernel_rfl)
  | 3, _ => exact (show (Instr.index 70 (.agg #[.int .u64 x0, .int .u64 x1, .int .u64 x2, .int .u64 x3]) (.int .i64 ((3 : Nat) : Int))).run Try.prog w = .ok (.int .u64 x3) w by kernel_rfl)
/-- The words ahead of a place, ten times; what is over. -/
structure TfI (xs zs : List Int) (d : Int) (k : Nat) (o : Int) : Prop where
  len : zs.length = 4
  wds : Words zs
  o0 : 0 ≤ o
  o1 : o < 10
  eq : val64 (zs.take k) + pw64 k * o = 10 * val64 (xs.take k) + d
theorem tf_start {xs : List Int} (hl : xs.length = 4) (hx : Words xs) {d : Int} (h0 : 0 ≤ d) (h1 : d < 10) : TfI xs xs d 0 d :=
  ⟨hl, hx, h0, h1, by simp [val64, pw64]⟩
theorem tf_step {xs zs : List Int} {d : Int} {k : Nat} {o : Int} (h : TfI xs zs d k o) (hk : k < xs.length) (hz : k < zs.length) (hx : Word xs[k]) (t : Int) (ht : t = xs[k] * 10 + o) : TfI xs (zs.set k (t % 18446744073709551616)) d (k + 1) (t / 18446744073709551616) := by
  obtain ⟨h1, h2, h3, h4, h5⟩ := h
  unfold Word at hx
  refine ⟨by simpa using h1, words_set h2 k ⟨by omega, by omega⟩, by omega, by omega, ?_⟩
  rw [val64_take (zs.set k (t % 18446744073709551616)) k (by simpa using hz), List.getElem_set_self, val64_take xs k hk, List.take_set_of_le (Nat.le_refl k), pw64]
  have e2 : t = t % 18446744073709551616 + 18446744073709551616 * (t / 18446744073709551616) := by omega
  generalize t / 18446744073709551616 = q at *
  generalize t % 18446744073709551616 = r at *
  generalize xs[k] = x at *
  generalize pw64 k = p at *
  generalize val64 (zs.take k) = a at *
  generalize val64 (xs.take k) = b at *
  clear h1 h2
  grind
theorem tf_arith {x o : Int} (h0 : 0 ≤ o) (h1 : o < 10) : Word (x * 10 % 18446744073709551616) ∧ Word o ∧ (x * 10 % 18446744073709551616 + o) % 18446744073709551616 = (x * 10 + o) % 18446744073709551616 ∧ x * 10 / 18446744073709551616 + (x * 10 % 18446744073709551616 + o) / 18446744073709551616 = (x * 10 + o) / 18446744073709551616 := by
  unfold Word at *
  omega
set_option maxRecDepth 100000 in
set_option maxHeartbeats 1000000 in
theorem tenfold_any (xs : List Int) (d : Int) (hl : xs.length = 4) (hx : Words xs) (h0 : 0 ≤ d) (h1 : d < 10) (hb : 10 * val64 xs + d < 115792089237316195423570985008687907853269984665640564039457584007913129639936) (w : World) : Calls Try.prog 51 #[agg xs, .int .u64 d] w (AggP 4 (10 * val64 xs + d) w) := by
  have HI : Hid (TfI xs xs d 0 d) := tf_start hl hx h0 h1
  have HX : Hid (Words xs) := hx
  have HL : Hid (xs.length = 4) := hl
  have HBD : Hid (10 * val64 xs + d < 115792089237316195423570985008687907853269984665640564039457584007913129639936) := hb
  obtain ⟨x0, x1, x2, x3, hxs⟩ := list4 hl
  have HA : agg xs = .agg #[.int .u64 x0, .int .u64 x1, .int .u64 x2, .int .u64 x3] := by rw [hxs]; rfl
  have AG := ix4 x0 x1 x2 x3
  rw [← hxs] at AG
  rw [HA]
  have HS : Mk w ((w.alloc (.cells #[.int .u64 x0, .int .u64 x1, .int .u64 x2, .int .u64 x3] 70)).alloc (.cells #[.int .u64 0, .int .u64 0, .int .u64 0, .int .u64 0] 70)) (w.heap.size + 1) w.heap.size (List.replicate 4 (.int .u64 0)) xs :=
    ⟨((Below.refl _ _).alloc (Nat.le_refl _) _).alloc (by simp) _, Blk.new _ [.int .u64 0, .int .u64 0, .int .u64 0, .int .u64 0] _ (by simp), by rw [hxs]; exact (Blk.new w [.int .u64 x0, .int .u64 x1, .int .u64 x2, .int .u64 x3] _ rfl).alloc _⟩
  clear hl hx HA hxs hb
  go_enter Try.func51, Try.ntmps51
  go_wp2
  generalize ((w.alloc (.cells #[.int .u64 x0, .int .u64 x1, .int .u64 x2, .int .u64 x3] 70)).alloc (.cells #[.int .u64 0, .int .u64 0, .int .u64 0, .int .u64 0] 70)) = W at *
  go_loopw [5, 13] (fun ov i wr => ∃ (k : Nat) (o : Int) (zs : List Int), k ≤ 4 ∧ i = .int .i64 k ∧ ov = .int .u64 o ∧ TfI xs zs d k o ∧ Mk w wr (w.heap.size + 1) w.heap.size (List.replicate 4 (.int .u64 0)) zs) (fun _ i _ => 4 - (intOf i).toNat)
  case atStart => exact ⟨0, d, _, by omega, rfl, rfl, HI.out, HS⟩
  case round =>
    clear HI HS h0 h1
    obtain ⟨k, o, zs, hk, rfl, rfl, hI, hM⟩ := hrel
    have hlen := hI.len
    by_cases hk4 : k < 4
    · have hkx : k < xs.length := by have := HL.out; omega
      have ag := AG k hkx
      have hz : k < zs.length := by omega
      obtain ⟨q1, q2⟩ := hM.cp k hz
      have hwx : Word xs[k] := words_at HX.out k hkx
      obtain ⟨t1, t2, t3, t4⟩ := tf_arith (x := xs[k]) hI.o0 hI.o1
      obtain ⟨hi, ehi⟩ : ∃ v, xs[k] * 10 / 18446744073709551616 = v := ⟨_, rfl⟩
      obtain ⟨lo, elo⟩ : ∃ v, xs[k] * 10 % 18446744073709551616 = v := ⟨_, rfl⟩
      have M1 := mul64d xs[k] 10 hi lo hwx ⟨by decide, by decide⟩ ehi elo
      rw [elo] at t1 t3 t4
      rw [ehi] at t4
      obtain ⟨n1, en1⟩ : ∃ v, (lo + o) % 18446744073709551616 = v := ⟨_, rfl⟩
      obtain ⟨c1, ec1⟩ : ∃ v, (lo + o) / 18446744073709551616 = v := ⟨_, rfl⟩
      have A1 := add64d lo o n1 c1 t1 t2 en1 ec1
      have R1 := tf_step hI hkx hz hwx _ rfl
      rw [← t3, ← t4, en1, ec1] at R1
      have R2 : Hid (TfI xs (zs.set k n1) d (k + 1) (hi + c1)) := R1
      have d4 : 0 ≤ hi + c1 := R1.o0
      have d5 : hi + c1 < 10 := R1.o1
      have M3 : Hid (Mk w (wr.setCell ⟨w.heap.size, k, none⟩ (.int .u64 n1)) (w.heap.size + 1) w.heap.size (List.replicate 4 (.int .u64 0)) (zs.set k n1)) := hM.set (by omega) (Nat.le_refl _) k hz n1
      have hkI : (k : Int) < 4 := by omega
      clear hI hM t1 t2 t3 t4 ehi elo en1 ec1 R1 AG hwx
      go_wp2_with fail
      refine (M1 _).mono ?_
      rintro e w1 ⟨rfl, rfl⟩
      clear M1
      go_wp2
      go_roundw
      case rel => exact ⟨k + 1, _, _, by omega, by go_num, rfl, R2.out, M3.out⟩
      case measure => simp [intOf]; omega
    · obtain rfl : k = 4 := by omega
      have HV := hI.eq
      have HW := hI.wds
      have ho0 := hI.o0
      obtain ⟨z0, z1, z2, z3, rfl⟩ := list4 hlen
      obtain ⟨c0, f0⟩ := hM.cp 0 (by simp)
      obtain ⟨c1, f1⟩ := hM.cp 1 (by simp)
      obtain ⟨c2, f2⟩ := hM.cp 2 (by simp)
      obtain ⟨c3, f3⟩ := hM.cp 3 (by simp)
      have d0 := hM.r.c 0 rfl; have e0 := hM.r.f 0 rfl
      have d1 := hM.r.c 1 rfl; have e1 := hM.r.f 1 rfl
      have d2 := hM.r.c 2 rfl; have e2 := hM.r.f 2 rfl
      have d3 := hM.r.c 3 rfl; have e3 := hM.r.f 3 rfl
      have HB := hM.below
      simp only [List.getElem_cons_zero, List.getElem_cons_succ] at c0 c1 c2 c3
      have HV2 : Hid (val64 [z0, z1, z2, z3] = 10 * val64 xs + d) := by
        show _ = _
        rw [List.take_of_length_le (by simp), List.take_of_length_le (by rw [HL.out]; omega), show pw64 4 = 115792089237316195423570985008687907853269984665640564039457584007913129639936 by decide] at HV
        have h8 := val64_nonneg HW
        have h9 := HBD.out
        omega
      clear hI hM hlen HV ho0
      go_wp2
      refine bodyPost_ret (v := .agg #[.int .u64 z0, .int .u64 z1, .int .u64 z2, .int .u64 z3]) (by simp [results, Try.results51, go_sem, d0, d1, d2, d3]) rfl ?_
      refine ⟨[z0, z1, z2, z3], rfl, rfl, HW, HV2.out, ?_⟩
      repeat' (refine Below.setCell ?_ (by simp) _)
      exact HB
end Go.Proofs.Ytnnojeggjnddpaa

/- Texts of nine bytes: matrices and masks, on both sides. -/
namespace Go.Proofs.Ytnnojeggjnddpaa
open Go.RowKit
/-- The byte of a text at a place. -/
def bt (s : ByteArray) (i : Nat) : Nat := (s.data.toList.getD i 0).toNat
theorem bt_at {s : ByteArray} {i : Nat} (h : i < s.size) : s[i].toNat = bt s i := by
  have h2 : i < s.data.size := h
  show (s.data[i]).toNat = _
  unfold bt
  rw [List.getD_eq_getElem?_getD, Array.getElem?_toList, Array.getElem?_eq_getElem h2]; rfl
theorem bt_lt (s : ByteArray) (i : Nat) : bt s i < 256 := UInt8.toNat_lt _
/-- That a text has just the bytes of a list. -/
def Bytes (ts : ByteArray) (t : List Nat) : Prop := ∀ n : Nat, n < 256 → (0 ≤ Lib.indexByte ts.data.toList (Int.toNat (n : Int)).toUInt8 ↔ n ∈ t)
set_option maxRecDepth 100000 in
set_option maxHeartbeats 1000000 in
theorem idxB_any (s : ByteArray) (c : Int) (w : World) : Calls Try.prog 126 #[.string s, .int .u8 c] w (VP (.int .i64 (Lib.indexByte s.data.toList c.toNat.toUInt8)) w) := by
  go_enter Try.func126, Try.ntmps126
  go_wp2
  rw [run_callFunc_extern Try.func134 (by kernel_rfl) (by kernel_rfl) (by kernel_rfl) (e := Extern.BytealgIndexByte.indexByte) (by kernel_rfl), Lib.run_indexByteString]
  simp only [Result.andThen]
  rw [Oper.upon_value]
  go_wp2
  go_ret
  exact ⟨rfl, Below.refl _ _⟩
end Go.Proofs.Ytnnojeggjnddpaa

/- Whether a text is a number in decimal, and a text without its sign: the program's. -/
namespace Go.Proofs.Ytnnojeggjnddpaa
open Go.RowKit
theorem tl_data (s : ByteArray) : s.toList = s.data.toList := Lib.toList_data s
theorem tl_btL (s : ByteArray) : btL s = s.toList.map UInt8.toNat := by rw [tl_data]; rfl
theorem btL_getQ {s : ByteArray} {i : Nat} (h : i < s.size) : (btL s)[i]? = some (bt s i) := by
  have h2 : i < s.data.toList.length := h
  unfold btL bt
  rw [List.getElem?_map, List.getD_eq_getElem?_getD, List.getElem?_eq_getElem h2]
  rfl
theorem btL_get {s : ByteArray} {i : Nat} (h : i < (btL s).length) : (btL s)[i] = bt s i := (List.getElem?_eq_some_iff.1 (btL_getQ (by rw [btL_len] at h; exact h))).2
theorem tl_nil {s : ByteArray} : s.toList = [] ↔ btL s = [] := by rw [tl_btL, List.map_eq_nil_iff]
theorem tl_one {s : ByteArray} (c : UInt8) : s.toList = [c] ↔ btL s = [c.toNat] := by
  rw [tl_btL]
  constructor
  · intro h; rw [h]; rfl
  · intro h
    cases hl : s.toList with
    | nil => rw [hl] at h; simp at h
    | cons x l =>
      rw [hl] at h
      cases l with
      | nil => simp only [List.map_cons, List.map_nil, List.cons.injEq, and_true] at h; rw [UInt8.toNat_inj.1 h]
      | cons y m => simp at h
theorem btL_head {s : ByteArray} (h : 0 < s.size) : (btL s).head? = some (bt s 0) := by
  have h2 : 0 < (btL s).length := by rw [btL_len]; exact h
  rw [List.head?_eq_getElem?, List.getElem?_eq_getElem h2, btL_get h2]
theorem btL_mem {s : ByteArray} {P : Nat → Prop} : (∀ b ∈ btL s, P b) ↔ ∀ j, j < s.size → P (bt s j) := by
  rw [← btL_len]
  constructor
  · intro h j hj
    rw [← btL_get hj]
    exact h _ (List.getElem_mem hj)
  · intro h b hb
    obtain ⟨j, hj, rfl⟩ := List.getElem_of_mem hb
    rw [btL_get hj]
    exact h j hj
set_option maxRecDepth 100000 in
set_option maxHeartbeats 1000000 in
theorem isDecimal_any (s : ByteArray) (hm : s.size ≤ 9223372036854775807) (b : Bool) (hb : b = true ↔ DecL (btL s)) (w : World) : Calls Try.prog 50 #[.string s] w (VP (.bool b) w) := by
  have HB : Hid (b = true ↔ DecL (btL s)) := hb
  clear hb
  by_cases h0 : s.toList = []
  · obtain rfl : b = false := by
      cases b
      · rfl
      · exact absurd (tl_nil.1 h0) (HB.out.1 rfl).1
    have e1 : s.toList.isEmpty = true := by rw [h0]; rfl
    clear h0
    go_enter Try.func50, Try.ntmps50
    go_wp2
    go_ret
    exact ⟨rfl, Below.refl _ _⟩
  · have e1 : s.toList.isEmpty = false := by rw [List.isEmpty_eq_false_iff]; exact h0
    have hs : 0 < s.size := by
      rcases Nat.eq_zero_or_pos s.size with h | h
      · exact absurd (tl_nil.2 (List.length_eq_zero_iff.1 (by rw [btL_len]; exact h))) h0
      · exact h
    have hbt := bt_at hs
    have hlt := bt_lt s 0
    by_cases hz : bt s 0 = 48 ∧ ¬ s.toList = [48]
    · obtain ⟨hz0, hz1⟩ := hz
      obtain rfl : b = false := by
        cases b
        · rfl
        · exact absurd ((HB.out.1 rfl).2.1 (by rw [btL_head hs, hz0])) (fun h => hz1 ((tl_one 48).2 h))
      rw [hz0] at hbt
      have e2 : (s.toList == [48]) = false := beq_eq_false_iff_ne.2 hz1
      clear h0 hz1
      go_enter Try.func50, Try.ntmps50
      go_wp2
      go_ret
      exact ⟨rfl, Below.refl _ _⟩
    · have HZ : Hid ((btL s).head? = some 48 → btL s = [48]) := by
        intro h
        rw [btL_head hs] at h
        have h2 : bt s 0 = 48 := by simpa using h
        exact (tl_one 48).1 (Classical.byContradiction fun h3 => hz ⟨h2, h3⟩)
      have hcase : (bt s 0 = 48 ∧ s.toList = [48]) ∨ ¬ bt s 0 = 48 := by
        by_cases h2 : bt s 0 = 48
        · exact Or.inl ⟨h2, Classical.byContradiction fun h3 => hz ⟨h2, h3⟩⟩
        · exact Or.inr h2
      clear hz
      rcases hcase with ⟨h2, h3⟩ | h2
      · have hb0 : ((bt s 0 : Int) == 48) = true := by rw [h2]; rfl
        have e2 : (s.toList == [48]) = true := beq_iff_eq.2 h3
        have H0 : Hid (¬ s.toList = []) := h0
        clear h2 h3 h0
        go_enter Try.func50, Try.ntmps50
        go_wp2
        go_loop [17] (fun i => ∃ c : Nat, c ≤ s.size ∧ i = .int .i64 c ∧ ∀ j, j < c → isD (bt s j)) (fun i => s.size - (intOf i).toNat)
        case atStart => exact ⟨0, by omega, rfl, fun j hj => by omega⟩
        case round =>
          obtain ⟨c, hc, rfl, hI⟩ := hrel
          have HI : Hid (∀ j, j < c → isD (bt s j)) := hI
          clear hI hbt hlt
          by_cases hcs : c < s.size
          · have hbt := bt_at hcs
            have hlt := bt_lt s c
            have hcI : (c : Int) < s.size := by omega
            by_cases hd : isD (bt s c)
            · obtain ⟨hd1, hd2⟩ := hd
              have hd3 : ¬ ((bt s c : Int) < 48) := by omega
              have hd4 : ¬ ((57 : Int) < (bt s c : Int)) := by omega
              go_wp2
              go_round
              case rel => exact ⟨c + 1, by omega, by go_num, fun j hj => by
                by_cases e : j = c
                · rw [e]; exact ⟨hd1, hd2⟩
                · exact HI.out j (by omega)⟩
              case measure => simp [intOf]; omega
            · obtain rfl : b = false := by
                cases b
                · rfl
                · exact absurd (btL_mem.1 (HB.out.1 rfl).2.2 c hcs) hd
              by_cases hd1 : 48 ≤ bt s c
              · have hd3 : ¬ ((bt s c : Int) < 48) := by omega
                have hd4 : (57 : Int) < (bt s c : Int) := by unfold isD at hd; omega
                clear hd
                go_wp2
                go_ret
                exact ⟨rfl, Below.refl _ _⟩
              · have hd3 : (bt s c : Int) < 48 := by omega
                clear hd
                go_wp2
                go_ret
                exact ⟨rfl, Below.refl _ _⟩
          · obtain rfl : c = s.size := by omega
            obtain rfl : b = true := HB.out.2 ⟨fun h => H0.out (tl_nil.2 h), HZ.out, btL_mem.2 HI.out⟩
            go_wp2
            go_ret
            exact ⟨rfl, Below.refl _ _⟩
      · have hb0 : ((bt s 0 : Int) == 48) = false := beq_eq_false_iff_ne.2 (by omega)
        have H0 : Hid (¬ s.toList = []) := h0
        clear h2 h0
        go_enter Try.func50, Try.ntmps50
        go_wp2
        go_loop [17] (fun i => ∃ c : Nat, c ≤ s.size ∧ i = .int .i64 c ∧ ∀ j, j < c → isD (bt s j)) (fun i => s.size - (intOf i).toNat)
        case atStart => exact ⟨0, by omega, rfl, fun j hj => by omega⟩
        case round =>
          obtain ⟨c, hc, rfl, hI⟩ := hrel
          have HI : Hid (∀ j, j < c → isD (bt s j)) := hI
          clear hI hbt hlt
          by_cases hcs : c < s.size
          · have hbt := bt_at hcs
            have hlt := bt_lt s c
            have hcI : (c : Int) < s.size := by omega
            by_cases hd : isD (bt s c)
            · obtain ⟨hd1, hd2⟩ := hd
              have hd3 : ¬ ((bt s c : Int) < 48) := by omega
              have hd4 : ¬ ((57 : Int) < (bt s c : Int)) := by omega
              go_wp2
              go_round
              case rel => exact ⟨c + 1, by omega, by go_num, fun j hj => by
                by_cases e : j = c
                · rw [e]; exact ⟨hd1, hd2⟩
                · exact HI.out j (by omega)⟩
              case measure => simp [intOf]; omega
            · obtain rfl : b = false := by
                cases b
                · rfl
                · exact absurd (btL_mem.1 (HB.out.1 rfl).2.2 c hcs) hd
              by_cases hd1 : 48 ≤ bt s c
              · have hd3 : ¬ ((bt s c : Int) < 48) := by omega
                have hd4 : (57 : Int) < (bt s c : Int) := by unfold isD at hd; omega
                clear hd
                go_wp2
                go_ret
                exact ⟨rfl, Below.refl _ _⟩
              · have hd3 : (bt s c : Int) < 48 := by omega
                clear hd
                go_wp2
                go_ret
                exact ⟨rfl, Below.refl _ _⟩
          · obtain rfl : c = s.size := by omega
            obtain rfl : b = true := HB.out.2 ⟨fun h => H0.out (tl_nil.2 h), HZ.out, btL_mem.2 HI.out⟩
            go_wp2
            go_ret
            exact ⟨rfl, Below.refl _ _⟩
end Go.Proofs.Ytnnojeggjnddpaa

/- A text cut of its sign: the program's. -/
namespace Go.Proofs.Ytnnojeggjnddpaa
open Go.RowKit
theorem ex_head {s : ByteArray} (hs : 0 < s.size) : ((s.extract 0 1).toList == [45]) = decide ((btL s).head? = some 45) := by
  rw [Bool.eq_iff_iff, beq_iff_eq, decide_eq_true_iff, tl_one, btL_extract]
  have h : 0 < (btL s).length := by rw [btL_len]; exact hs
  cases hl : btL s with
  | nil => rw [hl] at h; simp at h
  | cons x t => simp
theorem ex_tail {s : ByteArray} (h : (btL s).head? = some 45) : s.extract 1 s.size = strL (cutM (btL s)) := by
  rw [← strL_btL (s.extract 1 s.size), btL_extract, ← btL_len]
  congr 1
  unfold cutM
  rw [if_pos h, List.drop_one, List.take_of_length_le (by simp)]
set_option maxRecDepth 100000 in
set_option maxHeartbeats 1000000 in
theorem cutPre_any (s : ByteArray) (hm : s.size ≤ 9223372036854775807) (b : Bool) (hb : b = decide ((btL s).head? = some 45)) (w : World) : Calls Try.prog 49 #[.string s, .string ⟨#[45]⟩] w (VP (.tuple #[.string (strL (cutM (btL s))), .bool b]) w) := by
  by_cases h : (btL s).head? = some 45
  · obtain rfl : b = true := by rw [hb]; exact decide_eq_true h
    have hs : 0 < s.size := by
      rw [← btL_len]
      cases hl : btL s with
      | nil => rw [hl] at h; simp at h
      | cons x t => simp
    have e1 := ex_head hs
    rw [← hb] at e1
    have e2 := ex_tail h
    have hs1 : (1 : Int) ≤ s.size := by omega
    clear h hb
    go_enter Try.func49, Try.ntmps49
    go_wp2
    refine bodyPost_ret (v := .tuple #[.string (strL (cutM (btL s))), .bool true]) (by simp [results, Try.results49, go_sem]) rfl ?_
    exact ⟨rfl, Below.refl _ _⟩
  · obtain rfl : b = false := by rw [hb]; exact decide_eq_false h
    have e2 : Hid (strL (cutM (btL s)) = s) := by show _ = _; rw [cutM_pos h, strL_btL]
    rw [e2.out]
    clear e2
    by_cases hs : 0 < s.size
    · have e1 := ex_head hs
      rw [← hb] at e1
      have hs1 : (1 : Int) ≤ s.size := by omega
      clear h hb
      go_enter Try.func49, Try.ntmps49
      go_wp2
      refine bodyPost_ret (v := .tuple #[.string s, .bool false]) (by simp [results, Try.results49, go_sem]) rfl ?_
      exact ⟨rfl, Below.refl _ _⟩
    · have hs1 : ¬ (1 : Int) ≤ s.size := by omega
      clear h hb
      go_enter Try.func49, Try.ntmps49
      go_wp2
      refine bodyPost_ret (v := .tuple #[.string s, .bool false]) (by simp [results, Try.results49, go_sem]) rfl ?_
      exact ⟨rfl, Below.refl _ _⟩
end Go.Proofs.Ytnnojeggjnddpaa

/- A number read from its text: the program's. -/
namespace Go.Proofs.Ytnnojeggjnddpaa
open Go.RowKit
/-- What is told of a text. -/
noncomputable def rdV (l : List Nat) : Value := @ite _ (RdOk l) (Classical.propDecidable _) (tellV (rdI l)) (.tuple #[W4 0, .bool false])
theorem rdV_yes {l : List Nat} (h : RdOk l) : rdV l = tellV (rdI l) := by unfold rdV; rw [if_pos h]
theorem rdV_no {l : List Nat} (h : ¬ RdOk l) : rdV l = .tuple #[W4 0, .bool false] := by unfold rdV; rw [if_neg h]
/-- While digits are read. -/
structure RwI (w wr : World) (g : Nat) (zs : List Int) (n : Nat) : Prop where
  below : Below w.heap.size w wr
  br : Blk wr w.heap.size [.int .u64 0, .int .u64 0, .int .u64 0, .int .u64 0]
  bs : Blk wr g (zs.map (Value.int .u64))
  zl : zs.length = 4
  zw : Words zs
  gl : w.heap.size < g
  eq : val64 zs = (n : Int)
theorem RwI.drew {w wr : World} {g : Nat} {zs : List Int} {n : Nat} (h : RwI w wr g zs n) : RwI w wr.drew g zs n := ⟨h.below.drew, h.br, h.bs, h.zl, h.zw, h.gl, h.eq⟩
theorem RwI.next {w wr w1 : World} {g : Nat} {zs ys : List Int} {n m : Nat} (h : RwI w wr g zs n) (hB : Below wr.heap.size wr w1) {y0 y1 y2 y3 : Int} (hy : ys = [y0, y1, y2, y3]) (yw : Words ys) (yv : val64 ys = (m : Int)) :
    RwI w ((((w1.setCell ⟨g, 0, none⟩ (.int .u64 y0)).setCell ⟨g, 1, none⟩ (.int .u64 y1)).setCell ⟨g, 2, none⟩ (.int .u64 y2)).setCell ⟨g, 3, none⟩ (.int .u64 y3)) g ys m := by
  have hgl := h.gl
  have B1 := h.below.trans (hB.mono h.below.size)
  have BS := h.bs.step hB
  obtain ⟨z0, z1, z2, z3, hz⟩ := list4 h.zl
  rw [hz] at BS
  refine ⟨tell_below B1 (by omega), (h.br.step hB).set4 (by omega), ?_, by rw [hy]; rfl, yw, hgl, yv⟩
  rw [hy]
  exact Blk.stored4g BS _ _ _ _
theorem tellV_form (z : Int) : ∃ y3 y2 y1 y0 b, tellV z = .tuple #[.agg #[.int .u64 y3, .int .u64 y2, .int .u64 y1, .int .u64 y0], .bool b] := by
  unfold tellV
  split <;> exact ⟨_, _, _, _, _, rfl⟩
set_option maxRecDepth 100000 in
set_option maxHeartbeats 2000000 in
theorem implRead_any (s : ByteArray) (hm : s.size ≤ 9223372036854775807) (w : World) : Calls Try.prog 16 #[.string s] w (VP (rdV (btL s)) w) := by
  have CC := cutPre_any s hm _ rfl
  obtain ⟨u, hu⟩ : ∃ u, u = strL (cutM (btL s)) := ⟨_, rfl⟩
  have hul : btL u = cutM (btL s) := by
    rw [hu]
    refine btL_strL fun b hb => btL_lt s b ?_
    unfold cutM at hb
    split at hb
    · exact List.mem_of_mem_tail hb
    · exact hb
  have hus : u.size ≤ 9223372036854775807 := by
    rw [← btL_len, hul]
    have h2 := btL_len s
    unfold cutM
    split
    · rw [List.length_tail]; omega
    · omega
  have CD := fun b hb => isDecimal_any u hus b hb
  rw [← hu] at CC
  have HU : Hid (btL u = cutM (btL s)) := hul
  have HB0 : Hid (Below w.heap.size w (w.alloc (Obj.cells #[.int .u64 0, .int .u64 0, .int .u64 0, .int .u64 0] 26))) := (Below.refl _ _).alloc (Nat.le_refl _) _
  have BR0 : Hid (Blk (w.alloc (Obj.cells #[.int .u64 0, .int .u64 0, .int .u64 0, .int .u64 0] 26)) w.heap.size [.int .u64 0, .int .u64 0, .int .u64 0, .int .u64 0]) := Blk.new w [.int .u64 0, .int .u64 0, .int .u64 0, .int .u64 0] _ rfl
  clear hul hu hm
  by_cases hok : RdOk (btL s)
  · obtain ⟨h1, h2, h3⟩ := hok
    have HR : Hid (rdV (btL s) = tellV (rdI (btL s))) := rdV_yes ⟨h1, h2, h3⟩
    have CD1 := CD true (by rw [HU.out]; exact ⟨fun _ => h1, fun _ => rfl⟩)
    have hl77 : u.size ≤ 77 := by rw [← btL_len, HU.out]; exact h2
    have hl77' : ¬ ((77 : Int) < u.size) := by omega
    obtain ⟨b, hb⟩ : ∃ b, b = decide ((btL s).head? = some 45) := ⟨_, rfl⟩
    rw [← hb] at CC
    have e1 : (b && (u.toList == [48])) = false := by
      cases b
      · rfl
      · simp only [Bool.true_and]
        refine beq_eq_false_iff_ne.2 fun h => h3 ⟨of_decide_eq_true hb.symm, ?_⟩
        rw [← HU.out]
        exact (tl_one 48).1 h
    have HD : Hid (DecL (cutM (btL s))) := h1
    have HBB : Hid (b = decide ((btL s).head? = some 45)) := hb
    clear h1 h2 h3 CD hb
    go_enter Try.func16, Try.ntmps16
    go_wp2_with fail
    generalize (w.alloc (Obj.cells #[.int .u64 0, .int .u64 0, .int .u64 0, .int .u64 0] 26)) = W0 at *
    refine (CC _).mono ?_
    rintro e w1 ⟨rfl, hB⟩
    have BR1 := BR0.out.step hB
    have HB1 := HB0.out.trans (hB.mono HB0.out.size)
    clear BR0 HB0 hB CC
    go_upto_region 2 with fail
    go_cut [28] (fun p wx => p = .bool false ∧ Blk wx w.heap.size [.int .u64 0, .int .u64 0, .int .u64 0, .int .u64 0] ∧ Below w.heap.size w wx)
    case first =>
      cases b
      · go_wp2_with fail
        refine (CD1 _).mono ?_
        rintro e w2 ⟨rfl, hB⟩
        have BR2 := BR1.step hB
        have HB2 := HB1.trans (hB.mono HB1.size)
        clear BR1 HB1 hB CD1
        go_wp2
        go_meet
        exact ⟨congrArg Value.bool (decide_eq_false (by omega)), BR2, HB2⟩
      · simp only [Bool.true_and] at e1
        go_wp2_with fail
        refine (CD1 _).mono ?_
        rintro e w2 ⟨rfl, hB⟩
        have BR2 := BR1.step hB
        have HB2 := HB1.trans (hB.mono HB1.size)
        clear BR1 HB1 hB CD1
        go_wp2
        go_meet
        exact ⟨congrArg Value.bool (decide_eq_false (by omega)), BR2, HB2⟩
    case rest =>
      clear BR1 HB1 CD1 e1
      obtain ⟨hp, BR2, HB2⟩ := hcut
      subst hp
      have HI0 : Hid (RwI w (wc.alloc (Obj.cells #[.int .u64 0, .int .u64 0, .int .u64 0, .int .u64 0] 70)) wc.heap.size [0, 0, 0, 0] 0) :=
        ⟨HB2.alloc HB2.size _, BR2.alloc _, Blk.new _ [.int .u64 0, .int .u64 0, .int .u64 0, .int .u64 0] _ rfl, rfl, words4 wd0 wd0 wd0 wd0, BR2.lt, rfl⟩
      clear BR2 HB2
      rename_i hk
      refine hk _ _ ?_
      go_wp2
      generalize (wc.alloc (Obj.cells #[.int .u64 0, .int .u64 0, .int .u64 0, .int .u64 0] 70)) = W1 at *
      generalize wc.heap.size = g at *
      go_loopw [32] (fun i wr => ∃ (c : Nat) (zs : List Int), c ≤ u.size ∧ i = .int .i64 c ∧ RwI w wr g zs (rdN ((btL u).take c))) (fun i _ => u.size - (intOf i).toNat)
      case atStart => exact ⟨0, _, Nat.zero_le _, rfl, HI0.out⟩
      case round =>
        clear HI0
        obtain ⟨c, zs, hc, rfl, hI⟩ := hrel
        have zl := hI.zl
        have zw := hI.zw
        have hgl := hI.gl
        obtain ⟨y0, y1, y2, y3, hy⟩ := list4 zl
        have BS := hI.bs
        rw [hy] at BS
        obtain ⟨c0, f0, c1, f1, c2, f2, c3, f3⟩ := BS.cf4
        have slt := BS.lt
        have HII : Hid (RwI w wr g zs (rdN ((btL u).take c))) := hI
        by_cases hcs : c < u.size
        · have hbt := bt_at hcs
          have hlt := bt_lt u c
          have hcI : (c : Int) < u.size := by omega
          have hdl : ∀ b ∈ btL u, isD b := by rw [HU.out]; exact HD.out.2.2
          have hcl : c < (btL u).length := by rw [btL_len]; exact hcs
          obtain ⟨hd1, hd2⟩ : isD (bt u c) := by rw [← btL_get hcl]; exact hdl _ (List.getElem_mem hcl)
          obtain ⟨d, hd⟩ : ∃ d, d = bt u c - 48 := ⟨_, rfl⟩
          have hdI : (bt u c : Int) - 48 = d := by omega
          have hnx : Hid (10 * rdN ((btL u).take c) + d = rdN ((btL u).take (c + 1))) := by show _ = _; rw [rdN_take _ _ hcl, btL_get hcl, hd]
          have hn2 : rdN ((btL u).take (c + 1)) < 10 ^ 77 := by
            have h5 := rdN_lt ((btL u).take (c + 1)) (fun b hb => hdl b (List.mem_of_mem_take hb))
            have h6 : 10 ^ ((btL u).take (c + 1)).length ≤ 10 ^ 77 := Nat.pow_le_pow_right (by omega) (by rw [List.length_take]; omega)
            omega
          have CT0 := tenfold_any zs d zl zw (by omega) (by omega) (by rw [hI.eq]; have := hnx.out; omega)
          have CT : ∀ w, Calls Try.prog 51 #[.agg #[.int .u64 y0, .int .u64 y1, .int .u64 y2, .int .u64 y3], .int .u64 d] w (AggP 4 ((rdN ((btL u).take (c + 1)) : Nat) : Int) w) := by
            intro w
            have := CT0 w
            rw [hI.eq, show 10 * ((rdN ((btL u).take c) : Nat) : Int) + (d : Int) = ((rdN ((btL u).take (c + 1)) : Nat) : Int) by have := hnx.out; omega, show agg zs = .agg #[.int .u64 y0, .int .u64 y1, .int .u64 y2, .int .u64 y3] by rw [hy]; rfl] at this
            exact this
          have hd9 : (d : Int) < 10 := by omega
          have hw1 : IntKind.u8.wrap (d : Int) = d := by rw [IntKind.wrap_u8]; omega
          have hw2 : IntKind.u64.wrap (d : Int) = d := wrap_word (by omega) (by omega)
          have BS0 : Hid (Blk wr.drew g [.int .u64 y0, .int .u64 y1, .int .u64 y2, .int .u64 y3]) := BS.drew
          have HJJ : Hid (RwI w wr.drew g zs (rdN ((btL u).take c))) := hI.drew
          clear hI hy CT0 hn2 hdl hd BS HII
          go_wp2
          go_region_with (go_at_call 51; refine (CT _).mono ?_; rintro e w4 ⟨xs, rfl, xl, xw, xv, hB⟩; obtain ⟨s0, s1, s2, s3, hs⟩ := list4 xl; have N1 : Hid (RwI w ((((w4.setCell ⟨g, 0, none⟩ (.int .u64 s0)).setCell ⟨g, 1, none⟩ (.int .u64 s1)).setCell ⟨g, 2, none⟩ (.int .u64 s2)).setCell ⟨g, 3, none⟩ (.int .u64 s3)) g xs (rdN ((btL u).take (c + 1)))) := HJJ.out.next hB hs xw xv; have SA : agg xs = .agg #[.int .u64 s0, .int .u64 s1, .int .u64 s2, .int .u64 s3] := (by rw [hs]; rfl); rw [SA]; obtain ⟨k0, l0, k1, l1, k2, l2, k3, l3⟩ := (show Blk w4 g [.int .u64 y0, .int .u64 y1, .int .u64 y2, .int .u64 y3] from BS0.out.step hB).cf4; have l4 := (show Blk w4 g [.int .u64 y0, .int .u64 y1, .int .u64 y2, .int .u64 y3] from BS0.out.step hB).lt; clear hB hs SA xv xw xl)
          all_goals
            go_wp2
            go_roundw
            case rel => exact ⟨c + 1, _, by omega, by go_num, N1.out⟩
            case measure => simp [intOf]; omega
        · obtain rfl : c = u.size := by omega
          have hv := hI.eq
          rw [← btL_len, List.take_length] at hv
          have h5 : rdN (btL u) < 10 ^ 77 := by
            have h5 := rdN_lt (btL u) (by rw [HU.out]; exact HD.out.2.2)
            have h6 : 10 ^ (btL u).length ≤ 10 ^ 77 := Nat.pow_le_pow_right (by omega) (by rw [btL_len]; omega)
            omega
          obtain ⟨g0, g1, g2, g3⟩ := words4_of (by rw [← hy]; exact zw)
          have hw8 : Words [y0, y1, y2, y3, 0, 0, 0, 0] := words_cons.2 ⟨g0, words_cons.2 ⟨g1, words_cons.2 ⟨g2, words_cons.2 ⟨g3, words4 wd0 wd0 wd0 wd0⟩⟩⟩⟩
          have hv8 : val64 [y0, y1, y2, y3, 0, 0, 0, 0] = (rdN (btL u) : Int) := by
            rw [← hv, hy]
            simp only [val64]
            omega
          have CS := signedL_any y0 y1 y2 y3 0 0 0 0 b hw8 (by rw [hv8]; omega)
          have ez : (if b = true then -val64 [y0, y1, y2, y3, 0, 0, 0, 0] else val64 [y0, y1, y2, y3, 0, 0, 0, 0]) = rdI (btL s) := by
            rw [hv8, HU.out, HBB.out]
            unfold rdI
            by_cases h : (btL s).head? = some 45
            · rw [if_pos h, if_pos (decide_eq_true h)]
            · rw [if_neg h, if_neg (by simpa using h)]
          rw [ez] at CS
          have BR := hI.br
          have HB := hI.below
          have BR1 := BR.alloc (Obj.cells #[.int .u64 y0, .int .u64 y1, .int .u64 y2, .int .u64 y3, .int .u64 0, .int .u64 0, .int .u64 0, .int .u64 0] 82)
          have HB1 := HB.alloc HB.size (Obj.cells #[.int .u64 y0, .int .u64 y1, .int .u64 y2, .int .u64 y3, .int .u64 0, .int .u64 0, .int .u64 0, .int .u64 0] 82)
          have BR2 : Hid (Blk (wr.alloc (Obj.cells #[.int .u64 y0, .int .u64 y1, .int .u64 y2, .int .u64 y3, .int .u64 0, .int .u64 0, .int .u64 0, .int .u64 0] 82)) w.heap.size [.int .u64 0, .int .u64 0, .int .u64 0, .int .u64 0]) := BR1
          have HB2 : Hid (Below w.heap.size w (wr.alloc (Obj.cells #[.int .u64 y0, .int .u64 y1, .int .u64 y2, .int .u64 y3, .int .u64 0, .int .u64 0, .int .u64 0, .int .u64 0] 82))) := HB1
          clear hI hv BR HB BR1 HB1 hy BS hv8 ez h5
          go_wp2_with fail
          generalize (wr.alloc (Obj.cells #[.int .u64 y0, .int .u64 y1, .int .u64 y2, .int .u64 y3, .int .u64 0, .int .u64 0, .int .u64 0, .int .u64 0] 82)) = W5 at *
          refine (CS _).mono ?_
          rintro e w6 ⟨q0, q1, q2, q3, q4, q5, q6, q7, rfl, qw, qz, hB⟩
          have BR6 := BR2.out.step hB
          have HB6 := HB2.out.trans (hB.mono HB2.out.size)
          clear BR2 HB2 hB CS c0 c1 c2 c3 f0 f1 f2 f3
          have CT := tellWide_det q0 q1 q2 q3 q4 q5 q6 q7 qw _ qz
          obtain ⟨t3, t2, t1, t0, tb, ht⟩ := tellV_form (rdI (btL s))
          have HT : Hid (tellV (rdI (btL s)) = .tuple #[.agg #[.int .u64 t3, .int .u64 t2, .int .u64 t1, .int .u64 t0], .bool tb]) := ht
          rw [ht] at CT
          go_wp2_with fail
          refine (CT _).mono ?_
          rintro e w7 ⟨rfl, hB⟩
          have BR7 := BR6.step hB
          have HB7 := HB6.trans (hB.mono HB6.size)
          clear BR6 HB6 hB CT ht
          obtain ⟨d0, e0, d1, e1, d2, e2, d3, e3⟩ := BR7.cf4
          have dl := BR7.lt
          go_wp2
          refine bodyPost_ret (v := .tuple #[.agg #[.int .u64 t3, .int .u64 t2, .int .u64 t1, .int .u64 t0], .bool tb]) (by simp [results, Try.results16, go_sem, d0, d1, d2, d3]) rfl ?_
          exact ⟨by rw [HR.out, HT.out], tell_below HB7 (Nat.le_refl _)⟩
  · have HR : Hid (rdV (btL s) = .tuple #[W4 0, .bool false]) := rdV_no hok
    obtain ⟨b, hb⟩ : ∃ b, b = decide ((btL s).head? = some 45) := ⟨_, rfl⟩
    rw [← hb] at CC
    by_cases h1 : DecL (cutM (btL s))
    · have CD1 := CD true (by rw [HU.out]; exact ⟨fun _ => h1, fun _ => rfl⟩)
      by_cases h2 : u.size ≤ 77
      · have h3 : (btL s).head? = some 45 ∧ cutM (btL s) = [48] := Classical.byContradiction fun h3 => hok ⟨h1, by rw [← HU.out, btL_len]; exact h2, h3⟩
        obtain rfl : b = true := by rw [hb]; exact decide_eq_true h3.1
        have e1 : (u.toList == [48]) = true := beq_iff_eq.2 ((tl_one 48).2 (by rw [HU.out]; exact h3.2))
        have e2 : ¬ ((77 : Int) < u.size) := by omega
        clear hok h1 h3 hb CD
        go_enter Try.func16, Try.ntmps16
        go_wp2_with fail
        generalize (w.alloc (Obj.cells #[.int .u64 0, .int .u64 0, .int .u64 0, .int .u64 0] 26)) = W0 at *
        refine (CC _).mono ?_
        rintro e w1 ⟨rfl, hB⟩
        have BR1 := BR0.out.step hB
        have HB1 := HB0.out.trans (hB.mono HB0.out.size)
        clear BR0 HB0 hB CC
        go_wp2_with fail
        refine (CD1 _).mono ?_
        rintro e w2 ⟨rfl, hB⟩
        have BR2 := BR1.step hB
        have HB2 := HB1.trans (hB.mono HB1.size)
        clear BR1 HB1 hB CD1
        obtain ⟨d0, e0, d1, e1, d2, e2, d3, e3⟩ := BR2.cf4
        have dl := BR2.lt
        go_wp2
        refine bodyPost_ret (v := .tuple #[.agg #[.int .u64 0, .int .u64 0, .int .u64 0, .int .u64 0], .bool false]) (by simp [results, Try.results16, go_sem, d0, d1, d2, d3]) rfl ?_
        exact ⟨by rw [HR.out]; rfl, tell_below HB2 (Nat.le_refl _)⟩
      · have e2 : (77 : Int) < u.size := by omega
        clear hok h1 hb CD
        go_enter Try.func16, Try.ntmps16
        go_wp2_with fail
        generalize (w.alloc (Obj.cells #[.int .u64 0, .int .u64 0, .int .u64 0, .int .u64 0] 26)) = W0 at *
        refine (CC _).mono ?_
        rintro e w1 ⟨rfl, hB⟩
        have BR1 := BR0.out.step hB
        have HB1 := HB0.out.trans (hB.mono HB0.out.size)
        clear BR0 HB0 hB CC
        go_wp2_with fail
        refine (CD1 _).mono ?_
        rintro e w2 ⟨rfl, hB⟩
        have BR2 := BR1.step hB
        have HB2 := HB1.trans (hB.mono HB1.size)
        clear BR1 HB1 hB CD1
        obtain ⟨d0, e0, d1, e1, d2, e2, d3, e3⟩ := BR2.cf4
        have dl := BR2.lt
        go_wp2
        refine bodyPost_ret (v := .tuple #[.agg #[.int .u64 0, .int .u64 0, .int .u64 0, .int .u64 0], .bool false]) (by simp [results, Try.results16, go_sem, d0, d1, d2, d3]) rfl ?_
        exact ⟨by rw [HR.out]; rfl, tell_below HB2 (Nat.le_refl _)⟩
    · have CD1 := CD false (by rw [HU.out]; exact ⟨fun h => Bool.noConfusion h, fun h => absurd h h1⟩)
      clear hok h1 hb CD
      go_enter Try.func16, Try.ntmps16
      go_wp2_with fail
      generalize (w.alloc (Obj.cells #[.int .u64 0, .int .u64 0, .int .u64 0, .int .u64 0] 26)) = W0 at *
      refine (CC _).mono ?_
      rintro e w1 ⟨rfl, hB⟩
      have BR1 := BR0.out.step hB
      have HB1 := HB0.out.trans (hB.mono HB0.out.size)
      clear BR0 HB0 hB CC
      go_wp2_with fail
      refine (CD1 _).mono ?_
      rintro e w2 ⟨rfl, hB⟩
      have BR2 := BR1.step hB
      have HB2 := HB1.trans (hB.mono HB1.size)
      clear BR1 HB1 hB CD1
      obtain ⟨d0, e0, d1, e1, d2, e2, d3, e3⟩ := BR2.cf4
      have dl := BR2.lt
      go_wp2
      refine bodyPost_ret (v := .tuple #[.agg #[.int .u64 0, .int .u64 0, .int .u64 0, .int .u64 0], .bool false]) (by simp [results, Try.results16, go_sem, d0, d1, d2, d3]) rfl ?_
      exact ⟨by rw [HR.out]; rfl, tell_below HB2 (Nat.le_refl _)⟩
end Go.Proofs.Ytnnojeggjnddpaa

/- Fractions and points read from their texts: the reckoning. -/
namespace Go.Proofs.Ytnnojeggjnddpaa
theorem first_one {c : Nat} : ∀ {a a' b b' : List Nat}, c ∉ a → c ∉ a' → a ++ c :: b = a' ++ c :: b' → a = a' ∧ b = b'
  | [], [], _, _, _, _, h => by simpa using h
  | [], x :: t, _, _, _, h2, h => by
    simp only [List.nil_append, List.cons_append, List.cons.injEq] at h
    exact absurd (by rw [h.1]; exact List.mem_cons_self) h2
  | x :: t, [], _, _, h1, _, h => by
    simp only [List.nil_append, List.cons_append, List.cons.injEq] at h
    exact absurd (by rw [← h.1]; exact List.mem_cons_self) h1
  | x :: t, y :: r, _, _, h1, h2, h => by
    simp only [List.cons_append, List.cons.injEq] at h
    obtain ⟨e1, e2⟩ := first_one (fun h3 => h1 (List.mem_cons_of_mem _ h3)) (fun h3 => h2 (List.mem_cons_of_mem _ h3)) h.2
    exact ⟨by rw [h.1, e1], e2⟩
theorem txL_mem {z : Int} {b : Nat} (h : b ∈ txL z) : b = 45 ∨ isD b := by
  rcases List.mem_append.1 h with h | h
  · split at h
    · exact .inl (List.mem_singleton.1 h)
    · simp at h
  · exact .inr (dgs_isD _ b h)
theorem txL_47 (z : Int) : 47 ∉ txL z := by
  intro h
  have := txL_mem h
  unfold isD at this
  omega
theorem txL_44 (z : Int) : 44 ∉ txL z := by
  intro h
  have := txL_mem h
  unfold isD at this
  omega
/-- What stands ahead of the stroke and what stands under it are told by the whole. -/
theorem un_one {a a' : List Nat} {d d' : Int} (h1 : 47 ∉ a) (h2 : 47 ∉ a') (h : a ++ unL d = a' ++ unL d') : a = a' ∧ d = d' := by
  by_cases hd : d = 1 <;> by_cases hd' : d' = 1
  · rw [hd, hd', unL_one, List.append_nil, List.append_nil] at h
    exact ⟨h, by rw [hd, hd']⟩
  · rw [hd, unL_one, List.append_nil, unL_not hd'] at h
    exact absurd (by rw [h]; simp) h1
  · rw [hd', unL_one, List.append_nil, unL_not hd] at h
    exact absurd (by rw [← h]; simp) h2
  · rw [unL_not hd, unL_not hd'] at h
    obtain ⟨e1, e2⟩ := first_one h1 h2 h
    exact ⟨e1, tx_inj e2⟩
theorem rd_cases (l : List Nat) : (∃ z, told z = true ∧ l = txL z ∧ rdV l = .tuple #[W4 z, .bool true]) ∨ ((∀ z, told z = true → l ≠ txL z) ∧ rdV l = .tuple #[W4 0, .bool false]) := by
  by_cases h : RdOk l
  · have h1 := rd_tx h
    cases ht : told (rdI l)
    · refine .inr ⟨fun z hz he => ?_, ?_⟩
      · rw [he, (tx_rd (told77 hz)).2] at ht
        rw [hz] at ht
        exact Bool.noConfusion ht
      · rw [rdV_yes h]; unfold tellV; rw [ht]; rfl
    · exact .inl ⟨rdI l, ht, h1.symm, by rw [rdV_yes h]; unfold tellV; rw [ht]; rfl⟩
  · exact .inr ⟨fun z hz he => h (by rw [he]; exact (tx_rd (told77 hz)).1), rdV_no h⟩
/-- That bytes are these three numbers, as a point is written. -/
def RpOk (l : List Nat) (x y z : Int) : Prop := told x = true ∧ told y = true ∧ told z = true ∧ ptB x y z = true ∧ l = ptL x y z
theorem pt_one {x y z x' y' z' : Int} (h : ptL x y z = ptL x' y' z') : x = x' ∧ y = y' ∧ z = z' := by
  unfold ptL at h
  obtain ⟨e1, e2⟩ := first_one (txL_44 _) (txL_44 _) h
  obtain ⟨e3, e4⟩ := un_one (txL_47 _) (txL_47 _) e2
  exact ⟨tx_inj e1, tx_inj e3, e4⟩
noncomputable def rpV (l : List Nat) : Value := @dite _ (∃ p : Int × Int × Int, RpOk l p.1 p.2.1 p.2.2) (Classical.propDecidable _) (fun h => .tuple #[PV h.choose.1 h.choose.2.1 h.choose.2.2, .bool true]) (fun _ => .tuple #[PV 0 0 0, .bool false])
theorem rpV_yes {l : List Nat} {x y z : Int} (h : RpOk l x y z) : rpV l = .tuple #[PV x y z, .bool true] := by
  have hx : ∃ p : Int × Int × Int, RpOk l p.1 p.2.1 p.2.2 := ⟨(x, y, z), h⟩
  unfold rpV
  rw [dif_pos hx]
  obtain ⟨e1, e2, e3⟩ := pt_one (hx.choose_spec.2.2.2.2.symm.trans h.2.2.2.2)
  rw [e1, e2, e3]
theorem rpV_no {l : List Nat} (h : ∀ x y z, ¬ RpOk l x y z) : rpV l = .tuple #[PV 0 0 0, .bool false] := by
  unfold rpV
  rw [dif_neg (fun ⟨p, hp⟩ => h _ _ _ hp)]
end Go.Proofs.Ytnnojeggjnddpaa
