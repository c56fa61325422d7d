/- Part 10 of the walks that the proof leans on. -/
import Derived.Test.YtnnojeggjnddpaaPart9
import Derived.Test.YtnnojeggjnddpaaPart1
import Derived.Test.YtnnojeggjnddpaaRows
import Derived.ProofKit
import Derived.Lib.SmallJoins
/- A point read from its text: the model's. -/
namespace Go.Proofs.Ytnnojeggjnddpaa
open Go.RowKit
set_option maxRecDepth 100000 in
set_option maxHeartbeats 8000000 in
theorem specReadPoint_any (s : ByteArray) (hm : s.size ≤ 9223372036854775807) (w : World) : Calls Try.prog 27 #[.string s] w (VP (rpV (btL s)) w) := by
  have HB : Below w.heap.size w (w.alloc (Obj.cells #[.int .u64 0, .int .u64 0, .int .u64 0, .int .u64 0, .int .u64 0, .int .u64 0, .int .u64 0, .int .u64 0, .int .u64 0, .int .u64 0, .int .u64 0, .int .u64 0] 47)) := (Below.refl _ _).alloc (Nat.le_refl _) _
  have R0 : Blk (w.alloc (Obj.cells #[.int .u64 0, .int .u64 0, .int .u64 0, .int .u64 0, .int .u64 0, .int .u64 0, .int .u64 0, .int .u64 0, .int .u64 0, .int .u64 0, .int .u64 0, .int .u64 0] 47)) w.heap.size [.int .u64 0, .int .u64 0, .int .u64 0, .int .u64 0, .int .u64 0, .int .u64 0, .int .u64 0, .int .u64 0, .int .u64 0, .int .u64 0, .int .u64 0, .int .u64 0] := Blk.new w [.int .u64 0, .int .u64 0, .int .u64 0, .int .u64 0, .int .u64 0, .int .u64 0, .int .u64 0, .int .u64 0, .int .u64 0, .int .u64 0, .int .u64 0, .int .u64 0] _ rfl
  by_cases h80 : s.size ≤ 80
  · have i80 : ¬ ((80 : Int) < s.size) := by omega
    obtain ⟨i0, hi, hz0, hz1, hz2⟩ := info_parts Try.infoStr
    go_enter Try.func27, Try.ntmps27
    go_upto_block 0 with fail
    generalize hW : (w.alloc (Obj.cells #[.int .u64 0, .int .u64 0, .int .u64 0, .int .u64 0, .int .u64 0, .int .u64 0, .int .u64 0, .int .u64 0, .int .u64 0, .int .u64 0, .int .u64 0, .int .u64 0] 47)) = W0 at *
    have hWs : W0.heap.size = w.heap.size + 1 := by rw [← hW]; simp
    have O0 : (W0.alloc (Obj.cells #[.string ⟨#[]⟩] 9)).ownsRow (w.heap.size + 1) 9 1 (.slice (some ⟨w.heap.size + 1, 0, none⟩) 1 1) 1 (rowP [] []) := ⟨rfl, .inr ⟨w.heap.size + 1, 1, _, rfl, Nat.le_refl _, by rw [← hWs]; exact heap_alloc_new W0 _, Nat.le_refl _, by unfold maxLen; omega, rfl, rfl⟩⟩
    have HW0 : Below (w.heap.size + 1) W0 (W0.alloc (Obj.cells #[.string ⟨#[]⟩] 9)) := (Below.refl _ _).alloc (by omega) _
    clear hW
    generalize (W0.alloc (Obj.cells #[.string ⟨#[]⟩] 9)) = W1 at *
    go_cut [4, 5] (fun v m wx => ∃ dn cur, m = .string (strL (dn.map Prod.snd)) ∧ PdI (btL s) (btL s).length dn cur ∧ wx.ownsRow (w.heap.size + 1) 9 1 v (dn.length + 1) (rowP dn cur) ∧ Below (w.heap.size + 1) W0 wx)
    case first =>
      clear R0 HB
      go_wp2_with fail
      go_loopw [4, 5, 6] (fun v m i wr => ∃ (c : Nat) (dn : List (List Nat × Nat)) (cur : List Nat), c ≤ s.size ∧ i = .int .i64 c ∧ m = .string (strL (dn.map Prod.snd)) ∧ PdI (btL s) c dn cur ∧ wr.ownsRow (w.heap.size + 1) 9 1 v (dn.length + 1) (rowP dn cur) ∧ Below (w.heap.size + 1) W0 wr) (fun _ _ i _ => s.size - (intOf i).toNat)
      case atStart => exact ⟨0, [], [], Nat.zero_le _, rfl, rfl, PdI.start _, O0, HW0⟩
      case round =>
        clear O0 HW0
        obtain ⟨c, dn, cur, hc, rfl, rfl, hP, hown, HBr⟩ := hrel
        have hsz := HBr.size
        by_cases hcs : c < s.size
        · have hcI : (c : Int) < s.size := by omega
          have hbt := bt_at hcs
          have hlt := bt_lt s c
          have hq := btL_getQ hcs
          have hdl := hP.dl
          have hcl := hP.cl
          have hx := ex_one hcs
          have i1 : (c : Int) + 1 ≤ s.size := by omega
          have i2 : IntKind.i64.wrap ((c : Int) + 1) = (c : Int) + 1 := by rw [IntKind.wrap_i64]; omega
          have i3 : ((c : Int) + 1).toNat = c + 1 := by omega
          have hcm : (strL [bt s c]).size = 1 := by rw [strL_size]; rfl
          have hms : (strL (dn.map Prod.snd)).size = dn.length := by rw [strL_size]; simp
          have hcz : (strL cur).size = cur.length := strL_size _
          by_cases hmk : mkB (bt s c) = true
          · have HN : Hid (PdI (btL s) (c + 1) (dn ++ [(cur, bt s c)]) []) := hP.mark hq hmk
            have HM : Hid (strL ((dn ++ [(cur, bt s c)]).map Prod.snd) = strL (dn.map Prod.snd) ++ strL [bt s c]) := by show _ = _; rw [List.map_append, strL_append]; rfl
            have q1 : ¬ (9223372036854775807 < (strL (dn.map Prod.snd)).size + (strL [bt s c]).size) := by omega
            have q2 : ¬ (9223372036854775807 < (strL (dn.map Prod.snd)).size + 1) := by omega
            have HBB : Hid (Below (w.heap.size + 1) W0 wr) := HBr
            have HR : Hid (rowP (dn ++ [(cur, bt s c)]) [] = rowP dn cur ++ [.string ⟨#[]⟩]) := rowP_mark _ _ _
            clear hP HBr hq hcl hcz
            generalize strL (dn.map Prod.snd) = M at *
            generalize strL [bt s c] = E at *
            by_cases h44 : bt s c = 44
            · have hb1 : ((bt s c : Int) == 44) = true := by rw [h44]; rfl
              clear h44 hmk
              go_wp2_with (at_builtin; refine wpList_append_own _ rfl _ _ 97 rfl (w.heap.size + 1) 9 i0 (.string ⟨#[]⟩) 1 16 Try.underlying97 hi hz0 hz1 hz2 rfl (by decide) _ _ _ rfl (hown.alloc _) ⟨wr.heap.size, 0, none⟩ 1 1 [.string ⟨#[]⟩] rfl rfl (cell_one_new _ _ _) (one_str _) (by unfold maxLen; omega) (by omega) (by simp; omega) ?_)
              intro v' w2 hown2 hgrow2 hnn
              have R1 : w2.ownsRow (w.heap.size + 1) 9 1 v' (dn.length + 1 + 1) (rowP (dn ++ [(cur, bt s c)]) []) := by rw [HR.out]; exact hown2
              have R2 : Below (w.heap.size + 1) W0 w2 := (HBB.out.alloc (by omega) _).grown hgrow2 (by simp; omega) (fun j hj => (hown.lt j hj).1)
              clear hown2 hgrow2 hnn hown HBB
              go_wp2
              go_roundw
              case rel => exact ⟨c + 1, dn ++ [(cur, bt s c)], [], by omega, by go_num, by rw [HM.out], HN.out, by rw [List.length_append]; exact R1, R2⟩
              case measure => simp [intOf]; omega
            · have h47 : bt s c = 47 := by
                unfold mkB at hmk
                simp at hmk
                omega
              have hb1 : ((bt s c : Int) == 44) = false := beq_eq_false_iff_ne.2 (by omega)
              have hb2 : ((bt s c : Int) == 47) = true := by rw [h47]; rfl
              clear h44 h47 hmk
              go_wp2_with (at_builtin; refine wpList_append_own _ rfl _ _ 97 rfl (w.heap.size + 1) 9 i0 (.string ⟨#[]⟩) 1 16 Try.underlying97 hi hz0 hz1 hz2 rfl (by decide) _ _ _ rfl (hown.alloc _) ⟨wr.heap.size, 0, none⟩ 1 1 [.string ⟨#[]⟩] rfl rfl (cell_one_new _ _ _) (one_str _) (by unfold maxLen; omega) (by omega) (by simp; omega) ?_)
              intro v' w2 hown2 hgrow2 hnn
              have R1 : w2.ownsRow (w.heap.size + 1) 9 1 v' (dn.length + 1 + 1) (rowP (dn ++ [(cur, bt s c)]) []) := by rw [HR.out]; exact hown2
              have R2 : Below (w.heap.size + 1) W0 w2 := (HBB.out.alloc (by omega) _).grown hgrow2 (by simp; omega) (fun j hj => (hown.lt j hj).1)
              clear hown2 hgrow2 hnn hown HBB
              go_wp2
              go_roundw
              case rel => exact ⟨c + 1, dn ++ [(cur, bt s c)], [], by omega, by go_num, by rw [HM.out], HN.out, by rw [List.length_append]; exact R1, R2⟩
              case measure => simp [intOf]; omega
          · have hmk' : mkB (bt s c) = false := by simpa using hmk
            have HN : Hid (PdI (btL s) (c + 1) dn (cur ++ [bt s c])) := hP.other hq hmk'
            have HM : Hid (strL (cur ++ [bt s c]) = strL cur ++ strL [bt s c]) := strL_append _ _
            have q1 : ¬ (9223372036854775807 < (strL cur).size + (strL [bt s c]).size) := by omega
            have q2 : ¬ (9223372036854775807 < (strL cur).size + 1) := by omega
            have hb1 : ((bt s c : Int) == 44) = false := beq_eq_false_iff_ne.2 (by unfold mkB at hmk'; simp at hmk'; omega)
            have hb2 : ((bt s c : Int) == 47) = false := beq_eq_false_iff_ne.2 (by unfold mkB at hmk'; simp at hmk'; omega)
            obtain ⟨g, cap, hv, hgb⟩ := own_form hown
            rename_i uv um
            subst hv
            have GB := own_blk hown
            have d0 := GB.c dn.length (rowP_last dn cur)
            have f0 := GB.f dn.length (rowP_last dn cur)
            have gl := GB.lt
            have HO : Hid ((wr.drew.setCell ⟨g, dn.length, none⟩ (.string (strL cur ++ strL [bt s c]))).ownsRow (w.heap.size + 1) 9 1 (.slice (some ⟨g, 0, none⟩) (dn.length + 1) cap) (dn.length + 1) (rowP dn (cur ++ [bt s c]))) := by
              have h1 := own_set (show wr.drew.ownsRow (w.heap.size + 1) 9 1 (.slice (some ⟨g, 0, none⟩) (dn.length + 1) cap) (dn.length + 1) (rowP dn cur) from hown) dn.length (.string (strL (cur ++ [bt s c])))
              rw [rowP_other, HM.out] at h1
              exact h1
            have HBB : Hid (Below (w.heap.size + 1) W0 (wr.drew.setCell ⟨g, dn.length, none⟩ (.string (strL cur ++ strL [bt s c])))) := HBr.drew.setCell (p := ⟨g, dn.length, none⟩) hgb _
            have n1 : IntKind.i64.wrap (((dn.length + 1 : Nat) : Int) - 1) = (dn.length : Int) := by rw [IntKind.wrap_i64]; omega
            have n2 : (dn.length : Int) < ((dn.length + 1 : Nat) : Int) := by omega
            clear hP HBr hq hown hmk hmk' GB
            generalize hMM : strL (dn.map Prod.snd) = M at *
            generalize strL [bt s c] = E at *
            generalize hD : dn.length = d at *
            generalize hCu : strL cur = CU at *
            go_wp2_with fail
            go_region
            go_wp2
            go_roundw
            case rel => exact ⟨c + 1, dn, cur ++ [bt s c], by omega, by go_num, by rw [hMM], HN.out, by rw [hD]; exact HO.out, HBB.out⟩
            case measure => simp [intOf]; omega
        · obtain rfl : c = s.size := by omega
          have HP : Hid (PdI (btL s) (btL s).length dn cur) := by show PdI _ _ _ _; rw [btL_len]; exact hP
          have HO : Hid (wr.ownsRow (w.heap.size + 1) 9 1 _ (dn.length + 1) (rowP dn cur)) := hown
          have HBB : Hid (Below (w.heap.size + 1) W0 wr) := HBr
          clear hP hown HBr
          go_wp2
          go_meet
          exact ⟨dn, cur, rfl, HP.out, HO.out, HBB.out⟩
    case rest =>
      clear O0 HW0
      obtain ⟨dn, cur, hm0, hP, hown, HBr⟩ := hcut
      subst hm0
      have hP2 := hP.mks
      rw [List.take_length] at hP2
      replace HB : Below w.heap.size w wc := HB.trans (HBr.mono (by omega))
      replace R0 := R0.step (show Below W0.heap.size W0 wc by rw [hWs]; exact HBr)
      have hsz := HBr.size
      have hdl := hP.dl
      rw [btL_len] at hdl
      by_cases hm1 : dn.map Prod.snd = [44]
      · obtain ⟨p, rfl, el, hp44, hflt⟩ := pd_one hP hm1
        have hlt := btL_lt s
        have hle := btL_len s
        rw [el] at hlt hle
        have hpl : p.length ≤ 80 ∧ cur.length ≤ 80 := by rw [List.length_append, List.length_cons] at hle; omega
        have hpb : ∀ b ∈ p, b < 256 := fun b hb => hlt b (List.mem_append_left _ hb)
        have hcb : ∀ b ∈ cur, b < 256 := fun b hb => hlt b (List.mem_append_right _ (List.mem_cons_of_mem _ hb))
        obtain ⟨x, xk, hx, xy, xn, hrx⟩ := rd_ex (p)
        obtain ⟨y, yk, hy, yy, yn, hry⟩ := rd_ex (cur)
        obtain ⟨z, zk, hz, zy, zn, hrz⟩ := rd_ex ([49])
        obtain ⟨HA0, HY0, HZ0, HT0⟩ := pd_tell (s := s) hx hy hz xy xn yy yn zy zn (by rw [el]; simp) (fun x' y' z' h => by obtain ⟨a1, a2, a3⟩ := pt_parts1 h el hp44 hflt; exact ⟨a1, a2, by rw [a3, tx_one]⟩)
        have HA : Hid (xk = false → rpV (btL s) = .tuple #[PV 0 0 0, .bool false]) := HA0
        have HY : Hid (yk = false → rpV (btL s) = .tuple #[PV 0 0 0, .bool false]) := HY0
        have HZ : Hid (zk = false → rpV (btL s) = .tuple #[PV 0 0 0, .bool false]) := HZ0
        have CX := specRead_any (strL p) (by rw [strL_size]; omega)
        rw [show btL (strL p) = p from btL_strL hpb, hrx] at CX
        have CY := specRead_any (strL cur) (by rw [strL_size]; omega)
        rw [show btL (strL cur) = cur from btL_strL hcb, hry] at CY
        have CZ := specRead_any (⟨#[49]⟩) (by decide)
        rw [show btL (⟨#[49]⟩) = [49] from rfl, hrz] at CZ
        have CT := specPtText_det x y z hx hy hz
        generalize strL (if ptB x y z = true then ptL x y z else []) = T at *
        have HT : Hid (xk = true → yk = true → zk = true → (T = s → rpV (btL s) = .tuple #[PV x y z, .bool true]) ∧ (T ≠ s → rpV (btL s) = .tuple #[PV 0 0 0, .bool false])) := HT0
        clear HA0 HY0 HZ0 HT0 hrx hry hrz xy xn yy yn zy zn hx hy hz
        have e1 : ((strL (List.map Prod.snd [(p, 44)])).toList == [44]) = true := by
          rw [tl_data]
          rfl
        generalize strL (List.map Prod.snd [(p, 44)]) = M at *
        have HBB : Hid (Below w.heap.size w wc) := HB
        have HRR : Hid (Blk wc w.heap.size [.int .u64 0, .int .u64 0, .int .u64 0, .int .u64 0, .int .u64 0, .int .u64 0, .int .u64 0, .int .u64 0, .int .u64 0, .int .u64 0, .int .u64 0, .int .u64 0]) := R0
        have hHB := HBr.size
        clear hlt hle hpl hpb hcb el hflt hp44 hP hP2 hm1 HB R0 HBr hdl
        have hrow : rowP [(p, 44)] cur = [.string (strL p), .string (strL cur)] := rfl
        rw [hrow] at hown
        clear hrow
        generalize strL p = SP at *
        generalize strL cur = SC at *
        have hl2 : ([(p, 44)] : List (List Nat × Nat)).length + 1 = 2 := rfl
        rw [hl2] at hown
        clear hl2
        go_wp2_with (at_builtin; refine wpList_append_own _ rfl _ _ 97 rfl (w.heap.size + 1) 9 i0 (.string ⟨#[]⟩) 1 16 Try.underlying97 hi hz0 hz1 hz2 rfl (by decide) _ _ _ rfl (hown.alloc _) ⟨wc.heap.size, 0, none⟩ 1 1 [.string ⟨#[49]⟩] rfl rfl (cell_one_new _ _ _) (one_str _) (by unfold maxLen; omega) (by decide) (by simp; omega) ?_)
        intro v' w2 hown2 hgrow2 hnn
        have HB : Below w.heap.size w w2 := (HBB.out.alloc HBB.out.size _).grown hgrow2 (by simp; omega) (fun j hj => by have := (hown.lt j hj).1; omega)
        have R0 : Blk w2 w.heap.size [.int .u64 0, .int .u64 0, .int .u64 0, .int .u64 0, .int .u64 0, .int .u64 0, .int .u64 0, .int .u64 0, .int .u64 0, .int .u64 0, .int .u64 0, .int .u64 0] := blk_grown (HRR.out.alloc _) hgrow2 (fun h => by have := (hown.lt _ h.symm).1; omega)
        obtain ⟨g, cap, hv, _⟩ := own_form hown2
        subst hv
        have G3 := own_blk hown2
        have G3 : Blk w2 g [.string SP, .string SC, .string ⟨#[49]⟩] := G3
        clear hown2 hgrow2 hnn HBB HRR
        have k0 := G3.c 0 rfl
        have k1 := G3.c 1 rfl
        have k2 := G3.c 2 rfl
        clear hown
        go_wp2_with fail
        refine (CX _).mono ?_
        rintro e w1 ⟨rfl, hB⟩
        replace HB := HB.trans (hB.mono HB.size)
        replace R0 := R0.step hB
        replace G3 := G3.step hB
        clear hB
        clear CX k0 k1 k2
        have X1 := Blk.new w1 [.int .u64 (ww3 x), .int .u64 (ww2 x), .int .u64 (ww1 x), .int .u64 (ww0 x)] 26 rfl
        rw [show ([.int .u64 (ww3 x), .int .u64 (ww2 x), .int .u64 (ww1 x), .int .u64 (ww0 x)] : List Value).toArray = #[.int .u64 (ww3 x), .int .u64 (ww2 x), .int .u64 (ww1 x), .int .u64 (ww0 x)] from rfl] at X1
        replace HB := HB.alloc HB.size (Obj.cells #[.int .u64 (ww3 x), .int .u64 (ww2 x), .int .u64 (ww1 x), .int .u64 (ww0 x)] 26)
        replace R0 := R0.alloc (Obj.cells #[.int .u64 (ww3 x), .int .u64 (ww2 x), .int .u64 (ww1 x), .int .u64 (ww0 x)] 26)
        replace G3 := G3.alloc (Obj.cells #[.int .u64 (ww3 x), .int .u64 (ww2 x), .int .u64 (ww1 x), .int .u64 (ww0 x)] 26)
        have k0 := G3.c 0 rfl
        have k1 := G3.c 1 rfl
        have k2 := G3.c 2 rfl
        go_wp2_with fail
        generalize w1.heap.size = g1 at *
        generalize (w1.alloc (Obj.cells #[.int .u64 (ww3 x), .int .u64 (ww2 x), .int .u64 (ww1 x), .int .u64 (ww0 x)] 26)) = W1 at *
        refine (CY _).mono ?_
        rintro e w2 ⟨rfl, hB⟩
        replace HB := HB.trans (hB.mono HB.size)
        replace R0 := R0.step hB
        replace G3 := G3.step hB
        replace X1 := X1.step hB
        clear hB
        clear CY k0 k1 k2
        have X2 := Blk.new w2 [.int .u64 (ww3 y), .int .u64 (ww2 y), .int .u64 (ww1 y), .int .u64 (ww0 y)] 26 rfl
        rw [show ([.int .u64 (ww3 y), .int .u64 (ww2 y), .int .u64 (ww1 y), .int .u64 (ww0 y)] : List Value).toArray = #[.int .u64 (ww3 y), .int .u64 (ww2 y), .int .u64 (ww1 y), .int .u64 (ww0 y)] from rfl] at X2
        replace HB := HB.alloc HB.size (Obj.cells #[.int .u64 (ww3 y), .int .u64 (ww2 y), .int .u64 (ww1 y), .int .u64 (ww0 y)] 26)
        replace R0 := R0.alloc (Obj.cells #[.int .u64 (ww3 y), .int .u64 (ww2 y), .int .u64 (ww1 y), .int .u64 (ww0 y)] 26)
        replace G3 := G3.alloc (Obj.cells #[.int .u64 (ww3 y), .int .u64 (ww2 y), .int .u64 (ww1 y), .int .u64 (ww0 y)] 26)
        replace X1 := X1.alloc (Obj.cells #[.int .u64 (ww3 y), .int .u64 (ww2 y), .int .u64 (ww1 y), .int .u64 (ww0 y)] 26)
        have k0 := G3.c 0 rfl
        have k1 := G3.c 1 rfl
        have k2 := G3.c 2 rfl
        go_wp2_with fail
        generalize w2.heap.size = g2 at *
        generalize (w2.alloc (Obj.cells #[.int .u64 (ww3 y), .int .u64 (ww2 y), .int .u64 (ww1 y), .int .u64 (ww0 y)] 26)) = W2 at *
        refine (CZ _).mono ?_
        rintro e w3 ⟨rfl, hB⟩
        replace HB := HB.trans (hB.mono HB.size)
        replace R0 := R0.step hB
        replace G3 := G3.step hB
        replace X1 := X1.step hB
        replace X2 := X2.step hB
        clear hB
        clear CZ k0 k1 k2
        have X3 := Blk.new w3 [.int .u64 (ww3 z), .int .u64 (ww2 z), .int .u64 (ww1 z), .int .u64 (ww0 z)] 26 rfl
        rw [show ([.int .u64 (ww3 z), .int .u64 (ww2 z), .int .u64 (ww1 z), .int .u64 (ww0 z)] : List Value).toArray = #[.int .u64 (ww3 z), .int .u64 (ww2 z), .int .u64 (ww1 z), .int .u64 (ww0 z)] from rfl] at X3
        replace HB := HB.alloc HB.size (Obj.cells #[.int .u64 (ww3 z), .int .u64 (ww2 z), .int .u64 (ww1 z), .int .u64 (ww0 z)] 26)
        replace R0 := R0.alloc (Obj.cells #[.int .u64 (ww3 z), .int .u64 (ww2 z), .int .u64 (ww1 z), .int .u64 (ww0 z)] 26)
        replace G3 := G3.alloc (Obj.cells #[.int .u64 (ww3 z), .int .u64 (ww2 z), .int .u64 (ww1 z), .int .u64 (ww0 z)] 26)
        replace X1 := X1.alloc (Obj.cells #[.int .u64 (ww3 z), .int .u64 (ww2 z), .int .u64 (ww1 z), .int .u64 (ww0 z)] 26)
        replace X2 := X2.alloc (Obj.cells #[.int .u64 (ww3 z), .int .u64 (ww2 z), .int .u64 (ww1 z), .int .u64 (ww0 z)] 26)
        have k0 := G3.c 0 rfl
        have k1 := G3.c 1 rfl
        have k2 := G3.c 2 rfl
        obtain ⟨c0, c1, c2, c3⟩ := X1.cs4
        obtain ⟨d0, d1, d2, d3⟩ := X2.cs4
        obtain ⟨e0, e1, e2, e3⟩ := X3.cs4
        go_upto_region 20 with fail
        clear c0 c1 c2 c3 d0 d1 d2 d3 e0 e1 e2 e3 X1 X2 X3 k0 k1 k2 G3
        have X4 := Blk.new (w3.alloc (Obj.cells #[.int .u64 (ww3 z), .int .u64 (ww2 z), .int .u64 (ww1 z), .int .u64 (ww0 z)] 26)) [.int .u64 (ww3 x), .int .u64 (ww2 x), .int .u64 (ww1 x), .int .u64 (ww0 x), .int .u64 (ww3 y), .int .u64 (ww2 y), .int .u64 (ww1 y), .int .u64 (ww0 y), .int .u64 (ww3 z), .int .u64 (ww2 z), .int .u64 (ww1 z), .int .u64 (ww0 z)] 47 (g := w3.heap.size + 1) (by simp)
        rw [show ([.int .u64 (ww3 x), .int .u64 (ww2 x), .int .u64 (ww1 x), .int .u64 (ww0 x), .int .u64 (ww3 y), .int .u64 (ww2 y), .int .u64 (ww1 y), .int .u64 (ww0 y), .int .u64 (ww3 z), .int .u64 (ww2 z), .int .u64 (ww1 z), .int .u64 (ww0 z)] : List Value).toArray = #[.int .u64 (ww3 x), .int .u64 (ww2 x), .int .u64 (ww1 x), .int .u64 (ww0 x), .int .u64 (ww3 y), .int .u64 (ww2 y), .int .u64 (ww1 y), .int .u64 (ww0 y), .int .u64 (ww3 z), .int .u64 (ww2 z), .int .u64 (ww1 z), .int .u64 (ww0 z)] from rfl] at X4
        replace HB := HB.alloc HB.size (Obj.cells #[.int .u64 (ww3 x), .int .u64 (ww2 x), .int .u64 (ww1 x), .int .u64 (ww0 x), .int .u64 (ww3 y), .int .u64 (ww2 y), .int .u64 (ww1 y), .int .u64 (ww0 y), .int .u64 (ww3 z), .int .u64 (ww2 z), .int .u64 (ww1 z), .int .u64 (ww0 z)] 47)
        replace R0 := R0.alloc (Obj.cells #[.int .u64 (ww3 x), .int .u64 (ww2 x), .int .u64 (ww1 x), .int .u64 (ww0 x), .int .u64 (ww3 y), .int .u64 (ww2 y), .int .u64 (ww1 y), .int .u64 (ww0 y), .int .u64 (ww3 z), .int .u64 (ww2 z), .int .u64 (ww1 z), .int .u64 (ww0 z)] 47)
        generalize w3.heap.size + 1 = g5 at *
        generalize ((w3.alloc (Obj.cells #[.int .u64 (ww3 z), .int .u64 (ww2 z), .int .u64 (ww1 z), .int .u64 (ww0 z)] 26)).alloc (Obj.cells #[.int .u64 (ww3 x), .int .u64 (ww2 x), .int .u64 (ww1 x), .int .u64 (ww0 x), .int .u64 (ww3 y), .int .u64 (ww2 y), .int .u64 (ww1 y), .int .u64 (ww0 y), .int .u64 (ww3 z), .int .u64 (ww2 z), .int .u64 (ww1 z), .int .u64 (ww0 z)] 47)) = W5 at *
        cases xk
        · have HV : Hid (rpV (btL s) = .tuple #[.agg #[.int .u64 0, .int .u64 0, .int .u64 0, .int .u64 0, .int .u64 0, .int .u64 0, .int .u64 0, .int .u64 0, .int .u64 0, .int .u64 0, .int .u64 0, .int .u64 0], .bool false]) := HA.out rfl
          have dl := R0.lt
          have o0 := R0.c 0 rfl; have q0 := R0.f 0 rfl; have o1 := R0.c 1 rfl; have q1 := R0.f 1 rfl; have o2 := R0.c 2 rfl; have q2 := R0.f 2 rfl; have o3 := R0.c 3 rfl; have q3 := R0.f 3 rfl; have o4 := R0.c 4 rfl; have q4 := R0.f 4 rfl; have o5 := R0.c 5 rfl; have q5 := R0.f 5 rfl; have o6 := R0.c 6 rfl; have q6 := R0.f 6 rfl; have o7 := R0.c 7 rfl; have q7 := R0.f 7 rfl; have o8 := R0.c 8 rfl; have q8 := R0.f 8 rfl; have o9 := R0.c 9 rfl; have q9 := R0.f 9 rfl; have o10 := R0.c 10 rfl; have q10 := R0.f 10 rfl; have o11 := R0.c 11 rfl; have q11 := R0.f 11 rfl
          go_wp2
          refine bodyPost_ret (v := .tuple #[.agg #[.int .u64 0, .int .u64 0, .int .u64 0, .int .u64 0, .int .u64 0, .int .u64 0, .int .u64 0, .int .u64 0, .int .u64 0, .int .u64 0, .int .u64 0, .int .u64 0], .bool false]) (by simp [results, Try.results27, go_sem, o0, o1, o2, o3, o4, o5, o6, o7, o8, o9, o10, o11]) rfl ?_
          refine ⟨by rw [HV.out], ?_⟩
          repeat' (refine Below.setCell ?_ (by simp; try omega) _)
          exact HB
        · cases yk
          · have HV : Hid (rpV (btL s) = .tuple #[.agg #[.int .u64 0, .int .u64 0, .int .u64 0, .int .u64 0, .int .u64 0, .int .u64 0, .int .u64 0, .int .u64 0, .int .u64 0, .int .u64 0, .int .u64 0, .int .u64 0], .bool false]) := HY.out rfl
            have dl := R0.lt
            have o0 := R0.c 0 rfl; have q0 := R0.f 0 rfl; have o1 := R0.c 1 rfl; have q1 := R0.f 1 rfl; have o2 := R0.c 2 rfl; have q2 := R0.f 2 rfl; have o3 := R0.c 3 rfl; have q3 := R0.f 3 rfl; have o4 := R0.c 4 rfl; have q4 := R0.f 4 rfl; have o5 := R0.c 5 rfl; have q5 := R0.f 5 rfl; have o6 := R0.c 6 rfl; have q6 := R0.f 6 rfl; have o7 := R0.c 7 rfl; have q7 := R0.f 7 rfl; have o8 := R0.c 8 rfl; have q8 := R0.f 8 rfl; have o9 := R0.c 9 rfl; have q9 := R0.f 9 rfl; have o10 := R0.c 10 rfl; have q10 := R0.f 10 rfl; have o11 := R0.c 11 rfl; have q11 := R0.f 11 rfl
            go_wp2
            refine bodyPost_ret (v := .tuple #[.agg #[.int .u64 0, .int .u64 0, .int .u64 0, .int .u64 0, .int .u64 0, .int .u64 0, .int .u64 0, .int .u64 0, .int .u64 0, .int .u64 0, .int .u64 0, .int .u64 0], .bool false]) (by simp [results, Try.results27, go_sem, o0, o1, o2, o3, o4, o5, o6, o7, o8, o9, o10, o11]) rfl ?_
            refine ⟨by rw [HV.out], ?_⟩
            repeat' (refine Below.setCell ?_ (by simp; try omega) _)
            exact HB
          · cases zk
            · have HV : Hid (rpV (btL s) = .tuple #[.agg #[.int .u64 0, .int .u64 0, .int .u64 0, .int .u64 0, .int .u64 0, .int .u64 0, .int .u64 0, .int .u64 0, .int .u64 0, .int .u64 0, .int .u64 0, .int .u64 0], .bool false]) := HZ.out rfl
              have dl := R0.lt
              have o0 := R0.c 0 rfl; have q0 := R0.f 0 rfl; have o1 := R0.c 1 rfl; have q1 := R0.f 1 rfl; have o2 := R0.c 2 rfl; have q2 := R0.f 2 rfl; have o3 := R0.c 3 rfl; have q3 := R0.f 3 rfl; have o4 := R0.c 4 rfl; have q4 := R0.f 4 rfl; have o5 := R0.c 5 rfl; have q5 := R0.f 5 rfl; have o6 := R0.c 6 rfl; have q6 := R0.f 6 rfl; have o7 := R0.c 7 rfl; have q7 := R0.f 7 rfl; have o8 := R0.c 8 rfl; have q8 := R0.f 8 rfl; have o9 := R0.c 9 rfl; have q9 := R0.f 9 rfl; have o10 := R0.c 10 rfl; have q10 := R0.f 10 rfl; have o11 := R0.c 11 rfl; have q11 := R0.f 11 rfl
              go_wp2
              refine bodyPost_ret (v := .tuple #[.agg #[.int .u64 0, .int .u64 0, .int .u64 0, .int .u64 0, .int .u64 0, .int .u64 0, .int .u64 0, .int .u64 0, .int .u64 0, .int .u64 0, .int .u64 0, .int .u64 0], .bool false]) (by simp [results, Try.results27, go_sem, o0, o1, o2, o3, o4, o5, o6, o7, o8, o9, o10, o11]) rfl ?_
              refine ⟨by rw [HV.out], ?_⟩
              repeat' (refine Below.setCell ?_ (by simp; try omega) _)
              exact HB
            · obtain ⟨hA1, hA2⟩ := HT.out rfl rfl rfl
              obtain ⟨c0, c1, c2, c3, c4, c5, c6, c7, c8, c9, c10, c11⟩ := X4.cs12
              by_cases hTs : T = s
              · have HV : Hid (rpV (btL s) = .tuple #[.agg #[.int .u64 (ww3 x), .int .u64 (ww2 x), .int .u64 (ww1 x), .int .u64 (ww0 x), .int .u64 (ww3 y), .int .u64 (ww2 y), .int .u64 (ww1 y), .int .u64 (ww0 y), .int .u64 (ww3 z), .int .u64 (ww2 z), .int .u64 (ww1 z), .int .u64 (ww0 z)], .bool true]) := hA1 hTs
                have e1 : (T.toList == s.toList) = true := by rw [hTs]; exact beq_iff_eq.2 rfl
                clear hA1 hA2 hTs HA HY HZ HT
                go_wp2_with fail
                refine (CT _).mono ?_
                rintro e w6 ⟨rfl, hB⟩
                replace HB := HB.trans (hB.mono HB.size)
                replace R0 := R0.step hB
                replace X4 := X4.step hB
                clear hB
                clear CT c0 c1 c2 c3 c4 c5 c6 c7 c8 c9 c10 c11
                obtain ⟨c0, c1, c2, c3, c4, c5, c6, c7, c8, c9, c10, c11⟩ := X4.cs12
                have dl := R0.lt
                have o0 := R0.c 0 rfl; have q0 := R0.f 0 rfl; have o1 := R0.c 1 rfl; have q1 := R0.f 1 rfl; have o2 := R0.c 2 rfl; have q2 := R0.f 2 rfl; have o3 := R0.c 3 rfl; have q3 := R0.f 3 rfl; have o4 := R0.c 4 rfl; have q4 := R0.f 4 rfl; have o5 := R0.c 5 rfl; have q5 := R0.f 5 rfl; have o6 := R0.c 6 rfl; have q6 := R0.f 6 rfl; have o7 := R0.c 7 rfl; have q7 := R0.f 7 rfl; have o8 := R0.c 8 rfl; have q8 := R0.f 8 rfl; have o9 := R0.c 9 rfl; have q9 := R0.f 9 rfl; have o10 := R0.c 10 rfl; have q10 := R0.f 10 rfl; have o11 := R0.c 11 rfl; have q11 := R0.f 11 rfl
                go_wp2
                refine bodyPost_ret (v := .tuple #[.agg #[.int .u64 (ww3 x), .int .u64 (ww2 x), .int .u64 (ww1 x), .int .u64 (ww0 x), .int .u64 (ww3 y), .int .u64 (ww2 y), .int .u64 (ww1 y), .int .u64 (ww0 y), .int .u64 (ww3 z), .int .u64 (ww2 z), .int .u64 (ww1 z), .int .u64 (ww0 z)], .bool true]) (by simp [results, Try.results27, go_sem, o0, o1, o2, o3, o4, o5, o6, o7, o8, o9, o10, o11]) rfl ?_
                refine ⟨by rw [HV.out], ?_⟩
                repeat' (refine Below.setCell ?_ (by simp; try omega) _)
                exact HB
              · have HV : Hid (rpV (btL s) = .tuple #[.agg #[.int .u64 0, .int .u64 0, .int .u64 0, .int .u64 0, .int .u64 0, .int .u64 0, .int .u64 0, .int .u64 0, .int .u64 0, .int .u64 0, .int .u64 0, .int .u64 0], .bool false]) := hA2 hTs
                have e1 : (T.toList == s.toList) = false := beq_eq_false_iff_ne.2 fun h => hTs (btL_inj (by rw [tl_btL, tl_btL, h]))
                clear hA1 hA2 hTs HA HY HZ HT
                go_wp2_with fail
                refine (CT _).mono ?_
                rintro e w6 ⟨rfl, hB⟩
                replace HB := HB.trans (hB.mono HB.size)
                replace R0 := R0.step hB
                replace X4 := X4.step hB
                clear hB
                clear CT c0 c1 c2 c3 c4 c5 c6 c7 c8 c9 c10 c11
                have dl := R0.lt
                have o0 := R0.c 0 rfl; have q0 := R0.f 0 rfl; have o1 := R0.c 1 rfl; have q1 := R0.f 1 rfl; have o2 := R0.c 2 rfl; have q2 := R0.f 2 rfl; have o3 := R0.c 3 rfl; have q3 := R0.f 3 rfl; have o4 := R0.c 4 rfl; have q4 := R0.f 4 rfl; have o5 := R0.c 5 rfl; have q5 := R0.f 5 rfl; have o6 := R0.c 6 rfl; have q6 := R0.f 6 rfl; have o7 := R0.c 7 rfl; have q7 := R0.f 7 rfl; have o8 := R0.c 8 rfl; have q8 := R0.f 8 rfl; have o9 := R0.c 9 rfl; have q9 := R0.f 9 rfl; have o10 := R0.c 10 rfl; have q10 := R0.f 10 rfl; have o11 := R0.c 11 rfl; have q11 := R0.f 11 rfl
                go_wp2
                refine bodyPost_ret (v := .tuple #[.agg #[.int .u64 0, .int .u64 0, .int .u64 0, .int .u64 0, .int .u64 0, .int .u64 0, .int .u64 0, .int .u64 0, .int .u64 0, .int .u64 0, .int .u64 0, .int .u64 0], .bool false]) (by simp [results, Try.results27, go_sem, o0, o1, o2, o3, o4, o5, o6, o7, o8, o9, o10, o11]) rfl ?_
                refine ⟨by rw [HV.out], ?_⟩
                repeat' (refine Below.setCell ?_ (by simp; try omega) _)
                exact HB
      · by_cases hm2 : dn.map Prod.snd = [44, 47]
        · obtain ⟨p, q, rfl, el, hp44, hq47, hflt⟩ := pd_two hP hm2
          have hlt := btL_lt s
          have hle := btL_len s
          rw [el] at hlt hle
          have hpl : p.length ≤ 80 ∧ q.length ≤ 80 ∧ cur.length ≤ 80 := by rw [List.length_append, List.length_cons, List.length_append, List.length_cons] at hle; omega
          have hpb : ∀ b ∈ p, b < 256 := fun b hb => hlt b (List.mem_append_left _ hb)
          have hqb : ∀ b ∈ q, b < 256 := fun b hb => hlt b (List.mem_append_right _ (List.mem_cons_of_mem _ (List.mem_append_left _ hb)))
          have hcb : ∀ b ∈ cur, b < 256 := fun b hb => hlt b (List.mem_append_right _ (List.mem_cons_of_mem _ (List.mem_append_right _ (List.mem_cons_of_mem _ hb))))
          obtain ⟨x, xk, hx, xy, xn, hrx⟩ := rd_ex (p)
          obtain ⟨y, yk, hy, yy, yn, hry⟩ := rd_ex (q)
          obtain ⟨z, zk, hz, zy, zn, hrz⟩ := rd_ex (cur)
          obtain ⟨HA0, HY0, HZ0, HT0⟩ := pd_tell (s := s) hx hy hz xy xn yy yn zy zn (by rw [el]; simp) (fun x' y' z' h => pt_parts2 h el hp44 hq47 hflt)
          have HA : Hid (xk = false → rpV (btL s) = .tuple #[PV 0 0 0, .bool false]) := HA0
          have HY : Hid (yk = false → rpV (btL s) = .tuple #[PV 0 0 0, .bool false]) := HY0
          have HZ : Hid (zk = false → rpV (btL s) = .tuple #[PV 0 0 0, .bool false]) := HZ0
          have CX := specRead_any (strL p) (by rw [strL_size]; omega)
          rw [show btL (strL p) = p from btL_strL hpb, hrx] at CX
          have CY := specRead_any (strL q) (by rw [strL_size]; omega)
          rw [show btL (strL q) = q from btL_strL hqb, hry] at CY
          have CZ := specRead_any (strL cur) (by rw [strL_size]; omega)
          rw [show btL (strL cur) = cur from btL_strL hcb, hrz] at CZ
          have CT := specPtText_det x y z hx hy hz
          generalize strL (if ptB x y z = true then ptL x y z else []) = T at *
          have HT : Hid (xk = true → yk = true → zk = true → (T = s → rpV (btL s) = .tuple #[PV x y z, .bool true]) ∧ (T ≠ s → rpV (btL s) = .tuple #[PV 0 0 0, .bool false])) := HT0
          clear HA0 HY0 HZ0 HT0 hrx hry hrz xy xn yy yn zy zn hx hy hz
          have e1 : ((strL (List.map Prod.snd [(p, 44), (q, 47)])).toList == [44]) = false := by
            rw [tl_data]
            rfl
          have e2 : ((strL (List.map Prod.snd [(p, 44), (q, 47)])).toList == [44, 47]) = true := by
            rw [tl_data]
            rfl
          generalize strL (List.map Prod.snd [(p, 44), (q, 47)]) = M at *
          obtain ⟨g, cap, hv, _⟩ := own_form hown
          have hv' := hv.symm
          subst hv'
          have G3 := own_blk hown
          have G3 : Blk wc g [.string (strL p), .string (strL q), .string (strL cur)] := G3
          have hl2 : ([(p, 44), (q, 47)] : List (List Nat × Nat)).length + 1 = 3 := rfl
          clear hlt hle hpl hpb hqb hcb el hflt hp44 hq47 hP hP2 hm1 hm2 HBr hdl
          generalize strL p = SP at *
          generalize strL q = SQ at *
          generalize strL cur = SC at *
          have k0 := G3.c 0 rfl
          have k1 := G3.c 1 rfl
          have k2 := G3.c 2 rfl
          clear hown
          go_wp2_with fail
          refine (CX _).mono ?_
          rintro e w1 ⟨rfl, hB⟩
          replace HB := HB.trans (hB.mono HB.size)
          replace R0 := R0.step hB
          replace G3 := G3.step hB
          clear hB
          clear CX k0 k1 k2
          have X1 := Blk.new w1 [.int .u64 (ww3 x), .int .u64 (ww2 x), .int .u64 (ww1 x), .int .u64 (ww0 x)] 26 rfl
          rw [show ([.int .u64 (ww3 x), .int .u64 (ww2 x), .int .u64 (ww1 x), .int .u64 (ww0 x)] : List Value).toArray = #[.int .u64 (ww3 x), .int .u64 (ww2 x), .int .u64 (ww1 x), .int .u64 (ww0 x)] from rfl] at X1
          replace HB := HB.alloc HB.size (Obj.cells #[.int .u64 (ww3 x), .int .u64 (ww2 x), .int .u64 (ww1 x), .int .u64 (ww0 x)] 26)
          replace R0 := R0.alloc (Obj.cells #[.int .u64 (ww3 x), .int .u64 (ww2 x), .int .u64 (ww1 x), .int .u64 (ww0 x)] 26)
          replace G3 := G3.alloc (Obj.cells #[.int .u64 (ww3 x), .int .u64 (ww2 x), .int .u64 (ww1 x), .int .u64 (ww0 x)] 26)
          have k0 := G3.c 0 rfl
          have k1 := G3.c 1 rfl
          have k2 := G3.c 2 rfl
          go_wp2_with fail
          generalize w1.heap.size = g1 at *
          generalize (w1.alloc (Obj.cells #[.int .u64 (ww3 x), .int .u64 (ww2 x), .int .u64 (ww1 x), .int .u64 (ww0 x)] 26)) = W1 at *
          refine (CY _).mono ?_
          rintro e w2 ⟨rfl, hB⟩
          replace HB := HB.trans (hB.mono HB.size)
          replace R0 := R0.step hB
          replace G3 := G3.step hB
          replace X1 := X1.step hB
          clear hB
          clear CY k0 k1 k2
          have X2 := Blk.new w2 [.int .u64 (ww3 y), .int .u64 (ww2 y), .int .u64 (ww1 y), .int .u64 (ww0 y)] 26 rfl
          rw [show ([.int .u64 (ww3 y), .int .u64 (ww2 y), .int .u64 (ww1 y), .int .u64 (ww0 y)] : List Value).toArray = #[.int .u64 (ww3 y), .int .u64 (ww2 y), .int .u64 (ww1 y), .int .u64 (ww0 y)] from rfl] at X2
          replace HB := HB.alloc HB.size (Obj.cells #[.int .u64 (ww3 y), .int .u64 (ww2 y), .int .u64 (ww1 y), .int .u64 (ww0 y)] 26)
          replace R0 := R0.alloc (Obj.cells #[.int .u64 (ww3 y), .int .u64 (ww2 y), .int .u64 (ww1 y), .int .u64 (ww0 y)] 26)
          replace G3 := G3.alloc (Obj.cells #[.int .u64 (ww3 y), .int .u64 (ww2 y), .int .u64 (ww1 y), .int .u64 (ww0 y)] 26)
          replace X1 := X1.alloc (Obj.cells #[.int .u64 (ww3 y), .int .u64 (ww2 y), .int .u64 (ww1 y), .int .u64 (ww0 y)] 26)
          have k0 := G3.c 0 rfl
          have k1 := G3.c 1 rfl
          have k2 := G3.c 2 rfl
          go_wp2_with fail
          generalize w2.heap.size = g2 at *
          generalize (w2.alloc (Obj.cells #[.int .u64 (ww3 y), .int .u64 (ww2 y), .int .u64 (ww1 y), .int .u64 (ww0 y)] 26)) = W2 at *
          refine (CZ _).mono ?_
          rintro e w3 ⟨rfl, hB⟩
          replace HB := HB.trans (hB.mono HB.size)
          replace R0 := R0.step hB
          replace G3 := G3.step hB
          replace X1 := X1.step hB
          replace X2 := X2.step hB
          clear hB
          clear CZ k0 k1 k2
          have X3 := Blk.new w3 [.int .u64 (ww3 z), .int .u64 (ww2 z), .int .u64 (ww1 z), .int .u64 (ww0 z)] 26 rfl
          rw [show ([.int .u64 (ww3 z), .int .u64 (ww2 z), .int .u64 (ww1 z), .int .u64 (ww0 z)] : List Value).toArray = #[.int .u64 (ww3 z), .int .u64 (ww2 z), .int .u64 (ww1 z), .int .u64 (ww0 z)] from rfl] at X3
          replace HB := HB.alloc HB.size (Obj.cells #[.int .u64 (ww3 z), .int .u64 (ww2 z), .int .u64 (ww1 z), .int .u64 (ww0 z)] 26)
          replace R0 := R0.alloc (Obj.cells #[.int .u64 (ww3 z), .int .u64 (ww2 z), .int .u64 (ww1 z), .int .u64 (ww0 z)] 26)
          replace G3 := G3.alloc (Obj.cells #[.int .u64 (ww3 z), .int .u64 (ww2 z), .int .u64 (ww1 z), .int .u64 (ww0 z)] 26)
          replace X1 := X1.alloc (Obj.cells #[.int .u64 (ww3 z), .int .u64 (ww2 z), .int .u64 (ww1 z), .int .u64 (ww0 z)] 26)
          replace X2 := X2.alloc (Obj.cells #[.int .u64 (ww3 z), .int .u64 (ww2 z), .int .u64 (ww1 z), .int .u64 (ww0 z)] 26)
          have k0 := G3.c 0 rfl
          have k1 := G3.c 1 rfl
          have k2 := G3.c 2 rfl
          obtain ⟨c0, c1, c2, c3⟩ := X1.cs4
          obtain ⟨d0, d1, d2, d3⟩ := X2.cs4
          obtain ⟨e0, e1, e2, e3⟩ := X3.cs4
          go_upto_region 20 with fail
          clear c0 c1 c2 c3 d0 d1 d2 d3 e0 e1 e2 e3 X1 X2 X3 k0 k1 k2 G3
          have X4 := Blk.new (w3.alloc (Obj.cells #[.int .u64 (ww3 z), .int .u64 (ww2 z), .int .u64 (ww1 z), .int .u64 (ww0 z)] 26)) [.int .u64 (ww3 x), .int .u64 (ww2 x), .int .u64 (ww1 x), .int .u64 (ww0 x), .int .u64 (ww3 y), .int .u64 (ww2 y), .int .u64 (ww1 y), .int .u64 (ww0 y), .int .u64 (ww3 z), .int .u64 (ww2 z), .int .u64 (ww1 z), .int .u64 (ww0 z)] 47 (g := w3.heap.size + 1) (by simp)
          rw [show ([.int .u64 (ww3 x), .int .u64 (ww2 x), .int .u64 (ww1 x), .int .u64 (ww0 x), .int .u64 (ww3 y), .int .u64 (ww2 y), .int .u64 (ww1 y), .int .u64 (ww0 y), .int .u64 (ww3 z), .int .u64 (ww2 z), .int .u64 (ww1 z), .int .u64 (ww0 z)] : List Value).toArray = #[.int .u64 (ww3 x), .int .u64 (ww2 x), .int .u64 (ww1 x), .int .u64 (ww0 x), .int .u64 (ww3 y), .int .u64 (ww2 y), .int .u64 (ww1 y), .int .u64 (ww0 y), .int .u64 (ww3 z), .int .u64 (ww2 z), .int .u64 (ww1 z), .int .u64 (ww0 z)] from rfl] at X4
          replace HB := HB.alloc HB.size (Obj.cells #[.int .u64 (ww3 x), .int .u64 (ww2 x), .int .u64 (ww1 x), .int .u64 (ww0 x), .int .u64 (ww3 y), .int .u64 (ww2 y), .int .u64 (ww1 y), .int .u64 (ww0 y), .int .u64 (ww3 z), .int .u64 (ww2 z), .int .u64 (ww1 z), .int .u64 (ww0 z)] 47)
          replace R0 := R0.alloc (Obj.cells #[.int .u64 (ww3 x), .int .u64 (ww2 x), .int .u64 (ww1 x), .int .u64 (ww0 x), .int .u64 (ww3 y), .int .u64 (ww2 y), .int .u64 (ww1 y), .int .u64 (ww0 y), .int .u64 (ww3 z), .int .u64 (ww2 z), .int .u64 (ww1 z), .int .u64 (ww0 z)] 47)
          generalize w3.heap.size + 1 = g5 at *
          generalize ((w3.alloc (Obj.cells #[.int .u64 (ww3 z), .int .u64 (ww2 z), .int .u64 (ww1 z), .int .u64 (ww0 z)] 26)).alloc (Obj.cells #[.int .u64 (ww3 x), .int .u64 (ww2 x), .int .u64 (ww1 x), .int .u64 (ww0 x), .int .u64 (ww3 y), .int .u64 (ww2 y), .int .u64 (ww1 y), .int .u64 (ww0 y), .int .u64 (ww3 z), .int .u64 (ww2 z), .int .u64 (ww1 z), .int .u64 (ww0 z)] 47)) = W5 at *
          cases xk
          · have HV : Hid (rpV (btL s) = .tuple #[.agg #[.int .u64 0, .int .u64 0, .int .u64 0, .int .u64 0, .int .u64 0, .int .u64 0, .int .u64 0, .int .u64 0, .int .u64 0, .int .u64 0, .int .u64 0, .int .u64 0], .bool false]) := HA.out rfl
            have dl := R0.lt
            have o0 := R0.c 0 rfl; have q0 := R0.f 0 rfl; have o1 := R0.c 1 rfl; have q1 := R0.f 1 rfl; have o2 := R0.c 2 rfl; have q2 := R0.f 2 rfl; have o3 := R0.c 3 rfl; have q3 := R0.f 3 rfl; have o4 := R0.c 4 rfl; have q4 := R0.f 4 rfl; have o5 := R0.c 5 rfl; have q5 := R0.f 5 rfl; have o6 := R0.c 6 rfl; have q6 := R0.f 6 rfl; have o7 := R0.c 7 rfl; have q7 := R0.f 7 rfl; have o8 := R0.c 8 rfl; have q8 := R0.f 8 rfl; have o9 := R0.c 9 rfl; have q9 := R0.f 9 rfl; have o10 := R0.c 10 rfl; have q10 := R0.f 10 rfl; have o11 := R0.c 11 rfl; have q11 := R0.f 11 rfl
            go_wp2
            refine bodyPost_ret (v := .tuple #[.agg #[.int .u64 0, .int .u64 0, .int .u64 0, .int .u64 0, .int .u64 0, .int .u64 0, .int .u64 0, .int .u64 0, .int .u64 0, .int .u64 0, .int .u64 0, .int .u64 0], .bool false]) (by simp [results, Try.results27, go_sem, o0, o1, o2, o3, o4, o5, o6, o7, o8, o9, o10, o11]) rfl ?_
            refine ⟨by rw [HV.out], ?_⟩
            repeat' (refine Below.setCell ?_ (by simp; try omega) _)
            exact HB
          · cases yk
            · have HV : Hid (rpV (btL s) = .tuple #[.agg #[.int .u64 0, .int .u64 0, .int .u64 0, .int .u64 0, .int .u64 0, .int .u64 0, .int .u64 0, .int .u64 0, .int .u64 0, .int .u64 0, .int .u64 0, .int .u64 0], .bool false]) := HY.out rfl
              have dl := R0.lt
              have o0 := R0.c 0 rfl; have q0 := R0.f 0 rfl; have o1 := R0.c 1 rfl; have q1 := R0.f 1 rfl; have o2 := R0.c 2 rfl; have q2 := R0.f 2 rfl; have o3 := R0.c 3 rfl; have q3 := R0.f 3 rfl; have o4 := R0.c 4 rfl; have q4 := R0.f 4 rfl; have o5 := R0.c 5 rfl; have q5 := R0.f 5 rfl; have o6 := R0.c 6 rfl; have q6 := R0.f 6 rfl; have o7 := R0.c 7 rfl; have q7 := R0.f 7 rfl; have o8 := R0.c 8 rfl; have q8 := R0.f 8 rfl; have o9 := R0.c 9 rfl; have q9 := R0.f 9 rfl; have o10 := R0.c 10 rfl; have q10 := R0.f 10 rfl; have o11 := R0.c 11 rfl; have q11 := R0.f 11 rfl
              go_wp2
              refine bodyPost_ret (v := .tuple #[.agg #[.int .u64 0, .int .u64 0, .int .u64 0, .int .u64 0, .int .u64 0, .int .u64 0, .int .u64 0, .int .u64 0, .int .u64 0, .int .u64 0, .int .u64 0, .int .u64 0], .bool false]) (by simp [results, Try.results27, go_sem, o0, o1, o2, o3, o4, o5, o6, o7, o8, o9, o10, o11]) rfl ?_
              refine ⟨by rw [HV.out], ?_⟩
              repeat' (refine Below.setCell ?_ (by simp; try omega) _)
              exact HB
            · cases zk
              · have HV : Hid (rpV (btL s) = .tuple #[.agg #[.int .u64 0, .int .u64 0, .int .u64 0, .int .u64 0, .int .u64 0, .int .u64 0, .int .u64 0, .int .u64 0, .int .u64 0, .int .u64 0, .int .u64 0, .int .u64 0], .bool false]) := HZ.out rfl
                have dl := R0.lt
                have o0 := R0.c 0 rfl; have q0 := R0.f 0 rfl; have o1 := R0.c 1 rfl; have q1 := R0.f 1 rfl; have o2 := R0.c 2 rfl; have q2 := R0.f 2 rfl; have o3 := R0.c 3 rfl; have q3 := R0.f 3 rfl; have o4 := R0.c 4 rfl; have q4 := R0.f 4 rfl; have o5 := R0.c 5 rfl; have q5 := R0.f 5 rfl; have o6 := R0.c 6 rfl; have q6 := R0.f 6 rfl; have o7 := R0.c 7 rfl; have q7 := R0.f 7 rfl; have o8 := R0.c 8 rfl; have q8 := R0.f 8 rfl; have o9 := R0.c 9 rfl; have q9 := R0.f 9 rfl; have o10 := R0.c 10 rfl; have q10 := R0.f 10 rfl; have o11 := R0.c 11 rfl; have q11 := R0.f 11 rfl
                go_wp2
                refine bodyPost_ret (v := .tuple #[.agg #[.int .u64 0, .int .u64 0, .int .u64 0, .int .u64 0, .int .u64 0, .int .u64 0, .int .u64 0, .int .u64 0, .int .u64 0, .int .u64 0, .int .u64 0, .int .u64 0], .bool false]) (by simp [results, Try.results27, go_sem, o0, o1, o2, o3, o4, o5, o6, o7, o8, o9, o10, o11]) rfl ?_
                refine ⟨by rw [HV.out], ?_⟩
                repeat' (refine Below.setCell ?_ (by simp; try omega) _)
                exact HB
              · obtain ⟨hA1, hA2⟩ := HT.out rfl rfl rfl
                obtain ⟨c0, c1, c2, c3, c4, c5, c6, c7, c8, c9, c10, c11⟩ := X4.cs12
                by_cases hTs : T = s
                · have HV : Hid (rpV (btL s) = .tuple #[.agg #[.int .u64 (ww3 x), .int .u64 (ww2 x), .int .u64 (ww1 x), .int .u64 (ww0 x), .int .u64 (ww3 y), .int .u64 (ww2 y), .int .u64 (ww1 y), .int .u64 (ww0 y), .int .u64 (ww3 z), .int .u64 (ww2 z), .int .u64 (ww1 z), .int .u64 (ww0 z)], .bool true]) := hA1 hTs
                  have e1 : (T.toList == s.toList) = true := by rw [hTs]; exact beq_iff_eq.2 rfl
                  clear hA1 hA2 hTs HA HY HZ HT
                  go_wp2_with fail
                  refine (CT _).mono ?_
                  rintro e w6 ⟨rfl, hB⟩
                  replace HB := HB.trans (hB.mono HB.size)
                  replace R0 := R0.step hB
                  replace X4 := X4.step hB
                  clear hB
                  clear CT c0 c1 c2 c3 c4 c5 c6 c7 c8 c9 c10 c11
                  obtain ⟨c0, c1, c2, c3, c4, c5, c6, c7, c8, c9, c10, c11⟩ := X4.cs12
                  have dl := R0.lt
                  have o0 := R0.c 0 rfl; have q0 := R0.f 0 rfl; have o1 := R0.c 1 rfl; have q1 := R0.f 1 rfl; have o2 := R0.c 2 rfl; have q2 := R0.f 2 rfl; have o3 := R0.c 3 rfl; have q3 := R0.f 3 rfl; have o4 := R0.c 4 rfl; have q4 := R0.f 4 rfl; have o5 := R0.c 5 rfl; have q5 := R0.f 5 rfl; have o6 := R0.c 6 rfl; have q6 := R0.f 6 rfl; have o7 := R0.c 7 rfl; have q7 := R0.f 7 rfl; have o8 := R0.c 8 rfl; have q8 := R0.f 8 rfl; have o9 := R0.c 9 rfl; have q9 := R0.f 9 rfl; have o10 := R0.c 10 rfl; have q10 := R0.f 10 rfl; have o11 := R0.c 11 rfl; have q11 := R0.f 11 rfl
                  go_wp2
                  refine bodyPost_ret (v := .tuple #[.agg #[.int .u64 (ww3 x), .int .u64 (ww2 x), .int .u64 (ww1 x), .int .u64 (ww0 x), .int .u64 (ww3 y), .int .u64 (ww2 y), .int .u64 (ww1 y), .int .u64 (ww0 y), .int .u64 (ww3 z), .int .u64 (ww2 z), .int .u64 (ww1 z), .int .u64 (ww0 z)], .bool true]) (by simp [results, Try.results27, go_sem, o0, o1, o2, o3, o4, o5, o6, o7, o8, o9, o10, o11]) rfl ?_
                  refine ⟨by rw [HV.out], ?_⟩
                  repeat' (refine Below.setCell ?_ (by simp; try omega) _)
                  exact HB
                · have HV : Hid (rpV (btL s) = .tuple #[.agg #[.int .u64 0, .int .u64 0, .int .u64 0, .int .u64 0, .int .u64 0, .int .u64 0, .int .u64 0, .int .u64 0, .int .u64 0, .int .u64 0, .int .u64 0, .int .u64 0], .bool false]) := hA2 hTs
                  have e1 : (T.toList == s.toList) = false := beq_eq_false_iff_ne.2 fun h => hTs (btL_inj (by rw [tl_btL, tl_btL, h]))
                  clear hA1 hA2 hTs HA HY HZ HT
                  go_wp2_with fail
                  refine (CT _).mono ?_
                  rintro e w6 ⟨rfl, hB⟩
                  replace HB := HB.trans (hB.mono HB.size)
                  replace R0 := R0.step hB
                  replace X4 := X4.step hB
                  clear hB
                  clear CT c0 c1 c2 c3 c4 c5 c6 c7 c8 c9 c10 c11
                  have dl := R0.lt
                  have o0 := R0.c 0 rfl; have q0 := R0.f 0 rfl; have o1 := R0.c 1 rfl; have q1 := R0.f 1 rfl; have o2 := R0.c 2 rfl; have q2 := R0.f 2 rfl; have o3 := R0.c 3 rfl; have q3 := R0.f 3 rfl; have o4 := R0.c 4 rfl; have q4 := R0.f 4 rfl; have o5 := R0.c 5 rfl; have q5 := R0.f 5 rfl; have o6 := R0.c 6 rfl; have q6 := R0.f 6 rfl; have o7 := R0.c 7 rfl; have q7 := R0.f 7 rfl; have o8 := R0.c 8 rfl; have q8 := R0.f 8 rfl; have o9 := R0.c 9 rfl; have q9 := R0.f 9 rfl; have o10 := R0.c 10 rfl; have q10 := R0.f 10 rfl; have o11 := R0.c 11 rfl; have q11 := R0.f 11 rfl
                  go_wp2
                  refine bodyPost_ret (v := .tuple #[.agg #[.int .u64 0, .int .u64 0, .int .u64 0, .int .u64 0, .int .u64 0, .int .u64 0, .int .u64 0, .int .u64 0, .int .u64 0, .int .u64 0, .int .u64 0, .int .u64 0], .bool false]) (by simp [results, Try.results27, go_sem, o0, o1, o2, o3, o4, o5, o6, o7, o8, o9, o10, o11]) rfl ?_
                  refine ⟨by rw [HV.out], ?_⟩
                  repeat' (refine Below.setCell ?_ (by simp; try omega) _)
                  exact HB
        · have HV : Hid (rpV (btL s) = .tuple #[.agg #[.int .u64 0, .int .u64 0, .int .u64 0, .int .u64 0, .int .u64 0, .int .u64 0, .int .u64 0, .int .u64 0, .int .u64 0, .int .u64 0, .int .u64 0, .int .u64 0], .bool false]) := rpV_no fun x y z h => by
            rw [h.2.2.2.2, pt_marks] at hP2
            by_cases hz1 : z = 1
            · rw [if_pos hz1] at hP2; exact hm1 hP2.symm
            · rw [if_neg hz1] at hP2; exact hm2 hP2.symm
          have e1 : ((strL (dn.map Prod.snd)).toList == [44]) = false := beq_eq_false_iff_ne.2 fun h => hm1 (by
            have h2 := (tl_one 44).1 h
            rw [btL_strL (fun b hb => by rw [← hP2] at hb; exact btL_lt s b ((List.mem_filter.1 hb).1))] at h2
            exact h2)
          have e2 : ((strL (dn.map Prod.snd)).toList == [44, 47]) = false := beq_eq_false_iff_ne.2 fun h => hm2 (by
            have h2 := congrArg (List.map UInt8.toNat) h
            rw [← tl_btL, btL_strL (fun b hb => by rw [← hP2] at hb; exact btL_lt s b ((List.mem_filter.1 hb).1))] at h2
            exact h2)
          generalize strL (dn.map Prod.snd) = M at *
          clear hP hP2 hm1 hm2 hown HBr hdl
          have dl := R0.lt
          have o0 := R0.c 0 rfl; have q0 := R0.f 0 rfl; have o1 := R0.c 1 rfl; have q1 := R0.f 1 rfl; have o2 := R0.c 2 rfl; have q2 := R0.f 2 rfl; have o3 := R0.c 3 rfl; have q3 := R0.f 3 rfl; have o4 := R0.c 4 rfl; have q4 := R0.f 4 rfl; have o5 := R0.c 5 rfl; have q5 := R0.f 5 rfl; have o6 := R0.c 6 rfl; have q6 := R0.f 6 rfl; have o7 := R0.c 7 rfl; have q7 := R0.f 7 rfl; have o8 := R0.c 8 rfl; have q8 := R0.f 8 rfl; have o9 := R0.c 9 rfl; have q9 := R0.f 9 rfl; have o10 := R0.c 10 rfl; have q10 := R0.f 10 rfl; have o11 := R0.c 11 rfl; have q11 := R0.f 11 rfl
          go_wp2
          refine bodyPost_ret (v := .tuple #[.agg #[.int .u64 0, .int .u64 0, .int .u64 0, .int .u64 0, .int .u64 0, .int .u64 0, .int .u64 0, .int .u64 0, .int .u64 0, .int .u64 0, .int .u64 0, .int .u64 0], .bool false]) (by simp [results, Try.results27, go_sem, o0, o1, o2, o3, o4, o5, o6, o7, o8, o9, o10, o11]) rfl ?_
          refine ⟨by rw [HV.out], ?_⟩
          repeat' (refine Below.setCell ?_ (by simp; try omega) _)
          exact HB
  · have HV : Hid (rpV (btL s) = .tuple #[.agg #[.int .u64 0, .int .u64 0, .int .u64 0, .int .u64 0, .int .u64 0, .int .u64 0, .int .u64 0, .int .u64 0, .int .u64 0, .int .u64 0, .int .u64 0, .int .u64 0], .bool false]) := rpV_no fun x y z h => by
      have := rp_len h
      rw [btL_len] at this
      omega
    have i80 : (80 : Int) < s.size := by omega
    clear hm h80
    go_enter Try.func27, Try.ntmps27
    have dl := R0.lt
    have o0 := R0.c 0 rfl; have q0 := R0.f 0 rfl; have o1 := R0.c 1 rfl; have q1 := R0.f 1 rfl; have o2 := R0.c 2 rfl; have q2 := R0.f 2 rfl; have o3 := R0.c 3 rfl; have q3 := R0.f 3 rfl; have o4 := R0.c 4 rfl; have q4 := R0.f 4 rfl; have o5 := R0.c 5 rfl; have q5 := R0.f 5 rfl; have o6 := R0.c 6 rfl; have q6 := R0.f 6 rfl; have o7 := R0.c 7 rfl; have q7 := R0.f 7 rfl; have o8 := R0.c 8 rfl; have q8 := R0.f 8 rfl; have o9 := R0.c 9 rfl; have q9 := R0.f 9 rfl; have o10 := R0.c 10 rfl; have q10 := R0.f 10 rfl; have o11 := R0.c 11 rfl; have q11 := R0.f 11 rfl
    go_wp2
    refine bodyPost_ret (v := .tuple #[.agg #[.int .u64 0, .int .u64 0, .int .u64 0, .int .u64 0, .int .u64 0, .int .u64 0, .int .u64 0, .int .u64 0, .int .u64 0, .int .u64 0, .int .u64 0, .int .u64 0], .bool false]) (by simp [results, Try.results27, go_sem, o0, o1, o2, o3, o4, o5, o6, o7, o8, o9, o10, o11]) rfl ?_
    refine ⟨by rw [HV.out], ?_⟩
    repeat' (refine Below.setCell ?_ (by simp; try omega) _)
    exact HB
end Go.Proofs.Ytnnojeggjnddpaa

/- A point read from its text: the law over both sides. -/
namespace Go.Proofs.Ytnnojeggjnddpaa
open Go.RowKit
set_option maxRecDepth 100000 in
set_option maxHeartbeats 2000000 in
theorem eqPoint_t (a0 a1 a2 a3 a4 a5 a6 a7 a8 a9 a10 a11 : Int) (w : World) : Calls Try.prog 29 #[.agg #[.int .u64 a0, .int .u64 a1, .int .u64 a2, .int .u64 a3, .int .u64 a4, .int .u64 a5, .int .u64 a6, .int .u64 a7, .int .u64 a8, .int .u64 a9, .int .u64 a10, .int .u64 a11], .agg #[.int .u64 a0, .int .u64 a1, .int .u64 a2, .int .u64 a3, .int .u64 a4, .int .u64 a5, .int .u64 a6, .int .u64 a7, .int .u64 a8, .int .u64 a9, .int .u64 a10, .int .u64 a11]] w (BoolP true w) := by
  have B0 := (Blk.new w [.int .u64 a0, .int .u64 a1, .int .u64 a2, .int .u64 a3, .int .u64 a4, .int .u64 a5, .int .u64 a6, .int .u64 a7, .int .u64 a8, .int .u64 a9, .int .u64 a10, .int .u64 a11] 47 rfl).alloc (.cells #[.int .u64 a0, .int .u64 a1, .int .u64 a2, .int .u64 a3, .int .u64 a4, .int .u64 a5, .int .u64 a6, .int .u64 a7, .int .u64 a8, .int .u64 a9, .int .u64 a10, .int .u64 a11] 47)
  have B1 := Blk.new (w.alloc (.cells #[.int .u64 a0, .int .u64 a1, .int .u64 a2, .int .u64 a3, .int .u64 a4, .int .u64 a5, .int .u64 a6, .int .u64 a7, .int .u64 a8, .int .u64 a9, .int .u64 a10, .int .u64 a11] 47)) [.int .u64 a0, .int .u64 a1, .int .u64 a2, .int .u64 a3, .int .u64 a4, .int .u64 a5, .int .u64 a6, .int .u64 a7, .int .u64 a8, .int .u64 a9, .int .u64 a10, .int .u64 a11] 47 (g := w.heap.size + 1) (by simp)
  have HB0 : Below w.heap.size w ((w.alloc (.cells #[.int .u64 a0, .int .u64 a1, .int .u64 a2, .int .u64 a3, .int .u64 a4, .int .u64 a5, .int .u64 a6, .int .u64 a7, .int .u64 a8, .int .u64 a9, .int .u64 a10, .int .u64 a11] 47)).alloc (.cells #[.int .u64 a0, .int .u64 a1, .int .u64 a2, .int .u64 a3, .int .u64 a4, .int .u64 a5, .int .u64 a6, .int .u64 a7, .int .u64 a8, .int .u64 a9, .int .u64 a10, .int .u64 a11] 47)) := ((Below.refl _ _).alloc (Nat.le_refl _) _).alloc (by simp) _
  go_enter Try.func29, Try.ntmps29
  go_wp2_with fail
  refine (eqWide_same _ _ _ _ _).mono ?_
  rintro e w1 ⟨rfl, hB⟩
  replace B0 := B0.step hB; replace B1 := B1.step hB
  have HB1 : Below w.heap.size w w1 := HB0.trans (hB.mono HB0.size)
  clear hB
  have ma0 := B0.c 0 rfl; have mb0 := B1.c 0 rfl; have ma1 := B0.c 1 rfl; have mb1 := B1.c 1 rfl; have ma2 := B0.c 2 rfl; have mb2 := B1.c 2 rfl; have ma3 := B0.c 3 rfl; have mb3 := B1.c 3 rfl; have ma4 := B0.c 4 rfl; have mb4 := B1.c 4 rfl; have ma5 := B0.c 5 rfl; have mb5 := B1.c 5 rfl; have ma6 := B0.c 6 rfl; have mb6 := B1.c 6 rfl; have ma7 := B0.c 7 rfl; have mb7 := B1.c 7 rfl; have ma8 := B0.c 8 rfl; have mb8 := B1.c 8 rfl; have ma9 := B0.c 9 rfl; have mb9 := B1.c 9 rfl; have ma10 := B0.c 10 rfl; have mb10 := B1.c 10 rfl; have ma11 := B0.c 11 rfl; have mb11 := B1.c 11 rfl
  go_wp2_with fail
  refine (eqWide_same _ _ _ _ _).mono ?_
  rintro e w2 ⟨rfl, hB⟩
  replace B0 := B0.step hB; replace B1 := B1.step hB
  have HB2 : Below w.heap.size w w2 := HB1.trans (hB.mono HB1.size)
  clear hB ma0 mb0 ma1 mb1 ma2 mb2 ma3 mb3 ma4 mb4 ma5 mb5 ma6 mb6 ma7 mb7 ma8 mb8 ma9 mb9 ma10 mb10 ma11 mb11
  have ma0 := B0.c 0 rfl; have mb0 := B1.c 0 rfl; have ma1 := B0.c 1 rfl; have mb1 := B1.c 1 rfl; have ma2 := B0.c 2 rfl; have mb2 := B1.c 2 rfl; have ma3 := B0.c 3 rfl; have mb3 := B1.c 3 rfl; have ma4 := B0.c 4 rfl; have mb4 := B1.c 4 rfl; have ma5 := B0.c 5 rfl; have mb5 := B1.c 5 rfl; have ma6 := B0.c 6 rfl; have mb6 := B1.c 6 rfl; have ma7 := B0.c 7 rfl; have mb7 := B1.c 7 rfl; have ma8 := B0.c 8 rfl; have mb8 := B1.c 8 rfl; have ma9 := B0.c 9 rfl; have mb9 := B1.c 9 rfl; have ma10 := B0.c 10 rfl; have mb10 := B1.c 10 rfl; have ma11 := B0.c 11 rfl; have mb11 := B1.c 11 rfl
  go_wp2_with fail
  refine (eqWide_same _ _ _ _ _).mono ?_
  rintro e w3 ⟨rfl, hB⟩
  replace B0 := B0.step hB; replace B1 := B1.step hB
  have HB3 : Below w.heap.size w w3 := HB2.trans (hB.mono HB2.size)
  clear hB ma0 mb0 ma1 mb1 ma2 mb2 ma3 mb3 ma4 mb4 ma5 mb5 ma6 mb6 ma7 mb7 ma8 mb8 ma9 mb9 ma10 mb10 ma11 mb11
  clear B0 B1
  go_wp2
  go_ret
  exact ⟨rfl, HB3⟩
theorem rpV_form (l : List Nat) : ∃ t0 t1 t2 t3 t4 t5 t6 t7 t8 t9 t10 t11 b, rpV l = .tuple #[.agg #[.int .u64 t0, .int .u64 t1, .int .u64 t2, .int .u64 t3, .int .u64 t4, .int .u64 t5, .int .u64 t6, .int .u64 t7, .int .u64 t8, .int .u64 t9, .int .u64 t10, .int .u64 t11], .bool b] := by
  by_cases h : ∃ x y z, RpOk l x y z
  · obtain ⟨x, y, z, h⟩ := h
    rw [rpV_yes h]
    exact ⟨_, _, _, _, _, _, _, _, _, _, _, _, _, rfl⟩
  · rw [rpV_no fun x y z hk => h ⟨x, y, z, hk⟩]
    exact ⟨_, _, _, _, _, _, _, _, _, _, _, _, _, rfl⟩
set_option maxRecDepth 100000 in
set_option maxHeartbeats 2000000 in
theorem lawReadPoint_any (s : ByteArray) (w : World) : Calls Try.prog 8 #[.string s] w (BoolP true w) := by
  by_cases hs : s.size ≤ 1048576
  · have i1 : ¬ ((1048576 : Int) < s.size) := by omega
    have C1 := specReadPoint_any s (by omega)
    have C2 := implReadPoint_any s (by omega)
    obtain ⟨t0, t1, t2, t3, t4, t5, t6, t7, t8, t9, t10, t11, tb, ht⟩ := rpV_form (btL s)
    rw [ht] at C1 C2
    clear ht
    have bb : (tb != tb) = false := by simp
    have CE := eqPoint_t t0 t1 t2 t3 t4 t5 t6 t7 t8 t9 t10 t11
    go_enter Try.func8, Try.ntmps8
    go_wp2_with fail
    refine (C1 _).mono ?_
    rintro e w1 ⟨rfl, hB⟩
    have B1 := Blk.new w1 [.int .u64 t0, .int .u64 t1, .int .u64 t2, .int .u64 t3, .int .u64 t4, .int .u64 t5, .int .u64 t6, .int .u64 t7, .int .u64 t8, .int .u64 t9, .int .u64 t10, .int .u64 t11] 47 rfl
    have HB1 : Hid (Below w.heap.size w (w1.alloc (Obj.cells #[.int .u64 t0, .int .u64 t1, .int .u64 t2, .int .u64 t3, .int .u64 t4, .int .u64 t5, .int .u64 t6, .int .u64 t7, .int .u64 t8, .int .u64 t9, .int .u64 t10, .int .u64 t11] 47))) := hB.alloc hB.size _
    have hsz := hB.size
    clear hB C1
    go_wp2_with fail
    refine (C2 _).mono ?_
    rintro e w2 ⟨rfl, hB⟩
    have B2 := (B1.step hB).alloc (Obj.cells #[.int .u64 t0, .int .u64 t1, .int .u64 t2, .int .u64 t3, .int .u64 t4, .int .u64 t5, .int .u64 t6, .int .u64 t7, .int .u64 t8, .int .u64 t9, .int .u64 t10, .int .u64 t11] 47)
    have hB2 := HB1.out.trans (hB.mono HB1.out.size)
    have HB2 : Hid (Below w.heap.size w (w2.alloc (Obj.cells #[.int .u64 t0, .int .u64 t1, .int .u64 t2, .int .u64 t3, .int .u64 t4, .int .u64 t5, .int .u64 t6, .int .u64 t7, .int .u64 t8, .int .u64 t9, .int .u64 t10, .int .u64 t11] 47))) := hB2.alloc hB2.size _
    have d0 := B2.c 0 rfl; have d1 := B2.c 1 rfl; have d2 := B2.c 2 rfl; have d3 := B2.c 3 rfl; have d4 := B2.c 4 rfl; have d5 := B2.c 5 rfl; have d6 := B2.c 6 rfl; have d7 := B2.c 7 rfl; have d8 := B2.c 8 rfl; have d9 := B2.c 9 rfl; have d10 := B2.c 10 rfl; have d11 := B2.c 11 rfl
    clear hB C2 B1 B2 HB1 hB2
    go_wp2_with fail
    refine (CE _).mono ?_
    rintro e w3 ⟨rfl, hB⟩
    have hB3 := HB2.out.trans (hB.mono HB2.out.size)
    clear hB CE HB2
    go_wp2
    go_ret
    exact ⟨rfl, hB3⟩
  · have i1 : (1048576 : Int) < s.size := by omega
    go_enter Try.func8, Try.ntmps8
    go_wp2
    go_ret
    exact ⟨rfl, Below.refl _ _⟩
end Go.Proofs.Ytnnojeggjnddpaa

/- How a value of four words reads as data: opened and shut. -/
namespace Go.Proofs.Ytnnojeggjnddpaa
open Go.ChangeShapes Go.WideShapes Go.ChangeAt Go.RowKit Go.Joins
theorem Try.own : ownKnob Try.prog.godebug = none := by kernel_rfl
end Go.Proofs.Ytnnojeggjnddpaa

/- What the row of a law asks of the program as a whole, each by itself. -/
namespace Go.Proofs.Ytnnojeggjnddpaa
open Go.ChangeShapes Go.WideShapes Go.ChangeAt Go.RowKit Go.Joins
theorem jn_laid : laidOutB Try.pinned.checked.prog = true := by kernel_rfl
theorem jn_maps : mapsRowed Try.pinned.checked.prog = true := by kernel_rfl
theorem jn_enter : Try.pinned.checked.prog.mayEnter = true := by kernel_rfl
theorem jn_heard : Try.pinned.checked.prog.stopsHeard = true := by kernel_rfl
end Go.Proofs.Ytnnojeggjnddpaa
