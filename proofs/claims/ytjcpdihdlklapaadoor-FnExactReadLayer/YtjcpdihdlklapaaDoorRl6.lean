/- Part 6 of the walks that the proof leans on. -/
import Derived.Test.YtjcpdihdlklapaaDoorRl5
namespace Go.Proofs.YtjcpdihdlklapaaDoor
open Go.RowKit
theorem bA_ne1 {x : List UInt8} (h : ¬ x = [47]) : ((bA x).toList == [47]) = false := by
 rw [Bool.eq_false_iff]
 intro e
 rw [ByteArray.toList_eq, beq_iff_eq, bA_list] at e
 exact h e
theorem rgM_ne {M : List Zz2} (h : M ≠ []) : rgM M ≠ [] := fun e => by
 have h1 := split_rgM h
 rw [e, show Lib.split [] [32] = [[]] by decide] at h1
 have h2 : ([] : List UInt8) ∈ ptM M := by rw [← h1]; simp
 obtain ⟨z, hz⟩ := ptM_mem h2
 exact itoa_ne z hz.symm
theorem lyM_nil {Q : List (List Zz2)} (h : OkM Q) : lyM Q ≠ [] := fun e => by
 have h1 := split_lyM h.ne
 rw [e, show Lib.split [] [32, 47, 32] = [[]] by decide] at h1
 have h2 : ([] : List UInt8) ∈ Q.map rgM := by rw [← h1]; simp
 obtain ⟨M, hM, h3⟩ := List.mem_map.1 h2
 exact rgM_ne (h.rg M hM).1 h3
theorem own_blkR {w : World} {base g n cap : Nat} {e : TypeId} {xs : List Value} (h : w.ownsRow base e 1 (.slice (some ⟨g, 0, none⟩) n cap) n xs) : Blk w g xs := by
 refine ⟨(h.lt g rfl).2, fun i v hi => ⟨?_, ?_⟩⟩
 · have h1 := h.cells rfl i v hi
   rw [Addr.add_lit, Nat.zero_add] at h1
   exact h1
 · rcases h.2 with ⟨h', _⟩ | ⟨g', cap', cur, h', _, hg, _⟩
   · cases h'
   · cases h'
     simp [World.frozen?, hg]
set_option maxRecDepth 100000 in
set_option maxHeartbeats 4000000 in
theorem specReadLayer_any (s : ByteArray) (hs : s.size ≤ 9223372036854775807) (w : World) : Calls Tryd.prog 10 #[.string s] w (RlP s w) := by
 by_cases h2 : s.size ≤ 2000
 · have h2I : ¬ ((s.size : Int) > 2000) := by omega
   have HSz : Hid (s.size ≤ 2000) := h2
   by_cases h4 : s = bA [110, 111, 110, 101]
   · subst h4
     rw [show bA [110, 111, 110, 101] = ⟨#[110, 111, 110, 101]⟩ from rfl] at h2I ⊢
     go_enter Tryd.func10, Tryd.ntmps10
     go_wp2
     refine bodyPost_ret (v := .tuple #[.slice none 0 0, .bool true]) (by simp [results, Tryd.results10, go_sem]) rfl ?_
     exact ⟨Below.refl _ _, Or.inl ⟨rfl, rfl⟩⟩
   · have CW := fun w => l6Words_any s (by omega) w
     have h4b := bA_ne4 h4
     have H4 : Hid (s ≠ bA [110, 111, 110, 101]) := h4
     have hwl : (wdL s.data.toList).length ≤ 2001 ∧ ∀ x ∈ wdL s.data.toList, x.length ≤ 2000 := by
       have h1 := wdS_len s.data.toList
       have h3 : s.data.toList.length = s.size := Array.length_toList
       have e : wdL s.data.toList = if (wdS s.data.toList).2 = [] then (wdS s.data.toList).1 else (wdS s.data.toList).1 ++ [(wdS s.data.toList).2] := by
         unfold wdL wdF
         rw [if_pos rfl]
       rw [e]
       split
       · exact ⟨by omega, fun x hx => by have := h1.2.2 x hx; omega⟩
       · refine ⟨by rw [List.length_append]; simp only [List.length_cons, List.length_nil]; omega, fun x hx => ?_⟩
         rcases List.mem_append.1 hx with hx | hx
         · have := h1.2.2 x hx; omega
         · obtain rfl : x = _ := by simpa using hx
           omega
     have HLy : Hid (∀ Q, OkM Q → s = bA (lyM Q) → wdL s.data.toList = tkM Q) := fun Q hQ e => by rw [e, bA_list, words_lyM hQ]
     generalize hws : wdL s.data.toList = ws at *
     clear hws h4 hs h2
     obtain ⟨m, hm⟩ : ∃ m, ws.length = m := ⟨_, rfl⟩
     have HMm : Hid (ws.length = m) := hm
     have HWl : Hid (∀ x ∈ ws, x.length ≤ 2000) := hwl.2
     have hm4 : m ≤ 2001 := by rw [← hm]; exact hwl.1
     clear hwl
     go_enter Tryd.func10, Tryd.ntmps10
     go_wp2_with fail
     refine (CW _).mono ?_
     rintro e w1 ⟨HB, v, rfl, g, cap, rfl, -, hW⟩
     rw [hm]
     have hcell : ∀ j x, ws[j]? = some x → w1.cell? ⟨g, j, none⟩ = some (.string (bA x)) := fun j x hx => by
       have h9 := hW.cells rfl j (.string (bA x)) (by rw [List.getElem?_map, hx]; rfl)
       rw [Addr.add_lit, Nat.zero_add] at h9
       exact h9
     have hgl := (hW.lt g rfl).2
     have HC : Hid (∀ j x, ws[j]? = some x → w1.cell? ⟨g, j, none⟩ = some (.string (bA x))) := hcell
     have R0 : RvO w1.heap.size (w1.alloc (.cells #[.slice none 0 0] 39)) w1.heap.size 1 ([] ++ [(.slice none 0 0, [])]) := by
       refine ⟨World.ownsRow_lit w1 #[.slice none 0 0] 1 (Nat.le_refl _) (by decide) rfl, fun e he => ?_, by simp⟩
       obtain rfl : e = (.slice none 0 0, []) := by simpa using he
       exact ⟨World.ownsRow_nil _ _ _ _, by intro e; cases e⟩
     have HB0 : Below w1.heap.size w1 (w1.alloc (.cells #[.slice none 0 0] 39)) := (Below.refl _ _).alloc (Nat.le_refl _) _
     have hmI : (m : Int) ≤ 2001 := by omega
     clear CW hm hW hcell
     go_wp2_with fail
     generalize (w1.alloc (.cells #[.slice none 0 0] 39)) = W0 at *
     go_loopw [5, 6, 7, 8] (fun o hf xv i wr => ∃ (c g2 cap2 : Nat) (E0 : List El) (u : Value) (M : List Zz2) (h : Option Int) (x : Int), c ≤ m ∧ E0.length ≤ c ∧ M.length ≤ c ∧ i = .int .i64 (c : Nat) ∧ o = .slice (some ⟨g2, 0, none⟩) (E0.length + 1) cap2 ∧ hf = .bool h.isSome ∧ xv = .int .i64 x ∧ Hid (∀ y, h = some y → x = y) ∧ Hid (∀ e ∈ E0, e.2.length ≤ 2001) ∧ Hid (Run ([], [], none) (ws.take c) (E0.map (·.2), M, h)) ∧ RvO w1.heap.size wr g2 cap2 (E0 ++ [(u, M)]) ∧ Below w1.heap.size w1 wr) (fun _ _ _ i _ => m - (intOf i).toNat)
     case atStart => exact ⟨0, w1.heap.size, 1, [], .slice none 0 0, [], none, 0, by omega, by simp, by simp, rfl, rfl, rfl, rfl, (fun y h => by cases h), (fun e h => by cases h), rfl, R0, HB0⟩
     case round =>
       clear R0 HB0
       obtain ⟨c, g2, cap2, E0, u, M, h, x, hc, hE0, hM0, rfl, rfl, rfl, rfl, HXh, HEl, HRun, hR, HBr⟩ := hrel
       have HBw := HB.trans (HBr.mono HB.size)
       by_cases hcm : c < m
       · have hcI : (c : Int) < m := by omega
         obtain ⟨t, ht⟩ : ∃ t, ws[c]? = some t := ⟨ws[c]'(by rw [HMm.out]; omega), List.getElem?_eq_getElem _⟩
         have q0 := (HBr.cell (p := ⟨g, c, none⟩) hgl).trans (HC.out c t ht)
         have HNO : Hid ((∀ st', ¬ Stp (E0.map (·.2), M, h) t st') → ∀ Q, OkM Q → s ≠ bA (lyM Q)) := fun hno Q hQ e => by
           have h1 := HLy.out Q hQ e
           obtain ⟨st', h2⟩ := run_next hQ (c := c) (by rw [← h1]; exact HRun.out) (by rw [← h1]; exact ht)
           exact hno st' h2
         have HTk : Hid (∀ st', Stp (E0.map (·.2), M, h) t st' → Run ([], [], none) (ws.take (c + 1)) st') := fun st' h1 => by
           show Run _ _ _
           rw [List.take_add_one, ht]
           exact HRun.out.snoc h1
         have htl := HWl.out t (List.mem_of_getElem? ht)
         clear ht
         by_cases h47 : t = [47]
         · subst h47
           rw [show bA [47] = ⟨#[47]⟩ from rfl] at q0
           cases h with
           | some y =>
             have HR : Hid (∀ Q, OkM Q → s ≠ bA (lyM Q)) := HNO.out fun st' h1 => by
               rcases h1 with ⟨_, h2, _⟩ | ⟨z, _, h2, _⟩
               · cases h2
               · exact itoa_not z h2.symm
             clear HNO HTk HRun hR HXh
             go_wp2
             refine bodyPost_ret (v := .tuple #[.slice none 0 0, .bool false]) (by simp [results, Tryd.results10, go_sem]) rfl ?_
             exact ⟨HBw, Or.inr (Or.inr ⟨H4.out, HR.out, rfl⟩)⟩
           | none =>
             have HRn : Hid (Run ([], [], none) (ws.take (c + 1)) ((E0 ++ [(u, M)]).map (·.2), [], none)) := by
               refine HTk.out _ (Or.inl ⟨rfl, rfl, ?_⟩)
               simp
             have hBX : Below wr.heap.size wr (wr.alloc (.cells #[.slice none 0 0] 39)) := (Below.refl _ _).alloc (Nat.le_refl _) _
             have hR2 := hR.step hBX
             have HBr2 := HBr.trans (hBX.mono HBr.size)
             have hbs := HBr.size
             obtain ⟨i0, hi, hz0, hz1, hz2⟩ := info_parts Tryd.infoRg
             have hO := hR2.1
             rw [List.length_append] at hO
             clear HNO HTk HRun HXh
             go_wp2_with (at_builtin; refine wpList_append_own_at _ rfl _ _ 25 rfl w1.heap.size 39 i0 (.agg #[.slice none 0 0]) 1 24 Tryd.underlying25 hi hz0 hz1 hz2 rfl (by decide) _ _ _ rfl hO ⟨wr.heap.size, 0, none⟩ 1 1 [.slice none 0 0] rfl rfl (cell_one_new _ _ _) (one_cellR _ _ _) (by unfold maxLen; simp only [List.length_cons, List.length_nil]; omega) (by simp only [List.length_cons, List.length_nil]; omega) (by simp; omega) ?_)
             intro v' w3 ho' hg' _ hb'
             obtain ⟨g3, cap3, rfl⟩ : ∃ g3 cap3, v' = .slice (some ⟨g3, 0, none⟩) (E0.length + 1 + 1) cap3 := by
               rcases ho'.2 with ⟨_, h0⟩ | ⟨g3, cap3, _, h, _⟩
               · simp at h0
               · exact ⟨g3, cap3, h⟩
             have hRN : RvO w1.heap.size w3 g3 cap3 ((E0 ++ [(u, M)]) ++ [(.slice none 0 0, [])]) := hR2.add (by simpa using ho') hg' (by
               rcases hb' with e | e
               · exact Or.inl (Option.some.inj (show some g3 = some g2 from e))
               · exact Or.inr (by have := Option.some.inj (show some g3 = some (wr.heap.size + 1) from e); simp [this]))
             have HBN := HBr2.grown hg' (by simp; omega) (fun k hk => (hR2.1.lt k hk).1)
             have HRH : Hid (RvO w1.heap.size w3 g3 cap3 ((E0 ++ [(u, M)]) ++ [(.slice none 0 0, [])])) := hRN
             have HE2 : Hid (∀ e ∈ E0 ++ [(u, M)], e.2.length ≤ 2001) := fun e he => by
               rcases List.mem_append.1 he with he | he
               · exact HEl.out e he
               · obtain rfl : e = (u, M) := by simpa using he
                 show M.length ≤ 2001
                 omega
             have hEl2 : (E0 ++ [(u, M)]).length = E0.length + 1 := by simp
             clear ho' hg' hb' hR hR2 HBr HBr2 HBw hO hi hz0 hz1 hz2 hRN hBX q0
             go_wp2
             go_roundw
             case rel => exact ⟨c + 1, g3, cap3, E0 ++ [(u, M)], .slice none 0 0, [], none, x, by omega, by omega, Nat.zero_le _, by go_num, by rw [hEl2], rfl, rfl, (fun y h => by cases h), HE2, HRn, HRH.out, HBN⟩
             case measure => simp [intOf]; omega
         · have hxb := bA_ne1 h47
           have C6 := fun w => l6Int_any (bA t) (by rw [bA_size2]; omega) w
           have hE0I : (E0.length : Int) ≤ 2001 := by omega
           go_wp2_with fail
           refine (C6 _).mono ?_
           rintro e w2 ⟨hB, ⟨z, hz, hzt, rfl⟩ | ⟨hno, rfl⟩⟩
           · have htz := bA_inj hzt
             replace hR := hR.step hB
             replace HBr := HBr.trans (hB.mono HBr.size)
             clear HNO C6 hB HBw q0
             cases h with
             | none =>
               have HRn : Hid (Run ([], [], none) (ws.take (c + 1)) (E0.map (·.2), M, some z)) := HTk.out _ (Or.inr ⟨z, hz, htz, Or.inl ⟨rfl, rfl⟩⟩)
               have HRH : Hid (RvO w1.heap.size w2 g2 cap2 (E0 ++ [(u, M)])) := hR
               clear HTk HRun HXh hR hzt htz hz
               go_wp2
               go_roundw
               case rel => exact ⟨c + 1, g2, cap2, E0, u, M, some z, z, by omega, by omega, by omega, by go_num, rfl, rfl, rfl, (fun y h => Option.some.inj h), HEl, HRn, HRH.out, HBr⟩
               case measure => simp [intOf]; omega
             | some y =>
               obtain rfl : x = y := HXh.out y rfl
               have HRn : Hid (Run ([], [], none) (ws.take (c + 1)) (E0.map (·.2), M ++ [(x, z)], none)) := HTk.out _ (Or.inr ⟨z, hz, htz, Or.inr ⟨x, rfl, rfl⟩⟩)
               have hU := (hR.2.1 (u, M) (by simp)).1
               obtain ⟨so, cu, rfl⟩ : ∃ so cu, u = .slice so M.length cu := by
                 rcases hU.2 with ⟨h, h0⟩ | ⟨gu, cu, _, h, _⟩
                 · exact ⟨none, 0, by rw [show M.length = 0 from h0]; exact h⟩
                 · exact ⟨_, cu, h⟩
               have hro := hR.1
               rw [List.length_append] at hro
               have BK := own_blkR hro
               have q1 := BK.c E0.length (v := .slice so M.length cu) (by simp)
               have hBX : Below w2.heap.size w2 (w2.alloc (.cells #[.int .i64 x, .int .i64 z] 41)) := (Below.refl _ _).alloc (Nat.le_refl _) _
               have hR2 := hR.step hBX
               have HBr2 := HBr.trans (hBX.mono HBr.size)
               have hU2 := ownS_step hU hBX
               have hbs := HBr.size
               have hne := (hR.2.1 (.slice so M.length cu, M) (by simp)).2
               obtain ⟨i0, hi, hz0, hz1, hz2⟩ := info_parts Tryd.infoSp
               clear HTk HRun HXh hzt htz hz hU hro hR BK hBX
               go_wp2_with (at_builtin; refine wpList_append_own_at _ rfl _ _ 37 rfl w1.heap.size 41 i0 (.agg #[.int .i64 0, .int .i64 0]) 2 16 Tryd.underlying37 hi hz0 hz1 hz2 rfl (by decide) _ _ _ rfl hU2 ⟨w2.heap.size, 0, none⟩ 1 1 [.int .i64 x, .int .i64 z] rfl rfl (cell_two_new _ _ _ _) (one_cellS _ _) (by unfold maxLen; omega) (by omega) (by simp; omega) ?_)
               intro u' w4 ho' hg' _ hb'
               obtain ⟨so', cu', rfl⟩ : ∃ so' cu', u' = .slice so' (M.length + 1) cu' := by
                 rcases ho'.2 with ⟨_, h0⟩ | ⟨gu, cu', _, h, _⟩
                 · omega
                 · exact ⟨_, cu', h⟩
               have hO9 : w4.ownsRow w1.heap.size 41 2 (.slice so' (M.length + 1) cu') (M ++ [(x, z)]).length (spM (M ++ [(x, z)])) := by
                 rw [spM_snoc, List.length_append]
                 exact ho'
               have hgl2 := hR2.gl
               have BK2 := own_blkR (hR2.1.kept hg' (Or.inr fun e => hne e.symm))
               have y0 := BK2.c E0.length (v := .slice so M.length cu) (by simp)
               have yf := BK2.f E0.length (v := .slice so M.length cu) (by simp)
               have yl := BK2.lt
               have hRN : RvO w1.heap.size (w4.setCell ⟨g2, E0.length, none⟩ (.slice so' (M.length + 1) cu')) g2 cap2 (E0 ++ [(.slice so' (M.length + 1) cu', M ++ [(x, z)])]) := hR2.put hO9 hg' (by
                 rcases hb' with e | e
                 · exact Or.inl e
                 · exact Or.inr (by rw [e]; simp))
               have HBN := (HBr2.grown hg' (by simp; omega) (fun k hk => (hU2.lt k hk).1)).setCell (p := ⟨g2, E0.length, none⟩) hgl2.1 (.slice so' (M.length + 1) cu')
               have HRH : Hid (RvO w1.heap.size (w4.setCell ⟨g2, E0.length, none⟩ (.slice so' (M.length + 1) cu')) g2 cap2 (E0 ++ [(.slice so' (M.length + 1) cu', M ++ [(x, z)])])) := hRN
               have hMl : (M ++ [(x, z)]).length ≤ c + 1 := by rw [List.length_append]; simp only [List.length_cons, List.length_nil]; omega
               clear ho' hg' hb' hO9 BK2 hRN hR2 HBr HBr2 hU2 hi hz0 hz1 hz2 hne hgl2 q1
               go_wp2
               go_roundw
               case rel => exact ⟨c + 1, g2, cap2, E0, .slice so' (M.length + 1) cu', M ++ [(x, z)], none, z, by omega, by omega, hMl, by go_num, rfl, rfl, rfl, (fun y h => by cases h), HEl, HRn, HRH.out, HBN⟩
               case measure => simp [intOf]; omega
           · have HR : Hid (∀ Q, OkM Q → s ≠ bA (lyM Q)) := HNO.out fun st' h1 => by
               rcases h1 with ⟨h2, _, _⟩ | ⟨z, hz, h2, _⟩
               · exact h47 h2
               · exact hno z hz (by rw [h2])
             have HBF := HBw.trans (hB.mono HBw.size)
             clear HNO HTk HRun hR HXh hno C6 hB q0
             go_wp2
             refine bodyPost_ret (v := .tuple #[.slice none 0 0, .bool false]) (by simp [results, Tryd.results10, go_sem]) rfl ?_
             exact ⟨HBF, Or.inr (Or.inr ⟨H4.out, HR.out, rfl⟩)⟩
       · obtain rfl : c = m := by omega
         have HRe : Hid (Run ([], [], none) ws (E0.map (·.2), M, h)) := by
           have h1 := HRun.out
           rw [← HMm.out, List.take_length] at h1
           exact h1
         cases h with
         | some y =>
           have HR : Hid (∀ Q, OkM Q → s ≠ bA (lyM Q)) := fun Q hQ e => by
             have h1 := HRe.out
             rw [HLy.out Q hQ e] at h1
             have h2 := (run_end hQ h1).1
             cases h2
           clear HRe HRun hR HXh HEl
           go_wp2
           refine bodyPost_ret (v := .tuple #[.slice none 0 0, .bool false]) (by simp [results, Tryd.results10, go_sem]) rfl ?_
           exact ⟨HBw, Or.inr (Or.inr ⟨H4.out, HR.out, rfl⟩)⟩
         | none =>
           have hE0n : E0 ++ [(u, M)] ≠ [] := by simp
           have hEl2 : (E0 ++ [(u, M)]).length = E0.length + 1 := by simp
           have hLd : ∀ i, i < (E0 ++ [(u, M)]).length → eL (E0 ++ [(u, M)]) i ≤ 1048576 := fun i hi => by
             unfold eL
             rw [eG (List.getElem?_eq_getElem hi)]
             rcases List.mem_append.1 (List.getElem_mem hi) with h | h
             · have := HEl.out _ h
               omega
             · have h1 : (E0 ++ [(u, M)])[i] = (u, M) := by simpa using h
               rw [h1]
               show M.length ≤ _
               omega
           have CL := specLayerText_any (some ⟨g2, 0, none⟩) (E0 ++ [(u, M)]).length cap2 _ _ _ (by omega) hLd wr hR.rgIn
           have hQ := ltU_list hE0n
           generalize ltU (E0 ++ [(u, M)]).length (eL (E0 ++ [(u, M)])) (eQ (E0 ++ [(u, M)])) = lt at *
           rw [hEl2] at CL
           have HQ : Hid ((OkM ((E0 ++ [(u, M)]).map (·.2)) ∧ lt = lyM ((E0 ++ [(u, M)]).map (·.2))) ∨ (¬ OkM ((E0 ++ [(u, M)]).map (·.2)) ∧ lt = [])) := hQ
           have hRs : Hid (RvO w1.heap.size wr g2 cap2 (E0 ++ [(u, M)])) := hR
           have HEn : Hid ((E0 ++ [(u, M)]).length = E0.length + 1) := hEl2
           clear hQ hR hLd hE0n HEl HRun HXh hEl2
           by_cases hTs : bA lt = s
           · subst hTs
             by_cases hl0 : lt = []
             · have HR : Hid (∀ Q, OkM Q → bA lt ≠ bA (lyM Q)) := fun Q hQ e => lyM_nil hQ (by rw [← bA_inj e, hl0])
               subst hl0
               rw [show bA [] = ⟨#[]⟩ from rfl] at *
               clear HQ HRe
               go_wp2_with fail
               refine CL.mono ?_
               rintro e w5 ⟨rfl, hB⟩
               have HBF := HBw.trans (hB.mono HBw.size)
               clear CL hB
               go_wp2
               refine bodyPost_ret (v := .tuple #[.slice none 0 0, .bool false]) (by simp [results, Tryd.results10, go_sem]) rfl ?_
               exact ⟨HBF, Or.inr (Or.inr ⟨H4.out, HR.out, rfl⟩)⟩
             · have hE := bA_isE hl0
               have HOk : Hid (OkM ((E0 ++ [(u, M)]).map (·.2)) ∧ lt = lyM ((E0 ++ [(u, M)]).map (·.2))) := by
                 rcases HQ.out with h | ⟨_, h⟩
                 · exact h
                 · exact absurd h hl0
               clear HQ HRe
               go_wp2_with fail
               refine CL.mono ?_
               rintro e w5 ⟨rfl, hB⟩
               have HBF := HBw.trans (hB.mono HBw.size)
               have HRF : Hid (RvO w1.heap.size w5 g2 cap2 (E0 ++ [(u, M)])) := hRs.out.step hB
               clear CL hB
               go_wp2
               refine bodyPost_ret (v := .tuple #[.slice (some ⟨g2, 0, none⟩) (E0.length + 1) cap2, .bool true]) (by simp [results, Tryd.results10, go_sem]) rfl ?_
               obtain ⟨D, hD, hRD⟩ := HRF.out.rsO fun e he => (HOk.out.1.rg e.2 (List.mem_map_of_mem he)).1
               rw [HEn.out] at hRD
               exact ⟨HBF, Or.inr (Or.inl ⟨D, _, by rw [hD]; exact HOk.out.1, by rw [hD, ← HOk.out.2], rfl, hRD.base HB.size⟩)⟩
           · have HR : Hid (∀ Q, OkM Q → s ≠ bA (lyM Q)) := fun Q hQ e => by
               have h1 := HRe.out
               rw [HLy.out Q hQ e] at h1
               have h2 := (run_end hQ h1).2
               have h3 : (E0 ++ [(u, M)]).map (·.2) = Q := by rw [← h2]; simp
               rcases HQ.out with ⟨_, h4⟩ | ⟨h4, _⟩
               · exact hTs (by rw [h4, h3, e])
               · exact h4 (by rw [h3]; exact hQ)
             have hTb : ((bA lt).toList == s.toList) = false := by
               rw [Bool.eq_false_iff]
               intro e
               rw [ByteArray.toList_eq, ByteArray.toList_eq, beq_iff_eq] at e
               exact hTs (ByteArray.ext (Array.ext' e))
             clear HQ HRe
             go_wp2_with fail
             refine CL.mono ?_
             rintro e w5 ⟨rfl, hB⟩
             have HBF := HBw.trans (hB.mono HBw.size)
             clear CL hB
             go_wp2
             refine bodyPost_ret (v := .tuple #[.slice none 0 0, .bool false]) (by simp [results, Tryd.results10, go_sem]) rfl ?_
             exact ⟨HBF, Or.inr (Or.inr ⟨H4.out, HR.out, rfl⟩)⟩
 · have h2I : ((s.size : Int)) > 2000 := by omega
   have HR : Hid (s ≠ bA [110, 111, 110, 101] ∧ ∀ Q, OkM Q → s ≠ bA (lyM Q)) := rl_long h2
   go_enter Tryd.func10, Tryd.ntmps10
   go_wp2
   refine bodyPost_ret (v := .tuple #[.slice none 0 0, .bool false]) (by simp [results, Tryd.results10, go_sem]) rfl ?_
   exact ⟨Below.refl _ _, Or.inr (Or.inr ⟨HR.out.1, HR.out.2, rfl⟩)⟩
def IntL (xs : List Value) : Prop := ∀ u ∈ xs, ∃ z : Int, u = .int .i64 z
def MkL (K n : Nat) (ys : List Value) : Prop := ys.length = n * 2 ∧ ∀ j, j < n * 2 → ys[j]? = some (.int .i64 ((K + j : Nat) : Int))
def OneG (g : Nat) (w w' : World) : Prop := (∀ k, k ≠ g → w'.heap[k]? = w.heap[k]?) ∧ Below g w w'
set_option maxRecDepth 100000 in
set_option maxHeartbeats 4000000 in
theorem markS_any (g n cap K : Nat) (xs : List Value) (hx : xs.length = n * 2) (hi : IntL xs) (hn : n ≤ 4000) (hK : K ≤ 1000000) (w : World) (R : Blk w g xs) : Calls Tryd.prog 27 #[.slice (some ⟨g, 0, none⟩) n cap, .int .i64 (K : Int)] w (fun e w' => e = .returned (.int .i64 ((K + n * 2 : Nat) : Int)) ∧ (∃ ys, Blk w' g ys ∧ IntL ys ∧ MkL K n ys) ∧ OneG g w w') := by
 have hKI : (K : Int) ≤ 1000000 := by omega
 have HR : Hid (Blk w g xs ∧ IntL xs ∧ xs.length = n * 2) := ⟨R, hi, hx⟩
 clear R hi hx
 have hnI : (n : Int) ≤ 4000 := by omega
 go_enter Tryd.func27, Tryd.ntmps27
 go_wp2_with fail
 go_loopw [1, 5] (fun o i wr => ∃ (c : Nat) (ys : List Value), c ≤ n ∧ o = .int .i64 ((K : Int) + (c : Int) * 2) ∧ i = .int .i64 c ∧ Blk wr g ys ∧ IntL ys ∧ ys.length = n * 2 ∧ Hid (∀ j, j < c * 2 → ys[j]? = some (.int .i64 ((K + j : Nat) : Int))) ∧ OneG g w wr) (fun _ i _ => n - (intOf i).toNat)
 case atStart => exact ⟨0, xs, by omega, by simp, rfl, HR.out.1, HR.out.2.1, HR.out.2.2, fun j hj => by omega, fun _ _ => rfl, Below.refl _ _⟩
 case round =>
   obtain ⟨c, ys, hcn, rfl, rfl, R, hI, hl, HJ, KB⟩ := hrel
   by_cases hlt : c < n
   · have hcI : (c : Int) < n := by omega
     obtain ⟨z0, e0⟩ := hI ys[c * 2] (List.getElem_mem _)
     obtain ⟨z1, e1⟩ := hI ys[c * 2 + 1] (List.getElem_mem _)
     have o0 := R.c (c * 2) (List.getElem?_eq_getElem (by omega))
     have o1 := R.c (c * 2 + 1) (List.getElem?_eq_getElem (by omega))
     have f0 := R.f (c * 2) (List.getElem?_eq_getElem (by omega))
     have f1 := R.f (c * 2 + 1) (List.getElem?_eq_getElem (by omega))
     rw [e0] at o0
     rw [e1] at o1
     have RN := (R.setI (c * 2) (by omega) (.int .i64 ((K : Int) + (c : Int) * 2))).setI (c * 2 + 1) (by rw [List.length_set]; omega) (.int .i64 ((K : Int) + (c : Int) * 2 + 1))
     have KN : OneG g w ((wr.setCell ⟨g, c * 2, none⟩ (.int .i64 ((K : Int) + (c : Int) * 2))).setCell ⟨g, c * 2 + 1, none⟩ (.int .i64 ((K : Int) + (c : Int) * 2 + 1))) := ⟨fun k hk => (Below.heap_setCell _ _ _ _ hk).trans ((Below.heap_setCell _ _ _ _ hk).trans (KB.1 k hk)), (KB.2.setCell (Nat.le_refl _) _).setCell (Nat.le_refl _) _⟩
     have HN : Hid (Blk ((wr.setCell ⟨g, c * 2, none⟩ (.int .i64 ((K : Int) + (c : Int) * 2))).setCell ⟨g, c * 2 + 1, none⟩ (.int .i64 ((K : Int) + (c : Int) * 2 + 1))) g ((ys.set (c * 2) (.int .i64 ((K : Int) + (c : Int) * 2))).set (c * 2 + 1) (.int .i64 ((K : Int) + (c : Int) * 2 + 1))) ∧ IntL ((ys.set (c * 2) (.int .i64 ((K : Int) + (c : Int) * 2))).set (c * 2 + 1) (.int .i64 ((K : Int) + (c : Int) * 2 + 1))) ∧ ((ys.set (c * 2) (.int .i64 ((K : Int) + (c : Int) * 2))).set (c * 2 + 1) (.int .i64 ((K : Int) + (c : Int) * 2 + 1))).length = n * 2 ∧ ∀ j, j < (c + 1) * 2 → ((ys.set (c * 2) (.int .i64 ((K : Int) + (c : Int) * 2))).set (c * 2 + 1) (.int .i64 ((K : Int) + (c : Int) * 2 + 1)))[j]? = some (.int .i64 ((K + j : Nat) : Int))) := by
       refine ⟨RN, fun u hu => ?_, by simp [hl], fun j hj => ?_⟩
       · rcases List.mem_or_eq_of_mem_set hu with hu | rfl
         · rcases List.mem_or_eq_of_mem_set hu with hu | rfl
           · exact hI u hu
           · exact ⟨_, rfl⟩
         · exact ⟨_, rfl⟩
       · rw [List.getElem?_set]
         split
         · subst j
           rw [if_pos (by rw [List.length_set]; omega)]
           congr 2
         · rw [List.getElem?_set]
           split
           · subst j
             rw [if_pos (by omega)]
             congr 2
           · exact HJ.out j (by omega)
     clear RN R hI e0 e1 KB HJ
     go_wp2
     go_roundw
     case rel => exact ⟨c + 1, _, by omega, by go_num, by go_num, HN.out.1, HN.out.2.1, HN.out.2.2.1, HN.out.2.2.2, KN⟩
     case measure => simp [intOf]; omega
   · obtain rfl : c = n := by omega
     have HF : Hid ((∃ ys, Blk wr g ys ∧ IntL ys ∧ MkL K c ys) ∧ OneG g w wr) := ⟨⟨ys, R, hI, hl, HJ.out⟩, KB⟩
     clear R hI HJ KB
     go_wp2
     go_ret
     exact ⟨by simp, HF.out⟩
set_option maxRecDepth 100000 in
set_option maxHeartbeats 4000000 in
theorem heldS_any (g n cap K : Nat) (ys : List Value) (hn : n ≤ 4000) (hK : K ≤ 1000000) (w : World) (R : Blk w g ys) (hM : MkL K n ys) : Calls Tryd.prog 28 #[.slice (some ⟨g, 0, none⟩) n cap, .int .i64 (K : Int)] w (VP (.int .i64 ((K + n * 2 : Nat) : Int)) w) := by
 have hKI : (K : Int) ≤ 1000000 := by omega
 have HR : Hid (Blk w g ys ∧ MkL K n ys) := ⟨R, hM⟩
 clear R hM
 have hnI : (n : Int) ≤ 4000 := by omega
 go_enter Tryd.func28, Tryd.ntmps28
 go_wp2_with fail
 go_loopw [1, 5] (fun o i wr => ∃ c : Nat, c ≤ n ∧ o = .int .i64 ((K : Int) + (c : Int) * 2) ∧ i = .int .i64 c ∧ Below w.heap.size w wr) (fun _ i _ => n - (intOf i).toNat)
 case atStart => exact ⟨0, by omega, by simp, rfl, Below.refl _ _⟩
 case round =>
   obtain ⟨c, hcn, rfl, rfl, HB⟩ := hrel
   by_cases hlt : c < n
   · have hcI : (c : Int) < n := by omega
     have RB := HR.out.1.step HB
     have o0 := RB.c (c * 2) (HR.out.2.2 (c * 2) (by omega))
     have o1 := RB.c (c * 2 + 1) (HR.out.2.2 (c * 2 + 1) (by omega))
     rw [show ((K + c * 2 : Nat) : Int) = (K : Int) + (c : Int) * 2 by omega] at o0
     rw [show ((K + (c * 2 + 1) : Nat) : Int) = (K : Int) + (c : Int) * 2 + 1 by omega] at o1
     clear RB
     go_wp2
     go_roundw
     case rel => exact ⟨c + 1, by omega, by go_num, by go_num, HB⟩
     case measure => simp [intOf]; omega
   · obtain rfl : c = n := by omega
     go_wp2
     go_ret
     exact ⟨by simp, HB⟩
def kS (D : List Rd3) : Nat → Nat
 | 0 => 1
 | c + 1 => kS D c + dL D c * 2
theorem kS_le {D : List Rd3} (h : ∀ i, i < D.length → dL D i ≤ 20) : ∀ c, c ≤ D.length → kS D c ≤ 1 + c * 40
 | 0, _ => by simp [kS]
 | c + 1, hc => by
   have h1 := kS_le h c (by omega)
   have h2 := h c (by omega)
   rw [kS]
   omega
def RkO (b : Nat) (w : World) (ao : Option Addr) (D : List Rd3) (c : Nat) : Prop :=
 (∀ i d, D[i]? = some d → ∃ gv, ao = some ⟨gv, 0, none⟩ ∧ gv < w.heap.size ∧ w.cell? ⟨gv, i, none⟩ = some (slD d) ∧ ∀ d' ∈ D, gv ≠ d'.1) ∧ (∀ i d, D[i]? = some d → b ≤ d.1 ∧ ∃ ys, Blk w d.1 ys ∧ IntL ys ∧ ys.length = d.2.2.length * 2 ∧ (i < c → MkL (kS D i) d.2.2.length ys)) ∧ (D.map (·.1)).Nodup
theorem RkO.step {b c : Nat} {w w' : World} {ao : Option Addr} {D : List Rd3} (h : RkO b w ao D c) (hB : Below w.heap.size w w') : RkO b w' ao D c := by
 refine ⟨fun i d hd => ?_, fun i d hd => ?_, h.2.2⟩
 · obtain ⟨gv, e, h1, h2, h3⟩ := h.1 i d hd
   exact ⟨gv, e, Nat.lt_of_lt_of_le h1 hB.size, (hB.cell (p := ⟨gv, i, none⟩) h1).trans h2, h3⟩
 · obtain ⟨h0, ys, h1, h2, h3, h4⟩ := h.2.1 i d hd
   exact ⟨h0, ys, h1.step hB, h2, h3, h4⟩
theorem spM_int (M : List Zz2) : IntL (spM M) := fun u hu => by
 obtain ⟨t, _, ht⟩ := List.mem_flatMap.1 hu
 simp only [List.mem_cons, List.not_mem_nil, or_false] at ht
 rcases ht with rfl | rfl <;> exact ⟨_, rfl⟩
theorem spM_len (M : List Zz2) : (spM M).length = M.length * 2 := by
 induction M with
 | nil => rfl
 | cons t M ih => simp only [spM, List.flatMap_cons, List.length_append, List.length_cons, List.length_nil] at ih ⊢; omega
theorem own_blkS {w : World} {base g n cap size : Nat} {e : TypeId} {xs : List Value} (h : w.ownsRow base e size (.slice (some ⟨g, 0, none⟩) n cap) n xs) : Blk w g xs := by
 refine ⟨(h.lt g rfl).2, fun i v hi => ⟨?_, ?_⟩⟩
 · have h1 := h.cells rfl i v hi
   rw [Addr.add_lit, Nat.zero_add] at h1
   exact h1
 · rcases h.2 with ⟨h', _⟩ | ⟨g', cap', cur, h', _, hg, _⟩
   · cases h'
   · cases h'
     simp [World.frozen?, hg]
theorem RsO.rkO {b : Nat} {w : World} {ao : Option Addr} {n cap : Nat} {D : List Rd3} (h : RsO b w (.slice ao n cap) D) : RkO b w ao D 0 := by
 refine ⟨fun i d hd => ?_, fun i d hd => ?_, h.2.2⟩
 · have hi := (List.getElem?_eq_some_iff.1 hd).1
   rcases h.1.2 with ⟨e, h0⟩ | ⟨g, c, cur, e, _⟩
   · omega
   · cases e
     refine ⟨g, rfl, (h.1.lt g rfl).2, ?_, fun d' hd' e => (h.2.1 d' hd').2 (congrArg some e)⟩
     have h9 := h.1.cells rfl i (slD d) (by rw [List.getElem?_map, hd]; rfl)
     rw [Addr.add_lit, Nat.zero_add] at h9
     exact h9
 · have h1 := h.2.1 d (List.mem_of_getElem? hd)
   exact ⟨(h1.1.lt d.1 rfl).1, spM d.2.2, own_blkS h1.1, spM_int _, spM_len _, fun h => by omega⟩
theorem blk_same {W W' : World} {g : Nat} {vs : List Value} (h : Blk W g vs) (hb : W'.heap[g]? = W.heap[g]?) (hs : W.heap.size ≤ W'.heap.size) : Blk W' g vs :=
 ⟨Nat.lt_of_lt_of_le h.lt hs, fun i _ hi => ⟨(World.cell?_of_block (w := W) (a := ⟨g, i, none⟩) hb).trans (h.c i hi), (World.frozen?_of_block (w := W) (a := ⟨g, i, none⟩) hb).trans (h.f i hi)⟩⟩
theorem dL_at {D : List Rd3} {i : Nat} {d : Rd3} (h : D[i]? = some d) : dL D i = d.2.2.length := by
 unfold dL
 rw [List.getD_eq_getElem?_getD, h]
 rfl
set_option maxRecDepth 100000 in
set_option maxHeartbeats 4000000 in
theorem markD_any (b : Nat) (ao : Option Addr) (n cap : Nat) (D : List Rd3) (hn : D.length = n) (h6 : n ≤ 6) (h20 : ∀ i, i < D.length → dL D i ≤ 20) (w : World) (R : RkO b w ao D 0) : Calls Tryd.prog 12 #[.slice ao n cap, .int .i64 1] w (fun e w' => e = .returned (.int .i64 (kS D n : Nat)) ∧ RkO b w' ao D n ∧ Below b w w') := by
 have HR : Hid (RkO b w ao D 0) := R
 have H20 : Hid (∀ i, i < D.length → dL D i ≤ 20) := h20
 clear R h20
 have hnI : (n : Int) ≤ 6 := by omega
 go_enter Tryd.func12, Tryd.ntmps12
 go_wp2_with fail
 go_loopw [1, 5] (fun o i wr => ∃ c : Nat, c ≤ n ∧ o = .int .i64 (kS D c : Nat) ∧ i = .int .i64 c ∧ RkO b wr ao D c ∧ Below b w wr) (fun _ i _ => n - (intOf i).toNat)
 case atStart => exact ⟨0, by omega, rfl, rfl, HR.out, Below.refl _ _⟩
 case round =>
   obtain ⟨c, hcn, rfl, rfl, R, HB⟩ := hrel
   by_cases hlt : c < n
   · have hcI : (c : Int) < n := by omega
     obtain ⟨d, hd⟩ : ∃ d, D[c]? = some d := ⟨D[c]'(by omega), List.getElem?_eq_getElem _⟩
     have HD : Hid (D[c]? = some d) := hd
     have HRc : Hid (RkO b wr ao D c) := R
     obtain ⟨gv, rfl, hgv, q0, hne⟩ := R.1 c d hd
     obtain ⟨hb, ys, hY, hI, hl, -⟩ := R.2.1 c d hd
     have hk := kS_le H20.out c (by omega)
     have hdl := H20.out c (by omega)
     have hks : kS D (c + 1) = kS D c + d.2.2.length * 2 := by rw [kS, dL_at hd]
     rw [dL_at hd] at hdl
     have CM := markS_any d.1 d.2.2.length d.2.1 (kS D c) ys hl hI (by omega) (by omega) wr hY
     have HKs : Hid (kS D (c + 1) = kS D c + d.2.2.length * 2) := hks
     unfold slD at q0
     have hnd := hne d (List.mem_of_getElem? hd)
     clear hd R hY hI hl hks
     obtain ⟨K, hK⟩ : ∃ K, kS D c = K := ⟨_, rfl⟩
     have HKc : Hid (kS D c = K) := hK
     rw [hK] at CM HKs hk ⊢
     clear hK
     go_wp2_with fail
     refine CM.mono ?_
     rintro e w1 ⟨rfl, ⟨zs, hZ, hZI, hZM⟩, hO⟩
     have HN : Hid (RkO b w1 (some ⟨gv, 0, none⟩) D (c + 1)) := by
       obtain ⟨a1, a2, a3⟩ := HRc.out
       have hdi := HD.out
       refine ⟨fun i x hx => ?_, fun i x hx => ?_, a3⟩
       · obtain ⟨g1, e1, h1, h2, h3⟩ := a1 i x hx
         cases e1
         exact ⟨gv, rfl, Nat.lt_of_lt_of_le h1 hO.2.size, (World.cell?_of_block (a := ⟨gv, i, none⟩) (hO.1 gv hnd)).trans h2, h3⟩
       · obtain ⟨h0, us, h1, h2, h3, h4⟩ := a2 i x hx
         by_cases hic : i = c
         · subst hic
           obtain rfl := Option.some.inj (hx.symm.trans hdi)
           refine ⟨h0, zs, hZ, hZI, hZM.1, fun _ => ?_⟩
           rw [HKc.out]
           exact hZM
         · have hxd : x.1 ≠ d.1 := fun e => hic (by
             have m1 : (D.map (·.1))[i]? = some x.1 := by rw [List.getElem?_map, hx]; rfl
             have m2 : (D.map (·.1))[c]? = some x.1 := by rw [List.getElem?_map, hdi, e]; rfl
             exact (List.getElem?_inj (List.getElem?_eq_some_iff.1 m1).1 a3).1 (m1.trans m2.symm))
           exact ⟨h0, us, blk_same h1 (hO.1 x.1 hxd) hO.2.size, h2, h3, fun hlt => h4 (by omega)⟩
     have HBN := HB.trans (hO.2.mono hb)
     have hks := HKs.out
     clear CM hZ hZI hZM hO HRc HB q0
     go_wp2
     go_roundw
     case rel => exact ⟨c + 1, by omega, congrArg (Value.int .i64) (by rw [HKs.out]; omega), by go_num, HN.out, HBN⟩
     case measure => simp [intOf]; omega
   · obtain rfl : c = n := by omega
     have HF : Hid (RkO b wr ao D c ∧ Below b w wr) := ⟨R, HB⟩
     clear R HB
     go_wp2
     go_ret
     exact ⟨rfl, HF.out⟩
set_option maxRecDepth 100000 in
set_option maxHeartbeats 4000000 in
theorem heldD_any (b : Nat) (ao : Option Addr) (n cap : Nat) (D : List Rd3) (hn : D.length = n) (h6 : n ≤ 6) (h20 : ∀ i, i < D.length → dL D i ≤ 20) (w : World) (R : RkO b w ao D n) : Calls Tryd.prog 13 #[.slice ao n cap, .int .i64 1] w (VP (.int .i64 (kS D n : Nat)) w) := by
 have HR : Hid (RkO b w ao D n) := R
 have H20 : Hid (∀ i, i < D.length → dL D i ≤ 20) := h20
 clear R h20
 have hnI : (n : Int) ≤ 6 := by omega
 go_enter Tryd.func13, Tryd.ntmps13
 go_wp2_with fail
 go_loopw [1, 5] (fun o i wr => ∃ c : Nat, c ≤ n ∧ o = .int .i64 (kS D c : Nat) ∧ i = .int .i64 c ∧ Below w.heap.size w wr) (fun _ i _ => n - (intOf i).toNat)
 case atStart => exact ⟨0, by omega, rfl, rfl, Below.refl _ _⟩
 case round =>
   obtain ⟨c, hcn, rfl, rfl, HB⟩ := hrel
   by_cases hlt : c < n
   · have hcI : (c : Int) < n := by omega
     obtain ⟨d, hd⟩ : ∃ d, D[c]? = some d := ⟨D[c]'(by omega), List.getElem?_eq_getElem _⟩
     have R := HR.out.step HB
     obtain ⟨gv, rfl, hgv, q0, hne⟩ := R.1 c d hd
     obtain ⟨hb, ys, hY, hI, hl, hM⟩ := R.2.1 c d hd
     have hk := kS_le H20.out c (by omega)
     have hdl := H20.out c (by omega)
     have hks : kS D (c + 1) = kS D c + d.2.2.length * 2 := by rw [kS, dL_at hd]
     rw [dL_at hd] at hdl
     have CM := heldS_any d.1 d.2.2.length d.2.1 (kS D c) ys (by omega) (by omega) wr hY (hM hlt)
     have HKs : Hid (kS D (c + 1) = kS D c + d.2.2.length * 2) := hks
     unfold slD at q0
     clear hd R hY hI hl hM hks
     obtain ⟨K, hK⟩ : ∃ K, kS D c = K := ⟨_, rfl⟩
     rw [hK] at CM HKs hk ⊢
     clear hK
     go_wp2_with fail
     refine CM.mono ?_
     rintro e w1 ⟨rfl, hB⟩
     have HBN := HB.trans (hB.mono HB.size)
     have hpos : ¬ (((K + d.2.2.length * 2 : Nat) : Int) < 0) := by omega
     clear CM hB HB q0
     obtain ⟨K2, hK2⟩ : ∃ K2, K + d.2.2.length * 2 = K2 := ⟨_, rfl⟩
     rw [hK2] at HKs hpos
     simp only [hK2]
     go_wp2
     go_roundw
     case rel => exact ⟨c + 1, by omega, congrArg (Value.int .i64) (by rw [HKs.out]), by go_num, HBN⟩
     case measure => simp [intOf]; omega
   · obtain rfl : c = n := by omega
     go_wp2
     go_ret
     exact ⟨rfl, HB⟩
def Res (s : ByteArray) (b : Bool) (Q : List (List Zz2)) : Prop :=
 (s = bA [110, 111, 110, 101] ∧ b = true ∧ Q = []) ∨ (OkM Q ∧ s = bA (lyM Q) ∧ b = true) ∨ (s ≠ bA [110, 111, 110, 101] ∧ (∀ R, OkM R → s ≠ bA (lyM R)) ∧ b = false ∧ Q = [])
theorem Res.one {s : ByteArray} {b c : Bool} {Q R : List (List Zz2)} (h : Res s b Q) (k : Res s c R) : b = c ∧ Q = R := by
 rcases h with ⟨h1, rfl, rfl⟩ | ⟨h1, h2, rfl⟩ | ⟨h1, h2, rfl, rfl⟩
 · rcases k with ⟨_, rfl, rfl⟩ | ⟨k1, k2, rfl⟩ | ⟨k1, _, _, _⟩
   · exact ⟨rfl, rfl⟩
   · exact absurd (bA_inj (k2.symm.trans h1)) (lyM_none k1)
   · exact absurd h1 k1
 · rcases k with ⟨k1, rfl, rfl⟩ | ⟨k1, k2, rfl⟩ | ⟨_, k2, _, _⟩
   · exact absurd (bA_inj (h2.symm.trans k1)) (lyM_none h1)
   · exact ⟨rfl, lyM_inj h1 k1 (bA_inj (h2.symm.trans k2))⟩
   · exact absurd h2 (k2 Q h1)
 · rcases k with ⟨k1, _, _⟩ | ⟨k1, k2, _⟩ | ⟨_, _, rfl, rfl⟩
   · exact absurd k1 h1
   · exact absurd k2 (h2 R k1)
   · exact ⟨rfl, rfl⟩
theorem smR_getR {L : Nat → Nat} {n i : Nat} (h : i < n) : L i ≤ smR L n := by
 have := smR_mono (L := L) (show i + 1 ≤ n from h)
 rw [smR] at this
 omega
theorem RlP.form {s : ByteArray} {w : World} {e : Ending} {w' : World} (h : RlP s w e w') : Below w.heap.size w w' ∧ ∃ (ao : Option Addr) (n cap : Nat) (b : Bool) (D : List Rd3), e = .returned (.tuple #[.slice ao n cap, .bool b]) ∧ Res s b (spD D) ∧ RsO w.heap.size w' (.slice ao n cap) D ∧ D.length = n ∧ n ≤ 6 ∧ ∀ i, i < D.length → dL D i ≤ 20 := by
 obtain ⟨hB, ⟨h1, rfl⟩ | ⟨D, v, h1, h2, rfl, h3⟩ | ⟨h1, h2, rfl⟩⟩ := h
 · exact ⟨hB, none, 0, 0, true, [], rfl, Or.inl ⟨h1, rfl, rfl⟩, RsO.nil _ _, rfl, by omega, fun i hi => by simp at hi⟩
 · obtain ⟨ao, n, cap, rfl⟩ : ∃ ao n cap, v = .slice ao n cap := by
     rcases h3.1.2 with ⟨h, _⟩ | ⟨_, _, _, h, _⟩
     · exact ⟨_, _, _, h⟩
     · exact ⟨_, _, _, h⟩
   obtain ⟨hn, -⟩ := h3.rgIn
   have h6 := h1.n6
   unfold spD at h6
   rw [List.length_map] at h6
   refine ⟨hB, ao, n, cap, true, D, rfl, Or.inr (Or.inl ⟨h1, h2, rfl⟩), h3, hn.symm, by omega, fun i hi => ?_⟩
   have h4 := h1.n20
   rw [← smR_all] at h4
   exact Nat.le_trans (smR_getR hi) h4
 · exact ⟨hB, none, 0, 0, false, [], rfl, Or.inr (Or.inr ⟨h1, h2, rfl, rfl⟩), RsO.nil _ _, rfl, by omega, fun i hi => by simp at hi⟩
theorem spD_len (D : List Rd3) : (spD D).length = D.length := by simp [spD]
theorem spD_get (D : List Rd3) (i : Nat) : (spD D).getD i [] = (D.getD i (0, 0, [])).2.2 := by
 rw [List.getD_eq_getElem?_getD, List.getD_eq_getElem?_getD]
 unfold spD
 rw [List.getElem?_map]
 cases D[i]? <;> rfl
theorem dL_same {D E : List Rd3} (h : spD D = spD E) : dL D = dL E := funext fun i => by
 unfold dL
 rw [← spD_get, ← spD_get, h]
theorem dQ_same {D E : List Rd3} (h : spD D = spD E) : dQ D = dQ E := funext fun i => funext fun j => by
 unfold dQ
 rw [← spD_get, ← spD_get, h]
theorem kS_pos (D : List Rd3) : ∀ c, 1 ≤ kS D c
 | 0 => by simp [kS]
 | c + 1 => by have := kS_pos D c; rw [kS]; omega
set_option maxRecDepth 100000 in
set_option maxHeartbeats 4000000 in
theorem lawReadLayer_any (s : ByteArray) (hs : s.size ≤ 9223372036854775807) (w : World) (hM : MlP w) : Calls Tryd.prog 4 #[.string s] w (BoolP true w) := by
 by_cases hbig : s.size ≤ 1048576
 · have hbI : ¬ ((s.size : Int) > 1048576) := by omega
   have SP := fun w => specReadLayer_any s hs w
   have IM := fun w h => readLayer_any s hs w h
   have HM : Hid (MlP w) := hM
   clear hM hbig hs
   go_enter Tryd.func4, Tryd.ntmps4
   go_wp2_with fail
   refine (SP _).mono ?_
   intro e w1 hP
   obtain ⟨HB, ao, n, cap, b, D, rfl, hRes, hRs, hDn1, hn6, hdl⟩ := hP.form
   have HR1 : Hid (Res s b (spD D)) := hRes
   have HG1 : Hid (RgIn w1 ao n (dS D) (dL D) (dQ D)) := hRs.rgIn.2
   have HM1 := HM.out.step HB
   have h20 : ∀ i, i < n → dL D i ≤ 1048576 := fun i hi => by have := hdl i (by omega); omega
   have HDn : Hid (D.length = n) := hDn1
   clear hP hRes hRs hdl hDn1 SP
   go_wp2_with fail
   refine (IM _ HM1).mono ?_
   intro e w2 hP
   obtain ⟨hB, ao2, n2, cap2, b2, D2, rfl, hRes, hRs, hDn, hn62, hdl⟩ := hP.form
   obtain ⟨rfl, hDD⟩ := HR1.out.one hRes
   obtain rfl : n = n2 := by
     have h1 := congrArg List.length hDD
     rw [spD_len, spD_len, HDn.out, hDn] at h1
     exact h1
   have HR2 := hRs.rkO
   have HG2 := hRs.rgIn.2
   rw [← dL_same hDD, ← dQ_same hDD] at HG2
   have EQ := fun bo c1 c2 S' w h h' => eqRingS_any bo ao n c1 c2 S' (dS D) (dL D) (dQ D) (by omega) h20 w h h'
   have HBB := hB
   have hbb : (b != b) = false := by simp
   have MK := fun w h => markD_any w1.heap.size ao2 n cap2 D2 hDn hn62 hdl w h
   have HD := fun w h => heldD_any w1.heap.size ao2 n cap2 D2 hDn hn62 hdl w h
   have hk := kS_pos D2 n
   obtain ⟨K, hK⟩ : ∃ K, kS D2 n = K := ⟨_, rfl⟩
   rw [hK] at MK HD hk
   have hkI : ¬ ((K : Int) < 0) := by omega
   clear hP hRes hRs hdl hDn hK hB hDD
   go_wp2_with fail
   refine (EQ _ _ _ _ _ HG2 (HG1.out.step HBB)).mono ?_
   rintro e w3 ⟨rfl, hB⟩
   replace HBB := HBB.trans (hB.mono HBB.size)
   replace HR2 := HR2.step hB
   clear hB HG2
   go_wp2_with fail
   refine (MK _ HR2).mono ?_
   rintro e w4 ⟨rfl, HR4, hB⟩
   replace HBB := HBB.trans hB
   clear hB HR2 MK
   go_wp2_with fail
   refine (HD _ HR4).mono ?_
   rintro e w5 ⟨rfl, hB⟩
   replace HBB := HBB.trans (hB.mono HBB.size)
   replace HR4 := HR4.step hB
   clear hB
   go_wp2_with fail
   refine (IM _ (HM1.step HBB)).mono ?_
   intro e w6 hP
   obtain ⟨hB, ao3, n3, cap3, b3, D3, rfl, hRes, hRs, hDn, -, -⟩ := hP.form
   obtain ⟨rfl, hDD⟩ := HR1.out.one hRes
   obtain rfl : n = n3 := by
     have h1 := congrArg List.length hDD
     rw [spD_len, spD_len, HDn.out, hDn] at h1
     exact h1
   have HG3 := hRs.rgIn.2
   rw [← dL_same hDD, ← dQ_same hDD] at HG3
   replace HBB := HBB.trans (hB.mono HBB.size)
   replace HR4 := HR4.step hB
   clear hP hRes hRs hDn hB hDD IM
   go_wp2_with fail
   refine (EQ _ _ _ _ _ HG3 (HG1.out.step HBB)).mono ?_
   rintro e w7 ⟨rfl, hB⟩
   replace HBB := HBB.trans (hB.mono HBB.size)
   replace HR4 := HR4.step hB
   clear hB HG3 EQ
   go_wp2_with fail
   refine (HD _ HR4).mono ?_
   rintro e w8 ⟨rfl, hB⟩
   have HBF := HB.trans ((HBB.trans (hB.mono HBB.size)).mono HB.size)
   clear hB HD HR4
   go_wp2
   go_ret
   exact ⟨rfl, HBF⟩
 · have hbI : (s.size : Int) > 1048576 := by omega
   go_enter Tryd.func4, Tryd.ntmps4
   go_wp2
   go_ret
   exact ⟨rfl, Below.refl _ _⟩
end Go.Proofs.YtjcpdihdlklapaaDoor
