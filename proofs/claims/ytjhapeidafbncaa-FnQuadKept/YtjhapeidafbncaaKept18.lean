/- Part 18 of the walks that the proof leans on. -/
import Derived.Test.YtjhapeidafbncaaKept15
import Derived.Test.YtjhapeidafbncaaKept17
import Derived.Test.YtjhapeidafbncaaKept1
import Derived.Deep.RegionHeld3
import Derived.Deep.DeepCutAuto
import Derived.Deep.QuietTactic
import Derived.BigQuiet
import Derived.Deep.RegionWith
set_option maxRecDepth 100000
set_option maxHeartbeats 16000000
namespace Go.Proofs.Ytjhapeidafbncaa
open Go.RowKit
def CutG (Q:QD) (m d id:Int) (w:World) (r:Ending) (w' :World):Prop:=
 Below w.heap.size w w' ∧((cutB Q m d id=false∧r= .returned (.tuple #[.agg #[.int .i64 0,.int .i64 0,.slice none 0 0,.slice none 0 0],.bool false]))∨(cutB Q m d id=true∧∃j,j<Q.m∧Q.I j=id∧∃v u I,r= .returned (.tuple #[.agg #[.int .i64 m,.int .i64 d,v,u],.bool true])∧w'.ownsRow w.heap.size 59 5 v (Q.m-1) (itCs (delQ Q j) (List.range (Q.m-1)))∧w'.ownsRow w.heap.size 55 5 u (cutL Q m d j).length (wbCs (cutL Q m d j) I)∧IsP (fun b=>w.heap.size≤b∧v.ownBlock≠some b∧u.ownBlock≠some b) w' (cutL Q m d j) I∧∀b,v.ownBlock=some b→u.ownBlock≠some b))
theorem itCs_takeD {Q:QD} {j:Nat}:∀n,(itCs Q (List.range (j+n))).take (j*5)=itCs Q (List.range j)
 | 0=>List.take_of_length_le (by rw[itCs_len,List.length_range];exact Nat.le_refl _)
 | n+1=>by
   rw[←Nat.add_assoc,itCs_more,List.take_append_of_le_length (by rw[itCs_len,List.length_range];omega),itCs_takeD n]
theorem itCs_del2 {Q:QD} {j:Nat}:∀n,(itCs Q (List.range (j+1+n))).take (j*5) ++(itCs Q (List.range (j+1+n))).drop ((j+1)*5)=itCs (delQ Q j) (List.range (j+n))
 | 0=>by
   rw[show j+1+0=j+1 from rfl,itCs_takeD 1,List.drop_of_length_le (by rw[itCs_len,List.length_range];exact Nat.le_refl _),List.append_nil,Nat.add_zero,itCs_del j (Nat.le_refl _)]
 | n+1=>by
   have h:=itCs_del2 (Q:=Q) (j:=j) n
   have hl:(itCs Q (List.range (j+1+n))).length=(j+1+n)*5:=by rw[itCs_len,List.length_range]
   rw[←Nat.add_assoc,←Nat.add_assoc,itCs_dgt (Nat.le_add_right j n),←h,itCs_more,show j+n+1=j+1+n by omega,List.take_append_of_le_length (by rw[hl];omega),List.drop_append_of_le_length (by rw[hl];omega),List.append_assoc]
theorem itCs_delete {Q:QD} {j:Nat} (hj:j<Q.m):(itCs Q (List.range Q.m)).take (j*5) ++(itCs Q (List.range Q.m)).drop ((j+1)*5)=itCs (delQ Q j) (List.range (Q.m-1)):=by
 have h:=itCs_del2 (Q:=Q) (j:=j) (Q.m-1-j)
 rwa [show j+1+(Q.m-1-j)=Q.m by omega,show j+(Q.m-1-j)=Q.m-1 by omega] at h
theorem delQ_its6 {Q:QD} {j:Nat} (h6:Its6 Q (List.range Q.m)) (hj:j<Q.m):Its6 (delQ Q j) (List.range (Q.m-1)):=fun i hi=>by
 have hi2:=List.mem_range.1 hi
 by_cases h:i<j
 · rw[(delQ_lt h).2]
   exact h6 i (List.mem_range.2 (by omega))
 · rw[(delQ_ge (by omega)).2]
   exact h6 (i+1) (List.mem_range.2 (by omega))
theorem implQuadCut_any (w:World) (Q:QD) (ao bo:Option Addr) (cap bcap A off:Nat) (so:Nat→Option Addr×Nat) (m d:Int) (hm:Q.m≤1048576) (hN:Q.N≤1048576) (hcap:Q.N≤bcap) (hL:∀i,i<Q.N→Q.L i≤1048576) (hbo:0<Q.N→bo=some ⟨A,off,none⟩) (hao:∀A o sp,ao=some ⟨A,o,sp⟩→A<w.heap.size) (hS:ItIn Q w ao (List.range Q.m)) (hBl:BlIn Q w A off so) (id:Int):Calls Try.prog 16 #[.agg #[.int .i64 m,.int .i64 d,.slice ao Q.m cap,.slice bo Q.N bcap],.int .i64 id] w (CutG Q m d id w):=by
 have B2:Blk ((w.alloc (.cells #[.int .i64 m,.int .i64 d,.slice ao Q.m cap,.slice bo Q.N bcap] 34)).alloc (.cells #[.int .i64 0,.int .i64 0,.slice none 0 0,.slice none 0 0] 34)) (w.heap.size+1) [.int .i64 0,.int .i64 0,.slice none 0 0,.slice none 0 0]:=Blk.new (w.alloc (.cells #[.int .i64 m,.int .i64 d,.slice ao Q.m cap,.slice bo Q.N bcap] 34)) [.int .i64 0,.int .i64 0,.slice none 0 0,.slice none 0 0] 34 (by simp)
 have B0:Blk ((w.alloc (.cells #[.int .i64 m,.int .i64 d,.slice ao Q.m cap,.slice bo Q.N bcap] 34)).alloc (.cells #[.int .i64 0,.int .i64 0,.slice none 0 0,.slice none 0 0] 34)) w.heap.size [.int .i64 m,.int .i64 d,.slice ao Q.m cap,.slice bo Q.N bcap]:=(Blk.new w [.int .i64 m,.int .i64 d,.slice ao Q.m cap,.slice bo Q.N bcap] 34 rfl).alloc _
 have HB:Below w.heap.size w ((w.alloc (.cells #[.int .i64 m,.int .i64 d,.slice ao Q.m cap,.slice bo Q.N bcap] 34)).alloc (.cells #[.int .i64 0,.int .i64 0,.slice none 0 0,.slice none 0 0] 34)):=((Below.refl _ w).alloc (Nat.le_refl _) _).alloc (by simp) _
 have C:=quadOf_any ((w.alloc (.cells #[.int .i64 m,.int .i64 d,.slice ao Q.m cap,.slice bo Q.N bcap] 34)).alloc (.cells #[.int .i64 0,.int .i64 0,.slice none 0 0,.slice none 0 0] 34)) Q ao bo cap bcap A off so m d hm hN hcap hL hbo (fun A o sp e=>Nat.lt_of_lt_of_le (hao A o sp e) HB.size) (hS.step HB) (hBl.below HB)
 have hmI:(Q.m:Int)≤1048576:=by omega
 clear hS hBl hao
 go_enter Try.func16,Try.ntmps16
 go_upto_region 1 with fail
 generalize ((w.alloc (.cells #[.int .i64 m,.int .i64 d,.slice ao Q.m cap,.slice bo Q.N bcap] 34)).alloc (.cells #[.int .i64 0,.int .i64 0,.slice none 0 0,.slice none 0 0] 34))=W1 at *
 have c0:=B0.c 0 rfl;have c1:=B0.c 1 rfl;have c2:=B0.c 2 rfl;have c3:=B0.c 3 rfl
 go_wp2_with fail
 refine C.mono ?_
 rintro r w1 ⟨pv,rfl,hB1,hQT⟩
 have hP2:w.heap.size+1<W1.heap.size:=B2.lt
 have hW1:=hB1.size
 replace B2:=B2.step hB1
 replace HB:=HB.trans (hB1.mono HB.size)
 clear C c0 c1 c2 c3 hB1 B0
 cases hq:qOk Q m d with
 | false=>
   have HP:Hid (cutB Q m d id=false):=by show _=_;unfold cutB;rw[hq];rfl
   clear hq hQT
   have y0:=B2.f 0 rfl;have y1:=B2.f 1 rfl;have y2:=B2.f 2 rfl;have y3:=B2.f 3 rfl;have z0:=B2.c 0 rfl;have z1:=B2.c 1 rfl;have z2:=B2.c 2 rfl;have z3:=B2.c 3 rfl
   have BF:=set4_blk B2 (.int .i64 0) (.int .i64 0) (.slice none 0 0) (.slice none 0 0)
   have HF:=set4_below HB (show w.heap.size≤w.heap.size+1 by omega) (.int .i64 0) (.int .i64 0) (.slice none 0 0) (.slice none 0 0)
   go_wp2
   have r0:=BF.out.c 0 rfl;have r1:=BF.out.c 1 rfl;have r2:=BF.out.c 2 rfl;have r3:=BF.out.c 3 rfl
   refine bodyPost_ret (v:= .tuple #[.agg #[.int .i64 0,.int .i64 0,.slice none 0 0,.slice none 0 0],.bool false]) (by simp[results,Try.results16,go_sem,r0,r1,r2,r3]) rfl ?_
   exact⟨HF,.inl ⟨HP.out,rfl⟩⟩
 | true=>
   obtain⟨gq,io,ic,gr,rfl,BQ,hIt,hbq,hST,hOI,hneq⟩:=hQT hq
   have HQ:Hid (qOk Q m d=true):=hq
   obtain⟨⟨hm1,hm8⟩,⟨hd0,hd8⟩,hits,_⟩:=qOk_all hq
   have h6:=its6_of hits
   have hri:=rise_of hits
   have h40:Q.m≤40:=(of_decide_eq_true hits).1
   clear hq hits hQT
   obtain⟨j,hj,hlo,hhi⟩:=place_ex hri id Q.m (Nat.le_refl _)
   have HLO:Hid (∀i,i<j→Q.I i<id):=hlo
   have HHI:Hid (∀i,j≤i→i<Q.m→id≤Q.I i):=hhi
   obtain⟨th,hth⟩:∃th,decide (j<Q.m∧Q.I j=id)=th:=⟨_,rfl⟩
   have HTH:Hid (decide (j<Q.m∧Q.I j=id)=th):=hth
   have CP:=place_any Q gq ic io m d id (.pointer (some ⟨gr,0,none⟩)) j th hm hj hlo hhi (by rw[←hth];simp) w1 BQ hIt
   clear hlo hhi hth
   go_wp2_with fail
   refine CP.mono ?_
   rintro r w5 ⟨rfl,hB5⟩
   clear CP
   replace B2:=B2.step hB5
   replace HB:=HB.trans (hB5.mono HB.size)
   replace BQ:=BQ.step hB5
   replace hIt:=hIt.step hB5
   replace hST:=hST.step hB5
   replace hOI:=ownA_step hOI hB5
   have hw5:=hB5.size
   clear hB5
   cases th with
   | false =>
     have HP:Hid (cutB Q m d id=false):=by
       show _=_
       have h4:¬(j<Q.m∧Q.I j=id):=of_decide_eq_false HTH.out
       have hn:∀i,i<Q.m→Q.I i≠id:=fun i hi e=>by
         rcases Nat.lt_or_ge i j with h | h
         · have:=HLO.out i h;omega
         · have h5:=HHI.out j (Nat.le_refl _) (by omega)
           rcases Nat.eq_or_lt_of_le h with h7 | h7
           · subst h7;exact h4 ⟨hi,e⟩
           · have h8:=rise_to hri h7 hi;omega
       unfold cutB
       rw[decide_eq_true hn]
       simp
     have y0:=B2.f 0 rfl;have y1:=B2.f 1 rfl;have y2:=B2.f 2 rfl;have y3:=B2.f 3 rfl;have z0:=B2.c 0 rfl;have z1:=B2.c 1 rfl;have z2:=B2.c 2 rfl;have z3:=B2.c 3 rfl
     have BF:=set4_blk B2 (.int .i64 0) (.int .i64 0) (.slice none 0 0) (.slice none 0 0)
     have HF:=set4_below HB (show w.heap.size≤w.heap.size+1 by omega) (.int .i64 0) (.int .i64 0) (.slice none 0 0) (.slice none 0 0)
     go_wp2
     have r0:=BF.out.c 0 rfl;have r1:=BF.out.c 1 rfl;have r2:=BF.out.c 2 rfl;have r3:=BF.out.c 3 rfl
     refine bodyPost_ret (v:= .tuple #[.agg #[.int .i64 0,.int .i64 0,.slice none 0 0,.slice none 0 0],.bool false]) (by simp[results,Try.results16,go_sem,r0,r1,r2,r3]) rfl ?_
     exact⟨HF,.inl ⟨HP.out,rfl⟩⟩
   | true=>
     obtain⟨hjm,hji⟩:=of_decide_eq_true HTH.out
     have HJI:Hid (Q.I j=id):=hji
     have HP:Hid (cutB Q m d id=true):=by show _=_;unfold cutB;rw[HQ.out,decide_eq_false (fun h=>h j hjm hji)];rfl
     have HLEN:Hid ((cutL Q m d j).length≤2000):=(cut_tree HQ.out hjm).2.1
     clear HTH HHI HLO hji
     obtain⟨gi,ic',e9,hgi1,hgi2,hnc,_⟩:=ownQ_form hOI (by omega)
     cases e9
     have hgqi:gi≠gq:=hneq gi rfl
     have hgq5:gq<w5.heap.size:=BQ.lt
     have hjI:(j:Int)<(Q.m:Int):=by omega
     have hj1I:(j:Int)+1≤(Q.m:Int):=by omega
     have DI:=delIt_any W1.heap.size gi Q.m ic j (itCs Q (List.range Q.m)) w5 hjm hm hOI (itCs_one Q _)
     rw[itCs_delete hjm] at DI
     have q2:=BQ.c 2 rfl
     go_wp2_with fail
     refine DI.mono ?_
     rintro r w7 ⟨rfl,hO7,hG7⟩
     clear DI q2
     have BQ7:=BQ.grown hG7 (fun e=>hgqi (Option.some.inj e).symm)
     have hG7s:=hG7.size
     have hsz:(w7.setCell ⟨gq,2,none⟩ (.slice (some ⟨gi,0,none⟩) (Q.m-1) ic)).heap.size=w7.heap.size:=by simp[World.setCell]
     have hne:∀b,b≠gq→(w7.setCell ⟨gq,2,none⟩ (.slice (some ⟨gi,0,none⟩) (Q.m-1) ic)).heap[b]? =w7.heap[b]? :=fun b hb=>Below.heap_setCell _ _ _ _ hb
     have hB7:∀b,b<w5.heap.size→b≠gi→b≠gq→(w7.setCell ⟨gq,2,none⟩ (.slice (some ⟨gi,0,none⟩) (Q.m-1) ic)).heap[b]? =w5.heap[b]? :=fun b hb h1 h2=>(hne b h2).trans (hG7.block b hb (fun e=>h1 (Option.some.inj e)))
     have BQX:Blk (w7.setCell ⟨gq,2,none⟩ (.slice (some ⟨gi,0,none⟩) (Q.m-1) ic)) gq [.int .i64 m,.int .i64 d,.slice (some ⟨gi,0,none⟩) (Q.m-1) ic,.pointer (some ⟨gr,0,none⟩)]:=BQ7.setI 2 (by simp) _
     have B2X:Blk (w7.setCell ⟨gq,2,none⟩ (.slice (some ⟨gi,0,none⟩) (Q.m-1) ic)) (w.heap.size+1) [.int .i64 0,.int .i64 0,.slice none 0 0,.slice none 0 0]:=B2.keep (by omega) (hB7 _ (by omega) (by omega) (by omega))
     have HBX:Below w.heap.size w (w7.setCell ⟨gq,2,none⟩ (.slice (some ⟨gi,0,none⟩) (Q.m-1) ic)):=(HB.grown hG7 HB.size (fun c e=>by have:=Option.some.inj e;omega)).setCell (p:=⟨gq,2,none⟩) (by show w.heap.size≤gq;omega) _
     have hSTX:STr (fun b=>(W1.heap.size≤b∧b<w5.heap.size)∧b≠gq∧b≠gi) (w7.setCell ⟨gq,2,none⟩ (.slice (some ⟨gi,0,none⟩) (Q.m-1) ic)) (trQ Q d.toNat 0 (-1048576) (-1048576) 2097152) (-1048576) (-1048576) 2097152 0 gr:=STr.keep (by omega) (fun b hb hl=>hB7 b hl (hb.2.2 gi rfl) hb.2.1) (fun b hb hl=>⟨⟨hb.1,hl⟩,hb.2.1,hb.2.2 gi rfl⟩) hST
     have hOX:(w7.setCell ⟨gq,2,none⟩ (.slice (some ⟨gi,0,none⟩) (Q.m-1) ic)).ownsRow W1.heap.size 59 5 (.slice (some ⟨gi,0,none⟩) (Q.m-1) ic) (Q.m-1) (itCs (delQ Q j) (List.range (Q.m-1))):=ownQ_heap hO7 (fun k hk=>hne k (fun e=>hgqi ((Option.some.inj hk).trans e)))
     have f27:=BQ7.f 2 rfl;have q27:=BQ7.c 2 rfl
     clear BQ B2 HB hST hOI hIt hB7 hG7 hO7 hne BQ7 hneq
     go_upto_region 8 with fail
     clear f27 q27
     have hszw:w5.heap.size≤(w7.setCell ⟨gq,2,none⟩ (.slice (some ⟨gi,0,none⟩) (Q.m-1) ic)).heap.size:=by omega
     clear hsz hG7s
     generalize (w7.setCell ⟨gq,2,none⟩ (.slice (some ⟨gi,0,none⟩) (Q.m-1) ic))=WY at *
     have hIt:ItIn (delQ Q j) WY (some ⟨gi,0,none⟩) (List.range (Q.m-1)):=by
       obtain⟨ao9,cap9,e9,hI9⟩:=ItIn.of (Q:=delQ Q j) (l:=List.range (Q.m-1)) (by rw[List.length_range];exact hOX)
       rw[List.length_range] at e9
       cases e9
       exact hI9
     have SE:=settle_any (delQ Q j) m d gq (some ⟨gi,0,none⟩) ic (.pointer (some ⟨gr,0,none⟩)) (delQ_its6 h6 hjm) (show Q.m-1≤1048576 by omega) (trQ Q d.toNat 0 (-1048576) (-1048576) 2097152) (fun b=>(W1.heap.size≤b∧b<w5.heap.size)∧b≠gq∧b≠gi) (-1048576) (-1048576) 2097152 0 gr WY root_sq hSTX BQX (fun h=>h.2.1 rfl) hIt (fun A o sp e=>by
       cases e
       exact⟨fun h=>h.2.2 rfl,by omega⟩)
     have q3:=BQX.c 3 rfl
     clear hSTX hIt
     go_wp2_with fail
     refine SE.mono ?_
     rintro r w9 ⟨rfl,hS9,hF9⟩
     clear SE q3
     have hB9:Below W1.heap.size WY w9:=hF9.below (by omega) (fun b h=>h.1.1)
     have hs9:=hF9.size
     have HB9:=HBX.trans (hB9.mono (by omega))
     have B29:=B2X.below hB9 (by omega)
     have BQ9:=hF9.blk BQX (fun h=>h.2.1 rfl)
     have hO9:=ownQ_heap hOX (fun k hk=>hF9.block k (World.ownsRow.lt hOX k hk).2 (fun h=>h.2.2 (Option.some.inj hk).symm))
     have TO:=toldS_any _ gq gr (Q.m-1) ic (some ⟨gi,0,none⟩) m d _ w9 (by have:=HLEN.out;unfold cutL at this;omega) BQ9 hS9
     change Calls _ _ _ _ (ToldP m d (.slice (some ⟨gi,0,none⟩) (Q.m-1) ic) (okI (fun b=>(W1.heap.size≤b∧b<w5.heap.size)∧b≠gq∧b≠gi) WY.heap.size w9.heap.size) (cutL Q m d j) w9) at TO
     clear hB9 hF9 hS9 BQX B2X HBX hOX
     go_wp2_with fail
     refine TO.mono ?_
     rintro r wx ⟨hBx,hTx⟩
     clear TO
     have HBF:=HB9.trans (hBx.mono HB9.size)
     have hOF:=ownA_step hO9 hBx
     have BRF:=B29.step hBx
     have hsx:=hBx.size
     rcases hTx with ⟨h2000,_⟩ | ⟨_,u,I,rfl,hU,hIs⟩
     · exact absurd HLEN.out (by omega)
     · obtain⟨uo,uc,rfl⟩:=ownQ_slice hU
       obtain⟨un,hun⟩:∃un,(cutL Q m d j).length=un:=⟨_,rfl⟩
       have HUN:Hid ((cutL Q m d j).length=un):=hun
       rw[hun] at hU⊢
       clear hun
       have HOF:Hid (((((wx.setCell ⟨w.heap.size+1,0,none⟩ (.int .i64 m)).setCell ⟨w.heap.size+1,1,none⟩ (.int .i64 d)).setCell ⟨w.heap.size+1,2,none⟩ (.slice (some ⟨gi,0,none⟩) (Q.m-1) ic)).setCell ⟨w.heap.size+1,3,none⟩ (.slice uo un uc)).ownsRow w.heap.size 59 5 (.slice (some ⟨gi,0,none⟩) (Q.m-1) ic) (Q.m-1) (itCs (delQ Q j) (List.range (Q.m-1)))∧((((wx.setCell ⟨w.heap.size+1,0,none⟩ (.int .i64 m)).setCell ⟨w.heap.size+1,1,none⟩ (.int .i64 d)).setCell ⟨w.heap.size+1,2,none⟩ (.slice (some ⟨gi,0,none⟩) (Q.m-1) ic)).setCell ⟨w.heap.size+1,3,none⟩ (.slice uo un uc)).ownsRow w.heap.size 55 5 (.slice uo un uc) (cutL Q m d j).length (wbCs (cutL Q m d j) I)∧IsP (fun b=>w.heap.size≤b∧(Value.slice (some ⟨gi,0,none⟩) (Q.m-1) ic).ownBlock≠some b∧(Value.slice uo un uc).ownBlock≠some b) ((((wx.setCell ⟨w.heap.size+1,0,none⟩ (.int .i64 m)).setCell ⟨w.heap.size+1,1,none⟩ (.int .i64 d)).setCell ⟨w.heap.size+1,2,none⟩ (.slice (some ⟨gi,0,none⟩) (Q.m-1) ic)).setCell ⟨w.heap.size+1,3,none⟩ (.slice uo un uc)) (cutL Q m d j) I∧∀b,(Value.slice (some ⟨gi,0,none⟩) (Q.m-1) ic).ownBlock=some b→(Value.slice uo un uc).ownBlock≠some b):=by
         have hb9:∀b,okI (fun b=>(W1.heap.size≤b∧b<w5.heap.size)∧b≠gq∧b≠gi) WY.heap.size w9.heap.size b→b<w9.heap.size→W1.heap.size≤b∧gi≠b:=fun b hb hl=>by
           rcases hb with h | h
           · exact⟨h.1.1,fun e=>h.2.2 e.symm⟩
           · exact⟨by omega,fun e=>by omega⟩
         refine⟨ownQ_mono2 (ownQ_heap hOF (fun k hk=>set4_heap (by have h9:gi=k:=Option.some.inj hk;omega))) (by omega),?_,?_,fun b e e2=>?_⟩
         · rw[HUN.out]
           exact ownQ_mono2 (ownQ_heap hU (fun k hk=>set4_heap (by have:=(World.ownsRow.lt hU k hk).1;omega))) (by omega)
         · refine IsP.keep (fun b hb hl=>(set4_heap (by have:=(hb9 b hb hl).1;omega)).trans (hBx.block b hl)) (fun b hb hl=>⟨by have:=(hb9 b hb hl).1;omega,fun e=>(hb9 b hb hl).2 (Option.some.inj e),fun e=>by have:=(World.ownsRow.lt hU b e).1;omega⟩) hIs
         · have h9:gi=b:=Option.some.inj e
           have:=(World.ownsRow.lt hU b e2).1
           omega
       have y0:=BRF.f 0 rfl;have y1:=BRF.f 1 rfl;have y2:=BRF.f 2 rfl;have y3:=BRF.f 3 rfl;have z0:=BRF.c 0 rfl;have z1:=BRF.c 1 rfl;have z2:=BRF.c 2 rfl;have z3:=BRF.c 3 rfl
       have BF:=set4_blk BRF (.int .i64 m) (.int .i64 d) (.slice (some ⟨gi,0,none⟩) (Q.m-1) ic) (.slice uo un uc)
       have HF:=set4_below HBF (show w.heap.size≤w.heap.size+1 by omega) (.int .i64 m) (.int .i64 d) (.slice (some ⟨gi,0,none⟩) (Q.m-1) ic) (.slice uo un uc)
       clear hOF hU hIs hBx hO9
       go_wp2
       have r0:=BF.out.c 0 rfl;have r1:=BF.out.c 1 rfl;have r2:=BF.out.c 2 rfl;have r3:=BF.out.c 3 rfl
       refine bodyPost_ret (v:= .tuple #[.agg #[.int .i64 m,.int .i64 d,.slice (some ⟨gi,0,none⟩) (Q.m-1) ic,.slice uo un uc],.bool true]) (by simp[results,Try.results16,go_sem,r0,r1,r2,r3]) rfl ?_
       exact⟨HF,.inr ⟨HP.out,j,hjm,HJI.out,_,_,I,rfl,HOF.out⟩⟩
def CutJ (Q:QD) (id:Int) (j:Nat):Prop:=j<Q.m∧Q.I j=id
theorem CutJ.one {Q:QD} {id:Int} {j k:Nat} (h:CutJ Q id j) (h' :CutJ Q id k) (hr:riseI Q):j=k:=by
 rcases Nat.lt_trichotomy j k with e | e | e
 · have:=rise_to hr e h'.1;have:=h.2;have:=h'.2;omega
 · exact e
 · have:=rise_to hr e h.1;have:=h.2;have:=h'.2;omega
theorem setT_l2 {Q:QD} {mx:Int}:∀(t:QT) (x y s:Int),llB Q.m (setT Q mx t x y s)
 | .leaf _,x,y,s=>canL_len Q x y s
 | .node K,x,y,s=>by
   unfold setT
   split
   · exact canL_len Q x y s
   · intro k hk
     simp only[if_pos hk]
     exact setT_l2 (K k) _ _ _
theorem cutL_ll {Q:QD} {m d:Int} {j:Nat} (h:qOk Q m d=true):∀q∈cutL Q m d j,q.l.length≤41:=by
 have h40:Q.m≤40:=(of_decide_eq_true (qOk_all h).2.2.1).1
 intro q hq
 have h5:=wrT_ll (n:=Q.m-1) (setT_l2 (Q:=delQ Q j) (trQ Q d.toNat 0 (-1048576) (-1048576) 2097152) (-1048576) (-1048576) 2097152) q hq
 omega
def CnS (okn:Bool) (Q:QD) (m d id:Int) (u:Value) (lo hi:Nat) (W:World):Prop:=
 (okn=false∧u= .agg #[.int .i64 0,.int .i64 0,.slice none 0 0,.slice none 0 0])∨(okn=true∧∃j,CutJ Q id j∧(cutL Q m d j).length≤2000∧∃io ic A bc I,u= .agg #[.int .i64 m,.int .i64 d,.slice io (Q.m-1) ic,.slice (some ⟨A,0,none⟩) (cutL Q m d j).length bc]∧W.ownsRow lo 59 5 (.slice io (Q.m-1) ic) (Q.m-1) (itCs (delQ Q j) (List.range (Q.m-1)))∧W.ownsRow lo 55 5 (.slice (some ⟨A,0,none⟩) (cutL Q m d j).length bc) (cutL Q m d j).length (wbCs (cutL Q m d j) I)∧IvP (fun b=>lo≤b∧b<hi) W (cutL Q m d j) I∧(∀b,(Value.slice io (Q.m-1) ic).ownBlock=some b→b<hi)∧A<hi)
def CnG (okn:Bool) (Q:QD) (m d id:Int) (u:Value) (lo hi:Nat) (W:World):Prop:=
 (okn=false∧u= .agg #[.int .i64 0,.int .i64 0,.slice none 0 0,.slice none 0 0])∨(okn=true∧∃j,CutJ Q id j∧(cutL Q m d j).length≤2000∧∃io ic A bc I,u= .agg #[.int .i64 m,.int .i64 d,.slice io (Q.m-1) ic,.slice (some ⟨A,0,none⟩) (cutL Q m d j).length bc]∧W.ownsRow lo 59 5 (.slice io (Q.m-1) ic) (Q.m-1) (itCs (delQ Q j) (List.range (Q.m-1)))∧W.ownsRow lo 55 5 (.slice (some ⟨A,0,none⟩) (cutL Q m d j).length bc) (cutL Q m d j).length (wbCs (cutL Q m d j) I)∧IsP (fun b=>(lo≤b∧b<hi)∧(Value.slice io (Q.m-1) ic).ownBlock≠some b∧A≠b) W (cutL Q m d j) I∧(∀b,(Value.slice io (Q.m-1) ic).ownBlock=some b→b<hi∧A≠b)∧A<hi)
theorem CnG.s {okn:Bool} {Q:QD} {m d id:Int} {u:Value} {lo hi:Nat} {W:World} (h:CnG okn Q m d id u lo hi W):CnS okn Q m d id u lo hi W:=by
 rcases h with h | ⟨h1,j,h2,h3,io,ic,A,bc,I,e,h4,h5,h6,h7,h8⟩
 · exact .inl h
 · exact .inr ⟨h1,j,h2,h3,io,ic,A,bc,I,e,h4,h5,IvP.keep (Nat.le_refl _) (fun _ _ _=>rfl) (fun b hb _=>hb.1) h6.toI,fun b e=>(h7 b e).1,h8⟩
theorem cn_of_g {okn:Bool} {Q:QD} {m d id:Int} (hok:cutB Q m d id=okn) {W W2:World} {r:Ending} (h:CutG Q m d id W r W2):∃u,r= .returned (.tuple #[u,.bool okn])∧CnG okn Q m d id u W.heap.size W2.heap.size W2∧Below W.heap.size W W2:=by
 obtain⟨hB,⟨h1,rfl⟩ | ⟨h1,j,hj,hji,v,u,I,rfl,h3,h4,h5,h6⟩⟩:=h
 · have:okn=false:=hok.symm.trans h1
   exact⟨_,by rw[this],.inl ⟨this,rfl⟩,hB⟩
 · have:okn=true:=hok.symm.trans h1
   have h2:(cutL Q m d j).length≤2000:=(cut_tree (by unfold cutB at h1;rw[Bool.and_eq_true] at h1;exact h1.1) hj).2.1
   obtain⟨io,ic,rfl⟩:=ownQ_slice h3
   obtain⟨A,bc,rfl,_⟩:=ownQ_form h4 (wrT_pos _ _ _ _)
   refine⟨_,by rw[this],.inr ⟨this,j,⟨hj,hji⟩,h2,io,ic,A,bc,I,rfl,h3,h4,IsP.keep (fun _ _ _=>rfl) (fun b hb hl=>⟨⟨hb.1,hl⟩,hb.2.1,fun e=>hb.2.2 (by rw[e];rfl)⟩) h5,fun b e=>⟨(World.ownsRow.lt h3 b e).2,fun e2=>h6 b e (by rw[e2];rfl)⟩,(World.ownsRow.lt h4 A rfl).2⟩,hB⟩
theorem wrT_node (K:Nat→QT) (x y s:Int):wrT (.node K) x y s=(⟨x,y,s,true,[]⟩:WB)::catW (fun k=>wrT (K k) (kX x (s / 2) k) (kY y (s / 2) k) (s / 2)) 4:=rfl
theorem wb_at {pre post:List WB} {q:WB} {L:List WB} (h:L=pre ++q::post):pre.length<L.length∧L.getD pre.length ⟨0,0,0,false,[]⟩=q:=by
 subst h
 refine⟨by simp,?_⟩
 rw[List.getD_eq_getElem?_getD,List.getElem?_append_right (Nat.le_refl _),Nat.sub_self]
 rfl
theorem map_getD (l:List Int):(List.range l.length).map (fun j=>l.getD j 0)=l:=by
 refine List.ext_getElem (by simp) fun i h1 h2=>?_
 simp only[List.getElem_map,List.getElem_range]
 rw[List.getD_eq_getElem?_getD,List.getElem?_eq_getElem h2]
 rfl
theorem wr_back {Q:QD} {L:List WB}:∀(t:QT) (d:Nat) (x y s:Int) (pre post:List WB),dpT t≤d→rtT Q t x y s=true→L=pre ++(wrT t x y s ++post)→qrd (qdOf Q L) d pre.length x y s=some (pre.length+(wrT t x y s).length)
 | .leaf l,d,x,y,s,pre,post,_,hr,hL=>by
   have hL' :L=pre ++(⟨x,y,s,false,l⟩:WB)::post:=hL
   obtain⟨h1,h2⟩:=wb_at hL'
   have hb:baseB (qdOf Q L) pre.length x y s=true:=by
     unfold baseB qdOf
     refine decide_eq_true ⟨h1,?_,?_,?_⟩<;>simp only[h2]
   have hT:(qdOf Q L).T pre.length=false:=by
     show(L.getD pre.length ⟨0,0,0,false,[]⟩).sp=false
     rw[h2]
   have hl:leafB (qdOf Q L) pre.length x y s=true:=by
     unfold leafB
     refine decide_eq_true ?_
     have e1:blL (qdOf Q L) pre.length=l:=by
       show(List.range (L.getD pre.length ⟨0,0,0,false,[]⟩).l.length).map (fun j=>(L.getD pre.length ⟨0,0,0,false,[]⟩).l.getD j 0)=l
       rw[h2]
       exact map_getD l
     rw[e1]
     exact of_decide_eq_true hr
   cases d with
   | zero=>unfold qrd;rw[if_pos ⟨hb,hT,hl⟩];rfl
   | succ d=>unfold qrd;rw[if_pos hb,if_neg (by rw[hT];decide),if_pos hl];rfl
 | .node K,0,x,y,s,pre,post,hd,_,_=>by
   unfold dpT at hd
   omega
 | .node K,d+1,x,y,s,pre,post,hd,hr,hL=>by
   have hL' :L=pre ++(⟨x,y,s,true,[]⟩:WB)::(catW (fun k=>wrT (K k) (kX x (s / 2) k) (kY y (s / 2) k) (s / 2)) 4 ++post):=hL
   obtain⟨h1,h2⟩:=wb_at hL'
   have hb:baseB (qdOf Q L) pre.length x y s=true:=by
     unfold baseB qdOf
     refine decide_eq_true ⟨h1,?_,?_,?_⟩<;>simp only[h2]
   have hT:(qdOf Q L).T pre.length=true:=by
     show(L.getD pre.length ⟨0,0,0,false,[]⟩).sp=true
     rw[h2]
   have hl:(qdOf Q L).L pre.length=0:=by
     show(L.getD pre.length ⟨0,0,0,false,[]⟩).l.length=0
     rw[h2]
     rfl
   have hk:∀k,k<4→dpT (K k)≤d:=fun k hk=>by
     unfold dpT at hd
     rcases(show k=0∨k=1∨k=2∨k=3 by omega) with e | e | e | e<;>subst e<;>omega
   have hc:∀c,c≤4→kp (fun a x y=>qrd (qdOf Q L) d a x y (s / 2)) (pre.length+1) x y (s / 2) c=some (pre.length+1+(catW (fun k=>wrT (K k) (kX x (s / 2) k) (kY y (s / 2) k) (s / 2)) c).length):=by
     intro c
     induction c with
     | zero=>intro _;rfl
     | succ c ih=>
       intro hc4
       have e1:=ih (by omega)
       have hp:∃p2,catW (fun k=>wrT (K k) (kX x (s / 2) k) (kY y (s / 2) k) (s / 2)) 4=catW (fun k=>wrT (K k) (kX x (s / 2) k) (kY y (s / 2) k) (s / 2)) c ++(wrT (K c) (kX x (s / 2) c) (kY y (s / 2) c) (s / 2) ++p2):=by
         rcases(show c=0∨c=1∨c=2∨c=3 by omega) with e | e | e | e<;>subst e<;>simp only[catW,List.nil_append,List.append_assoc]<;>first | exact⟨_,rfl⟩ | exact⟨[],by simp⟩
       obtain⟨p2,hp2⟩:=hp
       have e2:=wr_back (L:=L) (K c) d (kX x (s / 2) c) (kY y (s / 2) c) (s / 2) (pre ++(⟨x,y,s,true,[]⟩:WB)::catW (fun k=>wrT (K k) (kX x (s / 2) k) (kY y (s / 2) k) (s / 2)) c) (p2 ++post) (hk c (by omega)) ((List.all_eq_true.1 hr) c (List.mem_range.2 (by omega))) (by rw[hL',hp2];simp)
       show(kp _ _ _ _ _ c).bind _=_
       rw[e1]
       show qrd (qdOf Q L) d _ _ _ _=_
       rw[List.length_append,List.length_cons] at e2
       rw[show pre.length+1+(catW (fun k=>wrT (K k) (kX x (s / 2) k) (kY y (s / 2) k) (s / 2)) c).length=pre.length+((catW (fun k=>wrT (K k) (kX x (s / 2) k) (kY y (s / 2) k) (s / 2)) c).length+1) by omega,e2]
       congr 1
       rw[catW,List.length_append]
       omega
   unfold qrd
   rw[if_pos hb,if_pos hT,if_pos hl,hc 4 (Nat.le_refl 4)]
   congr 1
   rw[wrT_node,List.length_cons]
   omega
theorem miss_kid {Q:QD} {x y s:Int} (hs:0≤s) {k:Nat} (hk:k<4) {i:Nat} (h:hitQ Q x y s i=false):hitQ Q (kX x (s / 2) k) (kY y (s / 2) k) (s / 2) i=false:=by
 cases e:hitQ Q (kX x (s / 2) k) (kY y (s / 2) k) (s / 2) i with
 | false=>rfl
 | true=>rw[hit_kid hs hk e] at h;cases h
theorem rt_miss {Q:QD} {id:Int} {sg:Int×Int×Int×Int} {j:Nat} (hj:j≤Q.m):∀(t:QT) (x y s:Int),0≤s→hitQ (insQ Q j id sg) x y s j=false→rtT Q t x y s=true→rtT (insQ Q j id sg) t x y s=true
 | .leaf l,x,y,s,_,hm,hr=>by
   obtain⟨A,B,e1,e2,_,_⟩:=canL_ins hj id sg x y s
   have hn:¬newH sg x y s=true:=by
     unfold hitQ at hm
     rw[(insQ_at Q j id sg).2] at hm
     show ¬hitB _ _ _ _ _ _ _ _=true
     rw[hm]
     decide
   rw[if_neg hn,List.nil_append,←e1] at e2
   have h1:l=canL Q x y s:=of_decide_eq_true hr
   exact decide_eq_true (h1.trans e2.symm)
 | .node K,x,y,s,hs,hm,hr=>List.all_eq_true.2 fun k hk=>rt_miss hj (K k) _ _ _ (by omega) (miss_kid hs (List.mem_range.1 hk) hm) ((List.all_eq_true.1 hr) k hk)
theorem putT_rt {Q:QD} {id:Int} {sg:Int×Int×Int×Int} {j:Nat} (hj:j≤Q.m) (mx:Int):∀(t:QT) (D x y s:Int),0≤s→rtT Q t x y s=true→rtT (insQ Q j id sg) (putT (insQ Q j id sg) j mx t D x y s) x y s=true
 | .leaf l,D,x,y,s,hs,hr=>by
   cases hh:hitQ (insQ Q j id sg) x y s j with
   | false=>rw[putT_miss hh];exact rt_miss hj _ _ _ _ hs hh hr
   | true=>
     unfold putT
     rw[if_pos hh]
     split
     · exact decide_eq_true rfl
     · exact List.all_eq_true.2 fun k _=>decide_eq_true rfl
 | .node K,D,x,y,s,hs,hr=>by
   cases hh:hitQ (insQ Q j id sg) x y s j with
   | false=>rw[putT_miss hh];exact rt_miss hj _ _ _ _ hs hh hr
   | true=>
     rw[putT_hit hh]
     exact List.all_eq_true.2 fun k hk=>putT_rt hj mx (K k) _ _ _ _ (by omega) ((List.all_eq_true.1 hr) k hk)
theorem setT_rt {Q:QD} {mx:Int}:∀(t:QT) (x y s:Int),rtT Q (setT Q mx t x y s) x y s=true
 | .leaf _,_,_,_=>decide_eq_true rfl
 | .node K,x,y,s=>by
   unfold setT
   split
   · exact decide_eq_true rfl
   · refine List.all_eq_true.2 fun k hk=>?_
     simp only[if_pos (List.mem_range.1 hk)]
     exact setT_rt (K k) _ _ _
theorem setT_dp {Q:QD} {mx:Int}:∀(t:QT) (x y s:Int),dpT (setT Q mx t x y s)≤dpT t
 | .leaf _,_,_,_=>Nat.le_refl _
 | .node K,x,y,s=>by
   unfold setT
   split
   · exact Nat.zero_le _
   · have h0:=setT_dp (Q:=Q) (mx:=mx) (K 0) (kX x (s / 2) 0) (kY y (s / 2) 0) (s / 2)
     have h1:=setT_dp (Q:=Q) (mx:=mx) (K 1) (kX x (s / 2) 1) (kY y (s / 2) 1) (s / 2)
     have h2:=setT_dp (Q:=Q) (mx:=mx) (K 2) (kX x (s / 2) 2) (kY y (s / 2) 2) (s / 2)
     have h3:=setT_dp (Q:=Q) (mx:=mx) (K 3) (kX x (s / 2) 3) (kY y (s / 2) 3) (s / 2)
     simp only[dpT,show(0:Nat)<4 by omega,show(1:Nat)<4 by omega,show(2:Nat)<4 by omega,show(3:Nat)<4 by omega,if_true]
     omega
theorem its_ins {Q:QD} {id:Int} {sg:Int×Int×Int×Int} {j:Nat} (h:itsB Q=true) (hm:Q.m<40) (hid:1≤id∧id≤1000) (hsg:segOk sg.1 sg.2.1 sg.2.2.1 sg.2.2.2=true) (hp:plcJ Q id j):itsB (insQ Q j id sg)=true:=by
 have h0:=(of_decide_eq_true h).2
 refine decide_eq_true ⟨by show Q.m+1≤40;omega,fun i hi=>?_⟩
 have hi1:i<Q.m+1:=hi
 have hr:riseI (insQ Q j id sg):=insQ_rise (rise_of h) hp
 have hri:0<i→(insQ Q j id sg).I (i-1)<(insQ Q j id sg).I i:=fun h1=>hr i h1 hi
 refine decide_eq_true ?_
 rcases Nat.lt_trichotomy i j with e | e | e
 · have h2:=of_decide_eq_true (h0 i (by have:=hp.1;omega))
   refine⟨?_,?_,hri⟩
   · rw[(insQ_lt e).1];exact h2.1
   · rw[(insQ_lt e).2];exact h2.2.1
 · subst e
   refine⟨?_,?_,hri⟩
   · rw[(insQ_at Q i id sg).1];exact hid
   · rw[(insQ_at Q i id sg).2];exact hsg
 · obtain⟨k,rfl⟩:∃k,i=k+1:=⟨i-1,by omega⟩
   have h2:=of_decide_eq_true (h0 k (by omega))
   refine⟨?_,?_,hri⟩
   · rw[(insQ_gt (by omega)).1];exact h2.1
   · rw[(insQ_gt (by omega)).2];exact h2.2.1
theorem its_del {Q:QD} {j:Nat} (h:itsB Q=true) (hj:j<Q.m):itsB (delQ Q j)=true:=by
 have h0:=of_decide_eq_true h
 refine decide_eq_true ⟨by show Q.m-1≤40;omega,fun i hi=>?_⟩
 have hi1:i<Q.m-1:=hi
 have hri:0<i→(delQ Q j).I (i-1)<(delQ Q j).I i:=fun h1=>rise_del (rise_of h) hj i h1 hi
 refine decide_eq_true ?_
 rcases Nat.lt_or_ge i j with e | e
 · have h2:=of_decide_eq_true (h0.2 i (by omega))
   refine⟨?_,?_,hri⟩
   · rw[(delQ_lt e).1];exact h2.1
   · rw[(delQ_lt e).2];exact h2.2.1
 · have h2:=of_decide_eq_true (h0.2 (i+1) (by omega))
   refine⟨?_,?_,hri⟩
   · rw[(delQ_ge e).1];exact h2.1
   · rw[(delQ_ge e).2];exact h2.2.1
theorem ok_of {Q:QD} {m d:Int} {t:QT} (hm:1≤m∧m≤8) (hd:0≤d∧d≤8) (hi:itsB Q=true) (hn:(wrT t (-1048576) (-1048576) 2097152).length≤2000) (hdp:dpT t≤d.toNat) (hr:rtT Q t (-1048576) (-1048576) 2097152=true):qOk (qdOf Q (wrT t (-1048576) (-1048576) 2097152)) m d=true:=by
 have h1:=wr_back (Q:=Q) (L:=wrT t (-1048576) (-1048576) 2097152) t d.toNat (-1048576) (-1048576) 2097152 [] [] hdp hr (by simp)
 rw[show(([]:List WB).length)=0 from rfl,Nat.zero_add] at h1
 unfold qOk limB
 rw[Bool.and_eq_true,Bool.and_eq_true,Bool.and_eq_true]
 exact⟨⟨⟨by simp[hm,hd],hi⟩,decide_eq_true hn⟩,decide_eq_true h1⟩
theorem put_ok {Q:QD} {m d id:Int} {sg:Int×Int×Int×Int} {j:Nat} (h:putB Q m d id sg=true) (hp:plcJ Q id j) (hn:(putL Q m d id sg j).length≤2000):qOk (qdOf (insQ Q j id sg) (putL Q m d id sg j)) m d=true:=by
 unfold putB at h
 rw[Bool.and_eq_true] at h
 obtain⟨hid,hsg,hm40,_⟩:=of_decide_eq_true h.2
 obtain⟨hm,hd,hi,hr⟩:=qOk_all h.1
 have h1:(d.toNat:Int)=d:=by omega
 have h2:=putT_dp (insQ Q j id sg) j m (trQ Q d.toNat 0 (-1048576) (-1048576) 2097152) d.toNat (-1048576) (-1048576) 2097152 (dp_le _ _ (dp_tr Q d.toNat 0 (-1048576) (-1048576) 2097152))
 rw[h1] at h2
 exact ok_of hm hd (its_ins hi hm40 hid hsg hp) hn h2 (putT_rt hp.1 m _ _ _ _ _ (by omega) hr)
theorem cut_ok {Q:QD} {m d:Int} {j:Nat} (h:qOk Q m d=true) (hj:j<Q.m):qOk (qdOf (delQ Q j) (cutL Q m d j)) m d=true:=by
 obtain⟨hm,hd,hi,hr⟩:=qOk_all h
 exact ok_of hm hd (its_del hi hj) (cut_tree h hj).2.1 (Nat.le_trans (setT_dp _ _ _ _) (dp_le _ _ (dp_tr Q d.toNat 0 (-1048576) (-1048576) 2097152))) (setT_rt _ _ _ _)
theorem del_ins {Q:QD} {id:Int} {sg:Int×Int×Int×Int} {j:Nat} {L:List WB} (i:Nat):(delQ (qdOf (insQ Q j id sg) L) j).I i=Q.I i∧(delQ (qdOf (insQ Q j id sg) L) j).S i=Q.S i:=by
 rcases Nat.lt_or_ge i j with e | e
 · exact⟨(delQ_lt e).1.trans (insQ_lt (Q:=Q) (id:=id) (sg:=sg) e).1,(delQ_lt e).2.trans (insQ_lt (Q:=Q) (id:=id) (sg:=sg) e).2⟩
 · exact⟨(delQ_ge e).1.trans (insQ_gt (Q:=Q) (id:=id) (sg:=sg) e).1,(delQ_ge e).2.trans (insQ_gt (Q:=Q) (id:=id) (sg:=sg) e).2⟩
theorem specSegOf_any (x y u v A B C D:Int) (l k:Bool) (hl:lessI u v x y=l) (hk:segOk A B C D=k) (hA:cond l u x=A) (hB:cond l v y=B) (hC:cond l x u=C) (hD:cond l y v=D) (w:World) :
   Calls Try.prog 92 #[Sp x y,Sp u v] w (VP (.tuple #[Sg (cond k A 0) (cond k B 0) (cond k C 0) (cond k D 0),.bool k]) w):=by
 cases l<;>simp only[cond_true,cond_false] at hA hB hC hD<;>subst hA hB hC hD
 · have B0:=Blk.new w [.int .i64 x,.int .i64 y] 38 rfl
   have HB0:Below w.heap.size w _:=(Below.refl _ w).alloc (Nat.le_refl _) (.cells #[.int .i64 x,.int .i64 y] 38)
   have B1:=Blk.new (w.alloc (.cells #[.int .i64 x,.int .i64 y] 38)) [.int .i64 u,.int .i64 v] 38 (g:=w.heap.size+1) (by simp)
   replace B0:=B0.alloc (.cells #[.int .i64 u,.int .i64 v] 38)
   replace HB0:=HB0.alloc (by simp) (.cells #[.int .i64 u,.int .i64 v] 38)
   have B2:=Blk.new ((w.alloc (.cells #[.int .i64 x,.int .i64 y] 38)).alloc (.cells #[.int .i64 u,.int .i64 v] 38)) [.int .i64 0,.int .i64 0,.int .i64 0,.int .i64 0] 40 (g:=w.heap.size+1+1) (by simp)
   replace B0:=B0.alloc (.cells #[.int .i64 0,.int .i64 0,.int .i64 0,.int .i64 0] 40)
   replace B1:=B1.alloc (.cells #[.int .i64 0,.int .i64 0,.int .i64 0,.int .i64 0] 40)
   replace HB0:=HB0.alloc (by simp;omega) (.cells #[.int .i64 0,.int .i64 0,.int .i64 0,.int .i64 0] 40)
   go_enter Try.func92,Try.ntmps92
   go_wp2_with fail
   refine(l4Less_any _ _ _ _ false hl _).mono ?_
   rintro e w1 ⟨rfl,hB⟩
   replace B0:=B0.step hB;replace B1:=B1.step hB;replace B2:=B2.step hB
   have HB:Below w.heap.size w w1:=HB0.trans (hB.mono HB0.size)
   clear hB HB0
   have cB00:=B0.c 0 rfl;have fB00:=B0.f 0 rfl;have cB01:=B0.c 1 rfl;have fB01:=B0.f 1 rfl;have cB10:=B1.c 0 rfl;have fB10:=B1.f 0 rfl;have cB11:=B1.c 1 rfl;have fB11:=B1.f 1 rfl;have cB20:=B2.c 0 rfl;have fB20:=B2.f 0 rfl;have cB21:=B2.c 1 rfl;have fB21:=B2.f 1 rfl;have cB22:=B2.c 2 rfl;have fB22:=B2.f 2 rfl;have cB23:=B2.c 3 rfl;have fB23:=B2.f 3 rfl;have ltB0:=B0.lt;have ltB1:=B1.lt;have ltB2:=B2.lt
   go_wp2_with fail
   have D2:=B2.alloc (.cells #[.int .i64 x,.int .i64 y,.int .i64 u,.int .i64 v] 40)
   have D3:=Blk.new w1 [.int .i64 x,.int .i64 y,.int .i64 u,.int .i64 v] 40 rfl
   have HC:=HB.alloc HB.size (.cells #[.int .i64 x,.int .i64 y,.int .i64 u,.int .i64 v] 40)
   refine(specSegOk_any _ _ _ _ k hk _).mono ?_
   rintro e w2 ⟨rfl,hB⟩
   replace D2:=D2.step hB
   replace D3:=D3.step hB
   have HD:Below w.heap.size w w2:=HC.trans (hB.mono HC.size)
   clear hB HC HB B0 B1 B2 cB00 fB00 cB01 fB01 cB10 fB10 cB11 fB11 cB20 fB20 cB21 fB21 cB22 fB22 cB23 fB23 ltB0 ltB1 ltB2
   have cD20:=D2.c 0 rfl;have fD20:=D2.f 0 rfl;have cD21:=D2.c 1 rfl;have fD21:=D2.f 1 rfl;have cD22:=D2.c 2 rfl;have fD22:=D2.f 2 rfl;have cD23:=D2.c 3 rfl;have fD23:=D2.f 3 rfl;have cD30:=D3.c 0 rfl;have fD30:=D3.f 0 rfl;have cD31:=D3.c 1 rfl;have fD31:=D3.f 1 rfl;have cD32:=D3.c 2 rfl;have fD32:=D3.f 2 rfl;have cD33:=D3.c 3 rfl;have fD33:=D3.f 3 rfl
   have ltD2:=D2.lt;have ltD3:=D3.lt
   cases k
   · go_wp2
     refine bodyPost_ret (v:= .tuple #[Sg 0 0 0 0,.bool false]) (by simp[results,Try.results92,go_sem,cD20,cD21,cD22,cD23]) rfl ?_
     refine⟨rfl,?_⟩
     repeat' (refine Below.setCell ?_ (by simp;try omega) _)
     exact HD
   · go_wp2
     refine bodyPost_ret (v:= .tuple #[Sg x y u v,.bool true]) (by simp[results,Try.results92,go_sem,cD20,cD21,cD22,cD23]) rfl ?_
     refine⟨rfl,?_⟩
     repeat' (refine Below.setCell ?_ (by simp;try omega) _)
     exact HD
 · have B0:=Blk.new w [.int .i64 x,.int .i64 y] 38 rfl
   have HB0:Below w.heap.size w _:=(Below.refl _ w).alloc (Nat.le_refl _) (.cells #[.int .i64 x,.int .i64 y] 38)
   have B1:=Blk.new (w.alloc (.cells #[.int .i64 x,.int .i64 y] 38)) [.int .i64 u,.int .i64 v] 38 (g:=w.heap.size+1) (by simp)
   replace B0:=B0.alloc (.cells #[.int .i64 u,.int .i64 v] 38)
   replace HB0:=HB0.alloc (by simp) (.cells #[.int .i64 u,.int .i64 v] 38)
   have B2:=Blk.new ((w.alloc (.cells #[.int .i64 x,.int .i64 y] 38)).alloc (.cells #[.int .i64 u,.int .i64 v] 38)) [.int .i64 0,.int .i64 0,.int .i64 0,.int .i64 0] 40 (g:=w.heap.size+1+1) (by simp)
   replace B0:=B0.alloc (.cells #[.int .i64 0,.int .i64 0,.int .i64 0,.int .i64 0] 40)
   replace B1:=B1.alloc (.cells #[.int .i64 0,.int .i64 0,.int .i64 0,.int .i64 0] 40)
   replace HB0:=HB0.alloc (by simp;omega) (.cells #[.int .i64 0,.int .i64 0,.int .i64 0,.int .i64 0] 40)
   go_enter Try.func92,Try.ntmps92
   go_wp2_with fail
   refine(l4Less_any _ _ _ _ true hl _).mono ?_
   rintro e w1 ⟨rfl,hB⟩
   replace B0:=B0.step hB;replace B1:=B1.step hB;replace B2:=B2.step hB
   have HB:Below w.heap.size w w1:=HB0.trans (hB.mono HB0.size)
   clear hB HB0
   have cB00:=B0.c 0 rfl;have fB00:=B0.f 0 rfl;have cB01:=B0.c 1 rfl;have fB01:=B0.f 1 rfl;have cB10:=B1.c 0 rfl;have fB10:=B1.f 0 rfl;have cB11:=B1.c 1 rfl;have fB11:=B1.f 1 rfl;have cB20:=B2.c 0 rfl;have fB20:=B2.f 0 rfl;have cB21:=B2.c 1 rfl;have fB21:=B2.f 1 rfl;have cB22:=B2.c 2 rfl;have fB22:=B2.f 2 rfl;have cB23:=B2.c 3 rfl;have fB23:=B2.f 3 rfl;have ltB0:=B0.lt;have ltB1:=B1.lt;have ltB2:=B2.lt
   go_wp2_with fail
   have D2:=((((B2.setO (p:=⟨w.heap.size,0,none⟩) (by simp;omega) (.int .i64 u)).setO (p:=⟨w.heap.size,1,none⟩) (by simp;omega) (.int .i64 v)).setO (p:=⟨w.heap.size+1,0,none⟩) (by simp) (.int .i64 x)).setO (p:=⟨w.heap.size+1,1,none⟩) (by simp) (.int .i64 y)).alloc (.cells #[.int .i64 u,.int .i64 v,.int .i64 x,.int .i64 y] 40)
   have HC:=((((HB.setCell (p:=⟨w.heap.size,0,none⟩) (by simp) (.int .i64 u)).setCell (p:=⟨w.heap.size,1,none⟩) (by simp) (.int .i64 v)).setCell (p:=⟨w.heap.size+1,0,none⟩) (by simp) (.int .i64 x)).setCell (p:=⟨w.heap.size+1,1,none⟩) (by simp) (.int .i64 y))
   have D3:=Blk.new ((((w1.setCell ⟨w.heap.size,0,none⟩ (.int .i64 u)).setCell ⟨w.heap.size,1,none⟩ (.int .i64 v)).setCell ⟨w.heap.size+1,0,none⟩ (.int .i64 x)).setCell ⟨w.heap.size+1,1,none⟩ (.int .i64 y)) [.int .i64 u,.int .i64 v,.int .i64 x,.int .i64 y] 40 (g:=w1.heap.size) (by simp[World.setCell])
   replace HC:=HC.alloc (by have:=HB.size;simpa [World.setCell] using this) (.cells #[.int .i64 u,.int .i64 v,.int .i64 x,.int .i64 y] 40)
   refine(specSegOk_any _ _ _ _ k hk _).mono ?_
   rintro e w2 ⟨rfl,hB⟩
   replace D2:=D2.step hB
   replace D3:=D3.step hB
   have HD:Below w.heap.size w w2:=HC.trans (hB.mono HC.size)
   clear hB HC HB B0 B1 B2 cB00 fB00 cB01 fB01 cB10 fB10 cB11 fB11 cB20 fB20 cB21 fB21 cB22 fB22 cB23 fB23 ltB0 ltB1 ltB2
   have cD20:=D2.c 0 rfl;have fD20:=D2.f 0 rfl;have cD21:=D2.c 1 rfl;have fD21:=D2.f 1 rfl;have cD22:=D2.c 2 rfl;have fD22:=D2.f 2 rfl;have cD23:=D2.c 3 rfl;have fD23:=D2.f 3 rfl;have cD30:=D3.c 0 rfl;have fD30:=D3.f 0 rfl;have cD31:=D3.c 1 rfl;have fD31:=D3.f 1 rfl;have cD32:=D3.c 2 rfl;have fD32:=D3.f 2 rfl;have cD33:=D3.c 3 rfl;have fD33:=D3.f 3 rfl
   have ltD2:=D2.lt;have ltD3:=D3.lt
   cases k
   · go_wp2
     refine bodyPost_ret (v:= .tuple #[Sg 0 0 0 0,.bool false]) (by simp[results,Try.results92,go_sem,cD20,cD21,cD22,cD23]) rfl ?_
     refine⟨rfl,?_⟩
     repeat' (refine Below.setCell ?_ (by simp;try omega) _)
     exact HD
   · go_wp2
     refine bodyPost_ret (v:= .tuple #[Sg u v x y,.bool true]) (by simp[results,Try.results92,go_sem,cD20,cD21,cD22,cD23]) rfl ?_
     refine⟨rfl,?_⟩
     repeat' (refine Below.setCell ?_ (by simp;try omega) _)
     exact HD
structure Kept (g:Nat) (w w' :World):Prop where
 os:w'.os=w.os
 tape:w'.tape=w.tape
 output:w'.output=w.output
 size:w.heap.size≤w'.heap.size
 block:∀k,k<w.heap.size→k≠g→w'.heap[k]? =w.heap[k]?
 other:∀j,j≠1→g<w.heap.size→w'.cell? ⟨g,j,none⟩=w.cell? ⟨g,j,none⟩
theorem Kept.refl (g:Nat) (w:World):Kept g w w:=⟨rfl,rfl,rfl,Nat.le_refl _,fun _ _ _=>rfl,fun _ _ _=>rfl⟩
theorem Kept.trans {g:Nat} {a b c:World} (h:Kept g a b) (k:Kept g b c):Kept g a c:=
 ⟨k.os.trans h.os,k.tape.trans h.tape,k.output.trans h.output,Nat.le_trans h.size k.size,fun i hi hg=>(k.block i (Nat.lt_of_lt_of_le hi h.size) hg).trans (h.block i hi hg),fun j hj hl=>(k.other j hj (Nat.lt_of_lt_of_le hl h.size)).trans (h.other j hj hl)⟩
theorem Kept.of {g:Nat} {a b:World} (h:Below a.heap.size a b):Kept g a b:=⟨h.os,h.tape,h.output,h.size,fun i hi _=>h.block i hi,fun j _ hl=>h.cell (p:=⟨g,j,none⟩) hl⟩
theorem Kept.drew {g:Nat} {a b:World} (h:Kept g a b):Kept g a b.drew:=⟨h.os,h.tape,h.output,h.size,h.block,h.other⟩
theorem Kept.drewN {g:Nat} {a b:World} (h:Kept g a b) (n:Nat):Kept g a (b.drewN n):=⟨h.os,h.tape,h.output,h.size,h.block,h.other⟩
theorem Kept.set {g:Nat} {a b:World} (h:Kept g a b) (u:Value):Kept g a (b.setCell ⟨g,1,none⟩ u):=
 ⟨h.os,h.tape,h.output,by simpa [World.setCell] using h.size,fun k hk hg=>(Below.heap_setCell _ _ _ _ hg).trans (h.block k hk hg),fun j hj hl=>(World.cell?_setCell_other _ _ _ _ (by intro e;simp only[Addr.mk.injEq] at e;omega)).trans (h.other j hj hl)⟩
theorem Kept.alloc {g:Nat} {a b:World} (h:Kept g a b) (o:Obj):Kept g a (b.alloc o):=h.trans (Kept.of ((Below.refl _ _).alloc (Nat.le_refl _) o))
theorem Kept.below {g B:Nat} {a b:World} (h:Kept g a b) (hB:B≤g) (hB' :B≤a.heap.size):Below B a b:=⟨h.os,h.tape,h.output,h.size,fun k hk=>h.block k (by omega) (by omega)⟩
theorem Blk.kept {W W' :World} {g h:Nat} {vs:List Value} (H:Blk W h vs) (k:Kept g W W') (hne:h≠g):Blk W' h vs:=by
 have e:=k.block h H.lt hne
 refine⟨Nat.lt_of_lt_of_le H.lt k.size,fun i v hi=>⟨?_,?_⟩⟩
 · exact(World.cell?_of_block (w:=W) e).trans (H.c i hi)
 · exact(World.frozen?_of_block (w:=W) e).trans (H.f i hi)
structure Rdr (w:World) (g:Nat) (ao:Option Addr) (n cap:Nat) (cs:List Int):Prop where
 blk:∃p:Nat,p≤n∧Blk w g [.slice ao n cap,.int .i64 p]
 bytes:∀i,(h:i<cs.length)→∃b off,ao=some ⟨b,off,none⟩∧b<g∧w.cell? ⟨b,off+i,none⟩=some (.int .u8 cs[i])
 len:cs.length=n
 small:n≤1048576
 byte:∀c∈cs,0≤c∧c<256
theorem Rdr.lt {w:World} {g:Nat} {ao:Option Addr} {n cap:Nat} {cs:List Int} (h:Rdr w g ao n cap cs):g<w.heap.size:=by
 obtain⟨p,_,B⟩:=h.blk
 exact B.lt
theorem Rdr.step {w w' :World} {g:Nat} {ao:Option Addr} {n cap:Nat} {cs:List Int} (h:Rdr w g ao n cap cs) (hB:Below w.heap.size w w'):Rdr w' g ao n cap cs:=by
 obtain⟨p,hp,B⟩:=h.blk
 refine⟨⟨p,hp,B.step hB⟩,fun i hi=>?_,h.len,h.small,h.byte⟩
 obtain⟨b,off,e,hb,hc⟩:=h.bytes i hi
 exact⟨b,off,e,hb,(hB.cell (p:=⟨b,off+i,none⟩) (show b<w.heap.size by have:=B.lt;omega)).trans hc⟩
theorem Rdr.alloc {w:World} {g:Nat} {ao:Option Addr} {n cap:Nat} {cs:List Int} (h:Rdr w g ao n cap cs) (o:Obj):Rdr (w.alloc o) g ao n cap cs:=h.step ((Below.refl _ _).alloc (Nat.le_refl _) o)
theorem Rdr.drew {w:World} {g:Nat} {ao:Option Addr} {n cap:Nat} {cs:List Int} (h:Rdr w g ao n cap cs):Rdr w.drew g ao n cap cs:=⟨h.blk,h.bytes,h.len,h.small,h.byte⟩
theorem Rdr.drewN {w:World} {g:Nat} {ao:Option Addr} {n cap:Nat} {cs:List Int} (h:Rdr w g ao n cap cs) (k:Nat):Rdr (w.drewN k) g ao n cap cs:=⟨h.blk,h.bytes,h.len,h.small,h.byte⟩
theorem Rdr.put {w:World} {g:Nat} {ao:Option Addr} {n cap:Nat} {cs:List Int} (h:Rdr w g ao n cap cs) (p:Nat) (hp:p≤n):Rdr (w.setCell ⟨g,1,none⟩ (.int .i64 p)) g ao n cap cs:=by
 obtain⟨q,hq,B⟩:=h.blk
 refine⟨⟨p,hp,B.setI 1 (by simp) _⟩,fun i hi=>?_,h.len,h.small,h.byte⟩
 obtain⟨b,off,e,hb,hc⟩:=h.bytes i hi
 exact⟨b,off,e,hb,(World.cell?_setCell_other _ _ _ _ (by intro e;simp only[Addr.mk.injEq] at e;omega)).trans hc⟩
def RdP (g:Nat) (ao:Option Addr) (n cap:Nat) (cs:List Int) (Q:Value→Prop) (w:World) (e:Ending) (w' :World):Prop:=∃v,e= .returned v∧Q v∧Rdr w' g ao n cap cs∧Kept g w w'
def IsIn (a b:Int) (v:Value):Prop:=∃x:Int,v= .int .i64 x∧a≤x∧x<b
theorem next_any (g:Nat) (ao:Option Addr) (n cap:Nat) (cs:List Int) (w:World) (h:Rdr w g ao n cap cs) :
   Calls Try.prog 106 #[.pointer (some ⟨g,0,none⟩)] w (RdP g ao n cap cs (IsIn 0 256) w):=by
 obtain⟨p,hp,B⟩:=h.blk
 have b0:=B.c 0 rfl;have b1:=B.c 1 rfl;have f1:=B.f 1 rfl;have bl:=B.lt
 by_cases hq:p<n
 · have hpl:p<cs.length:=by rw[h.len];exact hq
   obtain⟨b,off,rfl,hb,hc⟩:=h.bytes p hpl
   obtain⟨y0,y1⟩:=h.byte _ (List.getElem_mem hpl)
   have R:=fun k=>(h.drewN k).put (p+1) (by omega)
   have hs:=h.small
   generalize cs[p]=y at *
   have hne:g≠b:=by omega
   have i1:(p:Int)<n:=by omega
   clear h B
   go_enter Try.func106,Try.ntmps106
   go_wp2
   go_quiet (fail)
   go_wp2
   go_quiet (fail)
   go_wp2
   go_ret
   exact⟨_,rfl,⟨y,rfl,y0,y1⟩,(R _).drewN _,(((Kept.refl _ _).drewN _).set _).drewN _⟩
 · obtain rfl:p=n:=by omega
   have hs:=h.small
   go_enter Try.func106,Try.ntmps106
   go_wp2
   go_quiet (fail)
   go_wp2
   go_ret
   exact⟨_,rfl,⟨0,rfl,by decide,by decide⟩,h.drewN _,(Kept.refl _ _).drewN _⟩
theorem below_any (m:Int) (h2:2≤m) (h256:m≤256) (g:Nat) (ao:Option Addr) (n cap:Nat) (cs:List Int) (w:World) (h:Rdr w g ao n cap cs) :
   Calls Try.prog 87 #[.pointer (some ⟨g,0,none⟩),.int .i64 m] w (RdP g ao n cap cs (IsIn 0 m) w):=by
 go_enter Try.func87,Try.ntmps87
 go_wp2_with fail
 all_goals first | (exfalso;omega) | skip
 refine(next_any g ao n cap cs _ h).mono ?_
 rintro e w1 ⟨_,rfl,⟨x,rfl,x0,x1⟩,R,K⟩
 have hm:m≠0:=by omega
 go_wp2
 go_ret
 exact⟨_,rfl,⟨x%m,rfl,Int.emod_nonneg _ hm,Int.emod_lt_of_pos _ (by omega)⟩,R,K⟩
theorem or_word {a b:Int} (ha:Word a) (hb:Word b):Word (bits .or .u64 a b):=by
 obtain⟨a0,a1⟩:=ha
 obtain⟨b0,b1⟩:=hb
 obtain⟨a,rfl⟩:=Int.eq_ofNat_of_zero_le a0
 obtain⟨b,rfl⟩:=Int.eq_ofNat_of_zero_le b0
 rw[bits_or_u64_nat a b (by omega) (by omega)]
 have:=Nat.or_lt_two_pow (n:=64) (x:=a) (y:=b) (by omega) (by omega)
 exact⟨by omega,by omega⟩
def IsWord (v:Value):Prop:=∃x:Int,v= .int .u64 x∧Word x
def IsBool (v:Value):Prop:=∃b,v= .bool b
theorem once_any (m:Int) (h2:2≤m) (h256:m≤256) (g:Nat) (ao:Option Addr) (n cap:Nat) (cs:List Int) (w:World) (h:Rdr w g ao n cap cs) :
   Calls Try.prog 88 #[.pointer (some ⟨g,0,none⟩),.int .i64 m] w (RdP g ao n cap cs IsBool w):=by
 go_enter Try.func88,Try.ntmps88
 go_wp2_with fail
 refine(below_any m h2 h256 g ao n cap cs _ h).mono ?_
 rintro e w1 ⟨_,rfl,⟨x,rfl,x0,x1⟩,R,K⟩
 go_wp2
 go_ret
 exact⟨_,rfl,⟨_,rfl⟩,R,K⟩
theorem word_any (g:Nat) (ao:Option Addr) (n cap:Nat) (cs:List Int) (w:World) (h:Rdr w g ao n cap cs) :
   Calls Try.prog 107 #[.pointer (some ⟨g,0,none⟩)] w (RdP g ao n cap cs IsWord w):=by
 go_enter Try.func107,Try.ntmps107
 go_wp2
 go_loopw [3,4] (fun o i wr=>∃(k:Nat) (x:Int),k≤8∧i= .int .i64 k∧o= .int .u64 x∧Word x∧Rdr wr g ao n cap cs∧Kept g w wr) (fun _ i _=>8-(intOf i).toNat)
 case atStart=>exact⟨0,0,by omega,rfl,rfl,⟨by decide,by decide⟩,h,Kept.refl _ _⟩
 case round=>
   clear h
   obtain⟨k,x,hk,rfl,rfl,hx,R,K⟩:=hrel
   by_cases hk8:k<8
   · have i1:(k:Int)<8:=by omega
     go_wp2_with fail
     refine(next_any g ao n cap cs _ R).mono ?_
     rintro e w1 ⟨_,rfl,⟨y,rfl,y0,y1⟩,R1,K1⟩
     replace K:=K.trans K1
     clear R K1
     have hy:IntKind.u64.wrap y=y:=by rw[IntKind.wrap_u64];omega
     have OW:=or_word (a:=IntKind.u64.wrap (x*256)) (b:=y) (by rw[IntKind.wrap_u64];exact⟨by omega,by omega⟩) ⟨y0,by omega⟩
     clear hx
     go_wp2
     go_roundw
     case rel=>exact⟨k+1,_,by omega,by go_num,rfl,OW,R1,K⟩
     case measure=>simp[intOf];omega
   · obtain rfl:k=8:=by omega
     go_wp2
     go_ret
     exact⟨_,rfl,⟨x,rfl,hx⟩,R,K⟩
theorem Rdr.setN {w:World} {g:Nat} {ao:Option Addr} {n cap:Nat} {cs:List Int} (h:Rdr w g ao n cap cs) {p:Addr} (hp:g<p.block) (u:Value):Rdr (w.setCell p u) g ao n cap cs:=by
 obtain⟨q,hq,B⟩:=h.blk
 refine⟨⟨q,hq,B.setO (by omega) u⟩,fun i hi=>?_,h.len,h.small,h.byte⟩
 obtain⟨b,off,e,hb,hc⟩:=h.bytes i hi
 exact⟨b,off,e,hb,(World.cell?_setCell_other _ _ _ _ (by intro e;rw[e] at hp;simp at hp;omega)).trans hc⟩
theorem Kept.setN {g:Nat} {a b:World} (h:Kept g a b) {p:Addr} (hp:a.heap.size≤p.block) (hg:g≠p.block) (u:Value):Kept g a (b.setCell p u):=
 ⟨h.os,h.tape,h.output,by simpa [World.setCell] using h.size,fun k hk hne=>(Below.heap_setCell _ _ _ _ (by omega)).trans (h.block k hk hne),fun j hj hl=>(World.cell?_setCell_other _ _ _ _ (by intro e;rw[e] at hg;exact hg rfl)).trans (h.other j hj hl)⟩
structure Code (w:World) (ao:Option Addr) (n:Nat) (cs:List Int):Prop where
 bytes:∀i,(h:i<cs.length)→∃b off,ao=some ⟨b,off,none⟩∧b<w.heap.size∧w.cell? ⟨b,off+i,none⟩=some (.int .u8 cs[i])
 len:cs.length=n
 small:n≤1048576
 byte:∀c∈cs,0≤c∧c<256
theorem Code.below {w w' :World} {ao:Option Addr} {n:Nat} {cs:List Int} (h:Code w ao n cs) (hB:Below w.heap.size w w'):Code w' ao n cs:=by
 refine⟨fun i hi=>?_,h.len,h.small,h.byte⟩
 obtain⟨b,off,e,hb,hc⟩:=h.bytes i hi
 exact⟨b,off,e,Nat.lt_of_lt_of_le hb hB.size,(hB.cell (p:=⟨b,off+i,none⟩) hb).trans hc⟩
def OpenP (ao:Option Addr) (n cap:Nat) (cs:List Int) (w:World) (e:Ending) (w' :World):Prop:=∃G,e= .returned (.pointer (some ⟨G,0,none⟩))∧w.heap.size≤G∧Rdr w' G ao n cap cs∧Below w.heap.size w w'
theorem open_any (ao:Option Addr) (n cap:Nat) (cs:List Int) (w:World) (h:Code w ao n cs) :
   Calls Try.prog 50 #[.slice ao n cap] w (OpenP ao n cap cs w):=by
 go_enter Try.func50,Try.ntmps50
 go_wp2
 go_ret
 refine⟨w.heap.size,rfl,Nat.le_refl _,⟨⟨0,Nat.zero_le _,Blk.new w [.slice ao n cap,.int .i64 0] 132 rfl⟩,fun i hi=>?_,h.len,h.small,h.byte⟩,(Below.refl _ _).alloc (Nat.le_refl _) _⟩
 obtain⟨b,off,e,hb,hc⟩:=h.bytes i hi
 exact⟨b,off,e,hb,cell_alloc hb hc⟩
theorem near_pm (g:Nat) (ao:Option Addr) (n cap:Nat) (cs:List Int) (w:World) (h:Rdr w g ao n cap cs) :
   Calls Try.prog 90 #[.pointer (some ⟨g,0,none⟩),.int .i64 (-1000000),.int .i64 1000000] w (RdP g ao n cap cs (IsIn (-1000000) 1000001) w):=by
 go_enter Try.func90,Try.ntmps90
 go_wp2_with fail
 refine(below_any 8 (by decide) (by decide) g ao n cap cs _ h).mono ?_
 rintro e w1 ⟨_,rfl,⟨x,rfl,x0,x1⟩,R,K⟩
 clear h
 by_cases h0:x=0
 · subst h0
   go_wp2
   go_ret
   exact⟨_,rfl,⟨_,rfl,by decide,by decide⟩,R,K⟩
 · by_cases h1:x=1
   · subst h1
     go_wp2
     go_ret
     exact⟨_,rfl,⟨_,rfl,by decide,by decide⟩,R,K⟩
   · have e0:(x==0)=false:=by simpa using h0
     have e1:(x==1)=false:=by simpa using h1
     go_wp2_with fail
     refine(word_any g ao n cap cs _ R).mono ?_
     rintro e w2 ⟨_,rfl,⟨y,rfl,y0,y1⟩,R2,K2⟩
     replace K:=K.trans K2
     clear R K2
     have hw:IntKind.u64.wrap 2000001=2000001:=by rw[IntKind.wrap_u64];decide
     go_wp2
     go_ret
     exact⟨_,rfl,⟨_,rfl,by omega,by omega⟩,R2,K⟩
theorem near_p6 (g:Nat) (ao:Option Addr) (n cap:Nat) (cs:List Int) (w:World) (h:Rdr w g ao n cap cs) :
   Calls Try.prog 90 #[.pointer (some ⟨g,0,none⟩),.int .i64 (-6),.int .i64 6] w (RdP g ao n cap cs (IsIn (-6) 7) w):=by
 go_enter Try.func90,Try.ntmps90
 go_wp2_with fail
 refine(below_any 8 (by decide) (by decide) g ao n cap cs _ h).mono ?_
 rintro e w1 ⟨_,rfl,⟨x,rfl,x0,x1⟩,R,K⟩
 clear h
 by_cases h0:x=0
 · subst h0
   go_wp2
   go_ret
   exact⟨_,rfl,⟨_,rfl,by decide,by decide⟩,R,K⟩
 · by_cases h1:x=1
   · subst h1
     go_wp2
     go_ret
     exact⟨_,rfl,⟨_,rfl,by decide,by decide⟩,R,K⟩
   · have e0:(x==0)=false:=by simpa using h0
     have e1:(x==1)=false:=by simpa using h1
     go_wp2_with fail
     refine(word_any g ao n cap cs _ R).mono ?_
     rintro e w2 ⟨_,rfl,⟨y,rfl,y0,y1⟩,R2,K2⟩
     replace K:=K.trans K2
     clear R K2
     have hw:IntKind.u64.wrap 13=13:=by rw[IntKind.wrap_u64];decide
     go_wp2
     go_ret
     exact⟨_,rfl,⟨_,rfl,by omega,by omega⟩,R2,K⟩
def IsSp6 (v:Value):Prop:=∃x y:Int,v= .agg #[.int .i64 x,.int .i64 y]∧-6≤x∧x<7∧-6≤y∧y<7
theorem spot_any (g:Nat) (ao:Option Addr) (n cap:Nat) (cs:List Int) (w:World) (h:Rdr w g ao n cap cs) :
   Calls Try.prog 91 #[.pointer (some ⟨g,0,none⟩)] w (RdP g ao n cap cs IsSp6 w):=by
 have hg:=h.lt
 have hne:w.heap.size≠g:=by omega
 have B:=Blk.new w [.int .i64 0,.int .i64 0] 38 rfl
 have R:=h.alloc (.cells #[.int .i64 0,.int .i64 0] 38)
 have K:=(Kept.refl g w).alloc (.cells #[.int .i64 0,.int .i64 0] 38)
 clear h
 go_enter Try.func91,Try.ntmps91
 go_wp2_with fail
 refine(near_p6 g ao n cap cs _ R).mono ?_
 rintro e w1 ⟨_,rfl,⟨y,rfl,y0,y1⟩,R1,K1⟩
 replace B:=B.kept K1 hne;replace K:=K.trans K1
 clear R K1
 have R:=R1
 clear R1
 go_wp2_with fail
 refine(near_p6 g ao n cap cs _ R).mono ?_
 rintro e w2 ⟨_,rfl,⟨y',rfl,y0',y1'⟩,R1,K1⟩
 replace B:=B.kept K1 hne;replace K:=K.trans K1
 clear R K1
 have R:=R1
 clear R1
 have o0:=B.c 0 rfl;have f0:=B.f 0 rfl;have o1:=B.c 1 rfl;have f1:=B.f 1 rfl;have ol:=B.lt
 clear B
 go_wp2
 refine bodyPost_ret (v:= .agg #[.int .i64 y,.int .i64 y']) (by simp[results,Try.results91,go_sem,o0,o1]) rfl ?_
 exact⟨_,rfl,⟨y,y',rfl,y0,y1,y0',y1'⟩,(R.setN (by exact hg) _).setN (by exact hg) _,(K.setN (by simp) (by simp;omega) _).setN (by simp) (by simp;omega) _⟩
def I64 (x:Int):Prop:=-9223372036854775808≤x∧x≤9223372036854775807
def IsI (v:Value):Prop:=∃x:Int,v= .int .i64 x∧I64 x
def IsSg (v:Value):Prop:=∃a b c d:Int,v= .agg #[.int .i64 a,.int .i64 b,.int .i64 c,.int .i64 d]∧I64 a∧I64 b∧I64 c∧I64 d
theorem off_any (g:Nat) (ao:Option Addr) (n cap:Nat) (cs:List Int) (w:World) (R:Rdr w g ao n cap cs) :
   Calls Try.prog 54 #[.pointer (some ⟨g,0,none⟩),.int .i64 (-1000000),.int .i64 1000000] w (RdP g ao n cap cs IsI w):=by
 go_enter Try.func54,Try.ntmps54
 go_wp2_with fail
 refine(once_any 24 (by decide) (by decide) g ao n cap cs _ R).mono ?_
 rintro e w1 ⟨_,rfl,⟨b,rfl⟩,R1,K⟩
 clear R
 cases b
 · go_wp2_with fail
   refine(near_pm g ao n cap cs _ R1).mono ?_
   rintro e w2 ⟨_,rfl,⟨x,rfl,x0,x1⟩,R2,K2⟩
   replace K:=K.trans K2
   clear R1 K2
   go_wp2
   go_ret
   exact⟨_,rfl,⟨x,rfl,by constructor<;>omega⟩,R2,K⟩
 · have G:=Blk.new w1 [.int .i64 (-1000001),.int .i64 1000001,.int .i64 (-9223372036854775808),.int .i64 9223372036854775807] 2 rfl
   rw[show([.int .i64 (-1000001),.int .i64 1000001,.int .i64 (-9223372036854775808),.int .i64 9223372036854775807]:List Value).toArray=#[.int .i64 (-1000001),.int .i64 1000001,.int .i64 (-9223372036854775808),.int .i64 9223372036854775807] from rfl] at G
   have hgl:=R1.lt
   have hgn:w1.heap.size≠g:=by omega
   have R:=R1.alloc (.cells #[.int .i64 (-1000001),.int .i64 1000001,.int .i64 (-9223372036854775808),.int .i64 9223372036854775807] 2)
   replace K:=K.alloc (.cells #[.int .i64 (-1000001),.int .i64 1000001,.int .i64 (-9223372036854775808),.int .i64 9223372036854775807] 2)
   clear R1
   go_wp2_with fail
   refine(below_any 4 (by decide) (by decide) g ao n cap cs _ R).mono ?_
   rintro e w6 ⟨_,rfl,⟨j,rfl,j0,j1⟩,R6,K6⟩
   replace G:=G.kept K6 hgn
   replace K:=K.trans K6
   obtain⟨k,rfl⟩:∃k:Nat,j=k:=⟨j.toNat,by omega⟩
   obtain⟨u,hu,hus⟩:∃u:Int,w6.cell? ⟨w1.heap.size,k,none⟩=some (.int .i64 u)∧I64 u:=by
     rcases(by omega:k=0∨k=1∨k=2∨k=3) with rfl | rfl | rfl | rfl
     · exact⟨_,G.c 0 rfl,by constructor<;>decide⟩
     · exact⟨_,G.c 1 rfl,by constructor<;>decide⟩
     · exact⟨_,G.c 2 rfl,by constructor<;>decide⟩
     · exact⟨_,G.c 3 rfl,by constructor<;>decide⟩
   clear G R K6
   go_wp2
   go_ret
   exact⟨_,rfl,⟨u,rfl,hus⟩,R6,K⟩
theorem segOf_ex (x y u v:Int) (hx:I64 x) (hy:I64 y) (hu:I64 u) (hv:I64 v):∃a b c d k,I64 a∧I64 b∧I64 c∧I64 d∧∀w,Calls Try.prog 92 #[.agg #[.int .i64 x,.int .i64 y],.agg #[.int .i64 u,.int .i64 v]] w (VP (.tuple #[.agg #[.int .i64 a,.int .i64 b,.int .i64 c,.int .i64 d],.bool k]) w):=by
 have hz:I64 0:=by constructor<;>decide
 refine⟨_,_,_,_,_,?_,?_,?_,?_,fun w=>specSegOf_any x y u v _ _ _ _ _ _ rfl rfl rfl rfl rfl rfl w⟩
 all_goals
   generalize lessI u v x y=l
   generalize segOk _ _ _ _=k
   cases k<;>cases l<;>first | exact hz | exact hx | exact hy | exact hu | exact hv
theorem eqSpo (x y u v:Int) (w:World):(Op.equalIn 10000 38 (.agg #[.int .i64 x,.int .i64 y]) (.agg #[.int .i64 u,.int .i64 v])).run Try.prog w= .ok (decide (x=u)&&decide (y=v)) w:=by
 have u3:=Try.underlying2
 have a3:=Try.isAgg2
 have z3:=Try.sizeOf2
 rw[show(10000:Nat)=9999+1 from rfl,Op.equalIn]
 simp only[Sem.run_bind,run_underlying Try.underlying38,Result.andThen_ok]
 go_simp
 by_cases h3:x=u
 · subst h3
   by_cases h2:y=v
   · subst h2
     simp
   · simp[h2]
 · simp[h3]
theorem seg_any (g:Nat) (ao:Option Addr) (n cap:Nat) (cs:List Int) (w:World) (h:Rdr w g ao n cap cs) :
   Calls Try.prog 89 #[.pointer (some ⟨g,0,none⟩)] w (RdP g ao n cap cs IsSg w):=by
 have hg:=h.lt
 have hne:w.heap.size≠g:=by omega
 have B:=Blk.new w [.int .i64 0,.int .i64 0,.int .i64 0,.int .i64 0] 40 rfl
 rw[show([.int .i64 0,.int .i64 0,.int .i64 0,.int .i64 0]:List Value).toArray=#[.int .i64 0,.int .i64 0,.int .i64 0,.int .i64 0] from rfl] at B
 have R:=h.alloc (.cells #[.int .i64 0,.int .i64 0,.int .i64 0,.int .i64 0] 40)
 have K:=(Kept.refl g w).alloc (.cells #[.int .i64 0,.int .i64 0,.int .i64 0,.int .i64 0] 40)
 clear h
 go_enter Try.func89,Try.ntmps89
 go_wp2_with fail
 refine(below_any 20 (by decide) (by decide) g ao n cap cs _ R).mono ?_
 rintro e w1 ⟨_,rfl,⟨v,rfl,v0,v1⟩,R1,K1⟩
 replace K:=K.trans K1
 replace B:=B.kept K1 hne
 clear R K1
 have R:=R1
 clear R1
 by_cases hv0:v=0
 · subst hv0
   go_wp2_with fail
   refine(off_any g ao n cap cs _ R).mono ?_
   rintro e w2 ⟨_,rfl,⟨a,rfl,ia⟩,R1,K1⟩
   replace K:=K.trans K1
   replace B:=B.kept K1 hne
   clear R K1
   have R:=R1
   clear R1
   go_wp2_with fail
   refine(off_any g ao n cap cs _ R).mono ?_
   rintro e w3 ⟨_,rfl,⟨b,rfl,ib⟩,R1,K1⟩
   replace K:=K.trans K1
   replace B:=B.kept K1 hne
   clear R K1
   have R:=R1
   clear R1
   go_wp2_with fail
   refine(off_any g ao n cap cs _ R).mono ?_
   rintro e w4 ⟨_,rfl,⟨c,rfl,ic⟩,R1,K1⟩
   replace K:=K.trans K1
   replace B:=B.kept K1 hne
   clear R K1
   have R:=R1
   clear R1
   go_wp2_with fail
   refine(off_any g ao n cap cs _ R).mono ?_
   rintro e w5 ⟨_,rfl,⟨d,rfl,id⟩,R1,K1⟩
   replace K:=K.trans K1
   replace B:=B.kept K1 hne
   clear R K1
   have R:=R1
   clear R1
   have o0:=B.c 0 rfl;have f0:=B.f 0 rfl;have o1:=B.c 1 rfl;have f1:=B.f 1 rfl;have o2:=B.c 2 rfl;have f2:=B.f 2 rfl;have o3:=B.c 3 rfl;have f3:=B.f 3 rfl;have ol:=B.lt
   clear B
   go_wp2
   refine bodyPost_ret (v:= .agg #[.int .i64 a,.int .i64 b,.int .i64 c,.int .i64 d]) (by simp[results,Try.results89,go_sem,o0,o1,o2,o3]) rfl ?_
   exact⟨_,rfl,⟨_,_,_,_,rfl,ia,ib,ic,id⟩,(((R.setN (by exact hg) _).setN (by exact hg) _).setN (by exact hg) _).setN (by exact hg) _,(((K.setN (by simp) (by simp;omega) _).setN (by simp) (by simp;omega) _).setN (by simp) (by simp;omega) _).setN (by simp) (by simp;omega) _⟩
 · have b0 :(v==0)=false:=beq_eq_false_iff_ne.2 hv0
   by_cases hv1:v=1
   · subst hv1
     go_wp2_with fail
     refine(near_pm g ao n cap cs _ R).mono ?_
     rintro e w2 ⟨_,rfl,⟨x,rfl,x0,x1⟩,R1,K1⟩
     replace K:=K.trans K1
     replace B:=B.kept K1 hne
     clear R K1
     have R:=R1
     clear R1
     go_wp2_with fail
     refine(near_pm g ao n cap cs _ R).mono ?_
     rintro e w3 ⟨_,rfl,⟨y,rfl,y0,y1⟩,R1,K1⟩
     replace K:=K.trans K1
     replace B:=B.kept K1 hne
     clear R K1
     have R:=R1
     clear R1
     go_wp2_with fail
     refine(near_pm g ao n cap cs _ R).mono ?_
     rintro e w4 ⟨_,rfl,⟨u,rfl,u0,u1⟩,R1,K1⟩
     replace K:=K.trans K1
     replace B:=B.kept K1 hne
     clear R K1
     have R:=R1
     clear R1
     go_wp2_with fail
     refine(near_pm g ao n cap cs _ R).mono ?_
     rintro e w5 ⟨_,rfl,⟨z,rfl,z0,z1⟩,R1,K1⟩
     replace K:=K.trans K1
     replace B:=B.kept K1 hne
     clear R K1
     have R:=R1
     clear R1
     obtain⟨a,b,c,d,k,ia,ib,ic,id,CS⟩:=segOf_ex x y u z (by constructor<;>omega) (by constructor<;>omega) (by constructor<;>omega) (by constructor<;>omega)
     go_wp2_with fail
     refine(CS _).mono ?_
     rintro e w6 ⟨rfl,hB⟩
     replace R:=R.step hB
     replace K:=K.trans (Kept.of hB)
     replace B:=B.step hB
     clear hB
     clear CS
     have X:=Blk.new w6 [.int .i64 a,.int .i64 b,.int .i64 c,.int .i64 d] 40 rfl
     rw[show([.int .i64 a,.int .i64 b,.int .i64 c,.int .i64 d]:List Value).toArray=#[.int .i64 a,.int .i64 b,.int .i64 c,.int .i64 d] from rfl] at X
     replace R:=R.alloc (.cells #[.int .i64 a,.int .i64 b,.int .i64 c,.int .i64 d] 40)
     replace K:=K.alloc (.cells #[.int .i64 a,.int .i64 b,.int .i64 c,.int .i64 d] 40)
     replace B:=B.alloc (.cells #[.int .i64 a,.int .i64 b,.int .i64 c,.int .i64 d] 40)
     obtain⟨c0,c1,c2,c3⟩:=X.cs4
     have xl:=B.lt
     clear X
     have o0:=B.c 0 rfl;have f0:=B.f 0 rfl;have o1:=B.c 1 rfl;have f1:=B.f 1 rfl;have o2:=B.c 2 rfl;have f2:=B.f 2 rfl;have o3:=B.c 3 rfl;have f3:=B.f 3 rfl;have ol:=B.lt
     clear B
     go_wp2
     refine bodyPost_ret (v:= .agg #[.int .i64 a,.int .i64 b,.int .i64 c,.int .i64 d]) (by simp[results,Try.results89,go_sem,o0,o1,o2,o3]) rfl ?_
     exact⟨_,rfl,⟨_,_,_,_,rfl,ia,ib,ic,id⟩,(((R.setN (by exact hg) _).setN (by exact hg) _).setN (by exact hg) _).setN (by exact hg) _,(((K.setN (by simp) (by simp;omega) _).setN (by simp) (by simp;omega) _).setN (by simp) (by simp;omega) _).setN (by simp) (by simp;omega) _⟩
   · have b1:(v==1)=false:=beq_eq_false_iff_ne.2 hv1
     by_cases hv2:v=2
     · subst hv2
       go_wp2_with fail
       refine(spot_any g ao n cap cs _ R).mono ?_
       rintro e w2 ⟨_,rfl,⟨x,y,rfl,x0,x1,y0,y1⟩,R1,K1⟩
       replace K:=K.trans K1
       replace B:=B.kept K1 hne
       clear R K1
       have R:=R1
       clear R1
       go_wp2_with fail
       refine(spot_any g ao n cap cs _ R).mono ?_
       rintro e w3 ⟨_,rfl,⟨u,z,rfl,u0,u1,z0,z1⟩,R1,K1⟩
       replace K:=K.trans K1
       replace B:=B.kept K1 hne
       clear R K1
       have R:=R1
       clear R1
       have o0:=B.c 0 rfl;have f0:=B.f 0 rfl;have o1:=B.c 1 rfl;have f1:=B.f 1 rfl;have o2:=B.c 2 rfl;have f2:=B.f 2 rfl;have o3:=B.c 3 rfl;have f3:=B.f 3 rfl;have ol:=B.lt
       clear B
       go_wp2
       refine bodyPost_ret (v:= .agg #[.int .i64 x,.int .i64 y,.int .i64 u,.int .i64 z]) (by simp[results,Try.results89,go_sem,o0,o1,o2,o3]) rfl ?_
       exact⟨_,rfl,⟨_,_,_,_,rfl,(by constructor<;>omega),(by constructor<;>omega),(by constructor<;>omega),(by constructor<;>omega)⟩,(((R.setN (by exact hg) _).setN (by exact hg) _).setN (by exact hg) _).setN (by exact hg) _,(((K.setN (by simp) (by simp;omega) _).setN (by simp) (by simp;omega) _).setN (by simp) (by simp;omega) _).setN (by simp) (by simp;omega) _⟩
     · have b2:(v==2)=false:=beq_eq_false_iff_ne.2 hv2
       go_wp2_with fail
       refine(spot_any g ao n cap cs _ R).mono ?_
       rintro e w2 ⟨_,rfl,⟨x,y,rfl,x0,x1,y0,y1⟩,R1,K1⟩
       replace K:=K.trans K1
       replace B:=B.kept K1 hne
       clear R K1
       have R:=R1
       clear R1
       have gl2:=R.lt
       have hn2:w2.heap.size≠g:=by omega
       have X2:=Blk.new w2 [.int .i64 x,.int .i64 y] 38 rfl
       rw[show([.int .i64 x,.int .i64 y]:List Value).toArray=#[.int .i64 x,.int .i64 y] from rfl] at X2
       replace R:=R.alloc (.cells #[.int .i64 x,.int .i64 y] 38)
       replace K:=K.alloc (.cells #[.int .i64 x,.int .i64 y] 38)
       replace B:=B.alloc (.cells #[.int .i64 x,.int .i64 y] 38)
       go_wp2_with fail
       refine(spot_any g ao n cap cs _ R).mono ?_
       rintro e w3 ⟨_,rfl,⟨u,z,rfl,u0,u1,z0,z1⟩,R1,K1⟩
       replace K:=K.trans K1
       replace B:=B.kept K1 hne
       replace X2:=X2.kept K1 hn2
       clear R K1
       have R:=R1
       clear R1
       have gl3:=R.lt
       have x2l:=X2.lt
       have hwl:=B.lt
       have Y2:=X2
       have YB:=B
       have YR:=R
       have YK:=K
       have X3:=Blk.new w3 [.int .i64 u,.int .i64 z] 38 rfl
       rw[show([.int .i64 u,.int .i64 z]:List Value).toArray=#[.int .i64 u,.int .i64 z] from rfl] at X3
       replace R:=R.alloc (.cells #[.int .i64 u,.int .i64 z] 38)
       replace K:=K.alloc (.cells #[.int .i64 u,.int .i64 z] 38)
       replace B:=B.alloc (.cells #[.int .i64 u,.int .i64 z] 38)
       replace X2:=X2.alloc (.cells #[.int .i64 u,.int .i64 z] 38)
       have E:=eqSpo x y u z
       have n32:¬(w3.heap.size=w2.heap.size):=by omega
       have n23:¬(w2.heap.size=w3.heap.size):=by omega
       by_cases he:x=u∧y=z
       · rw[decide_eq_true he.1,decide_eq_true he.2] at E
         obtain⟨e1,e2⟩:=he
         have wr:IntKind.i64.wrap (u+1)=u+1:=by rw[IntKind.wrap_i64];omega
         obtain⟨p0,p1⟩:=X2.cs2
         obtain⟨r0,rf0,r1,rf1⟩:=X3.cf2
         have x3l:=X3.lt
         obtain⟨a,b,c,d,k,ia,ib,ic,id,CS⟩:=segOf_ex x y (u+1) z (by constructor<;>omega) (by constructor<;>omega) (by constructor<;>omega) (by constructor<;>omega)
         clear e1 e2
         go_upto_region 13 with fail
         clear p0 p1 r0 rf0 r1 rf1 X2 X3 E B R K x3l
         have X2:=Y2.alloc (.cells #[.int .i64 (u+1),.int .i64 z] 38)
         have B:=YB.alloc (.cells #[.int .i64 (u+1),.int .i64 z] 38)
         have R:=YR.alloc (.cells #[.int .i64 (u+1),.int .i64 z] 38)
         have K:=YK.alloc (.cells #[.int .i64 (u+1),.int .i64 z] 38)
         have X3:=Blk.new w3 [.int .i64 (u+1),.int .i64 z] 38 rfl
         rw[show([.int .i64 (u+1),.int .i64 z]:List Value).toArray=#[.int .i64 (u+1),.int .i64 z] from rfl] at X3
         clear Y2 YB YR YK
         obtain⟨p0,p1⟩:=X2.cs2
         obtain⟨r0,r1⟩:=X3.cs2
         go_wp2_with fail
         clear p0 p1 r0 r1 X2 X3
         generalize (w3.alloc (.cells #[.int .i64 (u+1),.int .i64 z] 38))=W3 at *
         refine(CS _).mono ?_
         rintro e w4 ⟨rfl,hB⟩
         replace R:=R.step hB
         replace K:=K.trans (Kept.of hB)
         replace B:=B.step hB
         clear hB CS
         have X:=Blk.new w4 [.int .i64 a,.int .i64 b,.int .i64 c,.int .i64 d] 40 rfl
         rw[show([.int .i64 a,.int .i64 b,.int .i64 c,.int .i64 d]:List Value).toArray=#[.int .i64 a,.int .i64 b,.int .i64 c,.int .i64 d] from rfl] at X
         replace R:=R.alloc (.cells #[.int .i64 a,.int .i64 b,.int .i64 c,.int .i64 d] 40)
         replace K:=K.alloc (.cells #[.int .i64 a,.int .i64 b,.int .i64 c,.int .i64 d] 40)
         replace B:=B.alloc (.cells #[.int .i64 a,.int .i64 b,.int .i64 c,.int .i64 d] 40)
         obtain⟨c0,c1,c2,c3⟩:=X.cs4
         have xl:=B.lt
         clear X
         have o0:=B.c 0 rfl;have f0:=B.f 0 rfl;have o1:=B.c 1 rfl;have f1:=B.f 1 rfl;have o2:=B.c 2 rfl;have f2:=B.f 2 rfl;have o3:=B.c 3 rfl;have f3:=B.f 3 rfl;have ol:=B.lt
         clear B
         go_wp2
         refine bodyPost_ret (v:= .agg #[.int .i64 a,.int .i64 b,.int .i64 c,.int .i64 d]) (by simp[results,Try.results89,go_sem,o0,o1,o2,o3]) rfl ?_
         exact⟨_,rfl,⟨_,_,_,_,rfl,ia,ib,ic,id⟩,(((R.setN (by exact hg) _).setN (by exact hg) _).setN (by exact hg) _).setN (by exact hg) _,(((K.setN (by simp) (by simp;omega) _).setN (by simp) (by simp;omega) _).setN (by simp) (by simp;omega) _).setN (by simp) (by simp;omega) _⟩
       · have E' :∀w,(Op.equalIn 10000 38 (.agg #[.int .i64 x,.int .i64 y]) (.agg #[.int .i64 u,.int .i64 z])).run Try.prog w= .ok false w:=by
           intro w
           rw[E w]
           congr 1
           simp only[Bool.and_eq_false_iff,decide_eq_false_iff_not]
           omega
         obtain⟨p0,p1⟩:=X2.cs2
         obtain⟨r0,r1⟩:=X3.cs2
         obtain⟨a,b,c,d,k,ia,ib,ic,id,CS⟩:=segOf_ex x y u z (by constructor<;>omega) (by constructor<;>omega) (by constructor<;>omega) (by constructor<;>omega)
         clear he E Y2 YB YR YK
         go_wp2_with fail
         clear p0 p1 r0 r1 X2 X3 E'
         generalize (w3.alloc (.cells #[.int .i64 u,.int .i64 z] 38))=W3 at *
         refine(CS _).mono ?_
         rintro e w4 ⟨rfl,hB⟩
         replace R:=R.step hB
         replace K:=K.trans (Kept.of hB)
         replace B:=B.step hB
         clear hB CS
         have X:=Blk.new w4 [.int .i64 a,.int .i64 b,.int .i64 c,.int .i64 d] 40 rfl
         rw[show([.int .i64 a,.int .i64 b,.int .i64 c,.int .i64 d]:List Value).toArray=#[.int .i64 a,.int .i64 b,.int .i64 c,.int .i64 d] from rfl] at X
         replace R:=R.alloc (.cells #[.int .i64 a,.int .i64 b,.int .i64 c,.int .i64 d] 40)
         replace K:=K.alloc (.cells #[.int .i64 a,.int .i64 b,.int .i64 c,.int .i64 d] 40)
         replace B:=B.alloc (.cells #[.int .i64 a,.int .i64 b,.int .i64 c,.int .i64 d] 40)
         obtain⟨c0,c1,c2,c3⟩:=X.cs4
         have xl:=B.lt
         clear X
         have o0:=B.c 0 rfl;have f0:=B.f 0 rfl;have o1:=B.c 1 rfl;have f1:=B.f 1 rfl;have o2:=B.c 2 rfl;have f2:=B.f 2 rfl;have o3:=B.c 3 rfl;have f3:=B.f 3 rfl;have ol:=B.lt
         clear B
         go_wp2
         refine bodyPost_ret (v:= .agg #[.int .i64 a,.int .i64 b,.int .i64 c,.int .i64 d]) (by simp[results,Try.results89,go_sem,o0,o1,o2,o3]) rfl ?_
         exact⟨_,rfl,⟨_,_,_,_,rfl,ia,ib,ic,id⟩,(((R.setN (by exact hg) _).setN (by exact hg) _).setN (by exact hg) _).setN (by exact hg) _,(((K.setN (by simp) (by simp;omega) _).setN (by simp) (by simp;omega) _).setN (by simp) (by simp;omega) _).setN (by simp) (by simp;omega) _⟩
end Go.Proofs.Ytjhapeidafbncaa
