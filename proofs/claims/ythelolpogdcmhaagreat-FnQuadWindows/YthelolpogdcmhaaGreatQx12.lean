/- Part 12 of the walks that the proof leans on. -/
import Derived.Test.YthelolpogdcmhaaGreatQx11
import Derived.Test.YthelolpogdcmhaaGreatQx5
import Derived.Test.YthelolpogdcmhaaGreatQx1
import Derived.Deep.QuietTactic
set_option maxRecDepth 100000
set_option maxHeartbeats 16000000
namespace Go.Proofs.YthelolpogdcmhaaGreat
open Go.RowKit
theorem kL_more {Q:QD} {FL:List Nat} {x y s:Int} {c i:Nat} (h:FL[c]? =some i):idL Q (flQ Q (FL.take (c+1)) x y s)=idL Q (flQ Q (FL.take c) x y s) ++(if hitQ Q x y s i=true then[Q.I i] else[]):=by
 unfold flQ idL;rw[List.take_add_one,h,List.filter_append,List.map_append];cases hh:hitQ Q x y s i<;>simp[hh]
theorem kL_len (Q:QD) (FL:List Nat) (x y s:Int) (c:Nat):(idL Q (flQ Q (FL.take c) x y s)).length≤c:=by
 unfold flQ idL;rw[List.length_map];exact Nat.le_trans (List.length_filter_le _ _) (by rw[List.length_take];omega)
theorem idL_get {Q:QD} {FL:List Nat} {c i:Nat} (h:FL[c]? =some i):(idL Q FL).getD c 0=Q.I i:=by
 unfold idL;rw[List.getD_eq_getElem?_getD,List.getElem?_map,h]
 rfl
theorem rise_ne {Q:QD} (h:riseI Q) {i:Nat} (hi:i<Q.m):∀k,k<i→Q.I k≠Q.I i:=fun k hk=>by
 have h1:=rise_lt h (i-k-1) k (by omega);rw[show k+(i-k-1)+1=i by omega] at h1
 omega
theorem kL_end {Q:QD} {x y s:Int} (hs:0≤s) {k:Nat} (hk:k<4) {FL:List Nat} (hF:flQ Q (List.range Q.m) x y s=FL) {n:Nat} (hn:FL.length=n):idL Q (flQ Q (FL.take n) (kX x (s / 2) k) (kY y (s / 2) k) (s / 2))=canL Q (kX x (s / 2) k) (kY y (s / 2) k) (s / 2):=by
 rw[←hn,List.take_length,←hF,fl_kid hs hk]
 rfl
theorem l13Put_split (Q:QD) (x y s mx D z a bb cc d:Int) (ao eo:Option Addr) (cap ec:Nat) (A B:List Int) (hq:Sq x y s) (ia:In6 a) (ib:In6 bb) (ic:In6 cc) (id:In6 d) (hh:hitB a bb cc d x y (x+s) (y+s)=true) (hm:(A ++z::B).length≤1048576) (hA:∀u∈A,u<z) (hB0:∀u∈B,z<u) (w:World) (hN:NoIn w eo (A ++B).length (fun i=>(A ++B).getD i 0)) (hC:A ++z::B=canL Q x y s) (hQm:Q.m≤1048576) (h6:Its6 Q (List.range Q.m)) (hri:riseI Q) (hS:ItIn Q w ao (List.range Q.m)) (hst:¬(((A ++z::B).length:Int)≤mx)) (hd1:¬(D<1)):Calls Tryz.prog 60 #[.agg #[.int .i64 x,.int .i64 y,.int .i64 s,.slice none 0 0,.slice eo (A ++B).length ec],.slice ao Q.m cap,.int .i64 z,Sg a bb cc d,.int .i64 mx,.int .i64 D] w (PuM (fun _=>False) (.node (fun k=> .leaf (canL Q (kX x (s / 2) k) (kY y (s / 2) k) (s / 2)))) x y s w):=by
 obtain⟨i0,hi0,hz0,hz1,hz2⟩:=info_b13;obtain⟨iN,hN0,hN1,hN2,hN3⟩:=info_parts Tryz.infoNo;obtain⟨FL,hFL⟩:∃FL,flQ Q (List.range Q.m) x y s=FL:=⟨_,rfl⟩;have HC:Hid (A ++z::B=idL Q FL):=by show _=_;rw[hC,←hFL];rfl
 have HFM:Hid (∀i∈FL,i<Q.m):=fun i hi=>by rw[←hFL] at hi;exact List.mem_range.1 (List.mem_filter.1 hi).1
 have HFL:Hid (flQ Q (List.range Q.m) x y s=FL):=hFL;have HS:Hid (ItIn Q w ao (List.range Q.m)):=hS;have HRI:Hid (riseI Q):=hri;have HQM:Hid (Q.m≤1048576):=hQm;clear hFL hC hS hri;have HH:Hid (hitB a bb cc d x y (x+s) (y+s)=true):=hh;have hl1:(A ++z::B).length=(A ++B).length+1:=by simp;omega
 obtain⟨en,hen⟩:∃en,(A ++B).length=en:=⟨_,rfl⟩;obtain⟨n1,hn1⟩:∃n1,(A ++z::B).length=n1:=⟨_,rfl⟩;have C0:∀W,Below w.heap.size w W→Calls Tryz.prog 91 #[.slice eo en ec,.int .i64 z] W (fun r w2=>∃v,r= .returned v∧w2.ownsRow W.heap.size 2 1 v n1 ((A ++z::B).map (Value.int .i64))∧Below W.heap.size W w2):=fun W h=>by
  have h2:=l7WithL_any eo ec A B z (by omega) hA hB0 W (hN.step h);rw[hen,hn1] at h2;exact h2
 rw[hn1] at hm hst;rw[hen,hn1] at hl1;rw[hen];have HEN:Hid ((A ++B).length=en):=hen;have HN1:Hid ((A ++z::B).length=n1):=hn1;have HLX:Hid (n1=en+1):=hl1;have hnI:(n1:Int)≤1048576:=by omega
 clear hen hn1 hl1 hN hA hB0 hh;have B0:Blk (((w.alloc (.cells #[.int .i64 x,.int .i64 y,.int .i64 s,.slice none 0 0,.slice eo en ec] 62)).alloc (.cells #[.int .i64 a,.int .i64 bb,.int .i64 cc,.int .i64 d] 38)).alloc (.cells #[.int .i64 0,.int .i64 0,.int .i64 0,.slice none 0 0,.slice none 0 0] 62)) w.heap.size [.int .i64 x,.int .i64 y,.int .i64 s,.slice none 0 0,.slice eo en ec]:=((Blk.new w [.int .i64 x,.int .i64 y,.int .i64 s,.slice none 0 0,.slice eo en ec] 62 rfl).alloc _).alloc _;have B1:Blk (((w.alloc (.cells #[.int .i64 x,.int .i64 y,.int .i64 s,.slice none 0 0,.slice eo en ec] 62)).alloc (.cells #[.int .i64 a,.int .i64 bb,.int .i64 cc,.int .i64 d] 38)).alloc (.cells #[.int .i64 0,.int .i64 0,.int .i64 0,.slice none 0 0,.slice none 0 0] 62)) (w.heap.size+1) [.int .i64 a,.int .i64 bb,.int .i64 cc,.int .i64 d]:=(Blk.new (w.alloc (.cells #[.int .i64 x,.int .i64 y,.int .i64 s,.slice none 0 0,.slice eo en ec] 62)) [.int .i64 a,.int .i64 bb,.int .i64 cc,.int .i64 d] 38 (by simp)).alloc _;have B2:Blk (((w.alloc (.cells #[.int .i64 x,.int .i64 y,.int .i64 s,.slice none 0 0,.slice eo en ec] 62)).alloc (.cells #[.int .i64 a,.int .i64 bb,.int .i64 cc,.int .i64 d] 38)).alloc (.cells #[.int .i64 0,.int .i64 0,.int .i64 0,.slice none 0 0,.slice none 0 0] 62)) (w.heap.size+2) [.int .i64 0,.int .i64 0,.int .i64 0,.slice none 0 0,.slice none 0 0]:=Blk.new ((w.alloc (.cells #[.int .i64 x,.int .i64 y,.int .i64 s,.slice none 0 0,.slice eo en ec] 62)).alloc (.cells #[.int .i64 a,.int .i64 bb,.int .i64 cc,.int .i64 d] 38)) [.int .i64 0,.int .i64 0,.int .i64 0,.slice none 0 0,.slice none 0 0] 62 (by simp);have HB:Below w.heap.size w (((w.alloc (.cells #[.int .i64 x,.int .i64 y,.int .i64 s,.slice none 0 0,.slice eo en ec] 62)).alloc (.cells #[.int .i64 a,.int .i64 bb,.int .i64 cc,.int .i64 d] 38)).alloc (.cells #[.int .i64 0,.int .i64 0,.int .i64 0,.slice none 0 0,.slice none 0 0] 62)):=(((Below.refl _ w).alloc (Nat.le_refl _) _).alloc (by simp) _).alloc (by simp;omega) _
 go_enter Tryz.func60,Tryz.ntmps60
 go_upto_region 1 with fail;generalize (((w.alloc (.cells #[.int .i64 x,.int .i64 y,.int .i64 s,.slice none 0 0,.slice eo en ec] 62)).alloc (.cells #[.int .i64 a,.int .i64 bb,.int .i64 cc,.int .i64 d] 38)).alloc (.cells #[.int .i64 0,.int .i64 0,.int .i64 0,.slice none 0 0,.slice none 0 0] 62))=W1 at *;have m0:=B0.c 0 rfl;have m1:=B0.c 1 rfl;have m2:=B0.c 2 rfl;have m3:=B0.c 3 rfl;have m4:=B0.c 4 rfl;have n0:=B1.c 0 rfl;have n1_1:=B1.c 1 rfl;have n2:=B1.c 2 rfl;have n3:=B1.c 3 rfl;go_wp2_with fail;refine(l13Meets_any x y s none eo 0 0 en ec a bb cc d hq ia ib ic id W1).mono ?_;rintro r w1 ⟨rfl,hB1⟩;rw[HH.out];clear m0 m1 m2 m3 m4 n0 n1_1 n2 n3;have hsz:w.heap.size+2<W1.heap.size:=B2.lt;replace B0:=B0.step hB1;replace B1:=B1.step hB1;replace B2:=B2.step hB1;replace HB:=HB.trans (hB1.mono HB.size);have hsz1:=hB1.size;have C:=C0 w1 HB;clear C0;have m0:=B0.c 0 rfl;have m1:=B0.c 1 rfl;have m2:=B0.c 2 rfl;have m3:=B0.c 3 rfl;have m4:=B0.c 4 rfl;go_wp2_with fail;refine C.mono ?_;rintro r w2 ⟨v,rfl,hown,hB2⟩;clear C m0 m1 m2 m3 m4;obtain⟨eo1,ec1,rfl⟩:=ownQ_slice hown;replace B0:=B0.step hB2;replace B1:=B1.step hB2;replace B2:=B2.step hB2;replace HB:=HB.trans (hB2.mono HB.size);have hsz2:=hB2.size;have hI:IdV (fun b=>w1.heap.size≤b) w2 (.slice eo1 n1 ec1) (A ++z::B):=IdV.of (by rw[HN1.out];exact hown);have HOW:Hid (∀b,(Value.slice eo1 n1 ec1).ownBlock=some b→w1.heap.size≤b∧b<w2.heap.size):=fun b hb=>hown.lt b hb;clear hown;have m0:=B0.c 0 rfl;have m1:=B0.c 1 rfl;have m2:=B0.c 2 rfl;have m3:=B0.c 3 rfl;have m4:=B0.c 4 rfl;have y0:=B0.f 0 rfl;have y1:=B0.f 1 rfl;have y2:=B0.f 2 rfl;have y3:=B0.f 3 rfl;have y4:=B0.f 4 rfl;have B0N:Blk (w2.setCell ⟨w.heap.size,4,none⟩ (.slice eo1 n1 ec1)) w.heap.size [.int .i64 x,.int .i64 y,.int .i64 s,.slice none 0 0,.slice eo1 n1 ec1]:=B0.setI 4 (by simp) _;have B1N:Blk (w2.setCell ⟨w.heap.size,4,none⟩ (.slice eo1 n1 ec1)) (w.heap.size+1) [.int .i64 a,.int .i64 bb,.int .i64 cc,.int .i64 d]:=B1.keep (by simp[World.setCell]) (Below.heap_setCell _ _ _ _ (by show w.heap.size+1≠w.heap.size;omega));have B2N:Blk (w2.setCell ⟨w.heap.size,4,none⟩ (.slice eo1 n1 ec1)) (w.heap.size+2) [.int .i64 0,.int .i64 0,.int .i64 0,.slice none 0 0,.slice none 0 0]:=B2.keep (by simp[World.setCell]) (Below.heap_setCell _ _ _ _ (by show w.heap.size+2≠w.heap.size;omega));have HBN:Below w.heap.size w (w2.setCell ⟨w.heap.size,4,none⟩ (.slice eo1 n1 ec1)):=HB.setCell (Nat.le_refl _) _;have hIN:IdV (fun b=>w1.heap.size≤b) (w2.setCell ⟨w.heap.size,4,none⟩ (.slice eo1 n1 ec1)) (.slice eo1 n1 ec1) (A ++z::B):=hI.keep (by simp[World.setCell]) (fun b hb _=>Below.heap_setCell _ _ _ _ (by show b≠w.heap.size;omega)) (fun _ h _=>h);clear B0 B1 B2 HB hI;go_upto_region 12 with fail;generalize (w2.setCell ⟨w.heap.size,4,none⟩ (.slice eo1 n1 ec1))=W4 at *;clear m0 m1 m2 m3 m4 y0 y1 y2 y3 y4;rw[HC.out] at hIN;have hI2:IdV (fun b=>w.heap.size+2<b∧b<W4.heap.size) W4 (.slice eo1 n1 ec1) (idL Q FL):=hIN.keep (Nat.le_refl _) (fun _ _ _=>rfl) (fun b hb hl=>⟨by omega,hl⟩);have HFN:Hid (FL.length=n1):=by show _=_;rw[←HN1.out,HC.out];exact(List.length_map _).symm
 have hW4:w.heap.size+2<W4.heap.size:=B2N.lt;have HIA:Hid (∀A1 o1 sp,eo1=some ⟨A1,o1,sp⟩→w.heap.size+2<A1∧A1<W4.heap.size):=fun A1 o1 sp e=>by
  obtain⟨a1,c1,e1,_,_,h5⟩:=hI2;simp only[Value.slice.injEq] at e1;exact(h5 A1 o1 sp (e1.1▸e)).1
 obtain⟨hf,hhf⟩:∃hf,s / 2=hf:=⟨_,rfl⟩;have HHF:Hid (s / 2=hf):=hhf;have m4:=B0N.c 4 rfl;clear hIN HOW hB1 hB2 hsz1 hsz2 HLX HEN HN1 HC HH B1N hhf;go_wp2_with fail;clear m4
 go_loopw [15] (fun ik wr=>∃(k:Nat) (kv:Value) (evf:Nat→Value),k≤4∧ik= .int .i64 k∧Blk wr w.heap.size [.int .i64 x,.int .i64 y,.int .i64 s,kv,.slice eo1 n1 ec1]∧Blk wr (w.heap.size+2) [.int .i64 0,.int .i64 0,.int .i64 0,.slice none 0 0,.slice none 0 0]∧IdV (fun b=>w.heap.size+2<b∧b<W4.heap.size) wr (.slice eo1 n1 ec1) (idL Q FL)∧wr.ownsRow W4.heap.size 62 5 kv k (kdL x y hf (fun _=> .slice none 0 0) evf k)∧(∀j,j<k→IdV (okK (w.heap.size+2) kv) wr (evf j) (canL Q (kX x hf j) (kY y hf j) hf))∧Below w.heap.size w wr∧W4.heap.size≤wr.heap.size) (fun i _=>4-(intOf i).toNat)
 case atStart=>exact⟨0,.slice none 0 0,fun _=> .slice none 0 0,by omega,rfl,B0N,B2N,hI2,World.ownsRow_nil _ _ _ _,fun j hj=>absurd hj (by omega),HBN,Nat.le_refl _⟩
 case round=>
  clear B0N B2N hI2 HBN;obtain⟨k,kv,evf,hk,rfl,BG,BR,HI,HO,HM,HB,h4s⟩:=hrel
  by_cases hk4:k<4
  · have hkI:(k:Int)<4:=by omega
    obtain⟨wv0,wv1,wv2⟩:=kid_wrap hq HHF.out hk4;obtain⟨wk,rfl⟩:∃wk,wk=wr:=⟨wr,rfl⟩;obtain⟨ao9,cap9,rfl⟩:=ownQ_slice HO;have m0:=BG.c 0 rfl;have m1:=BG.c 1 rfl;have m2:=BG.c 2 rfl;have m3:=BG.c 3 rfl;have m4:=BG.c 4 rfl;go_upto_region 18 with fail;rw[wv0,wv1,wv2];have BK:Blk (wk.alloc (.cells #[.int .i64 (kX x hf k),.int .i64 (kY y hf k),.int .i64 hf,.slice none 0 0,.slice none 0 0] 62)) wk.heap.size [.int .i64 (kX x hf k),.int .i64 (kY y hf k),.int .i64 hf,.slice none 0 0,.slice none 0 0]:=Blk.new wk [.int .i64 (kX x hf k),.int .i64 (kY y hf k),.int .i64 hf,.slice none 0 0,.slice none 0 0] 62 rfl;have HBK:Below wk.heap.size wk (wk.alloc (.cells #[.int .i64 (kX x hf k),.int .i64 (kY y hf k),.int .i64 hf,.slice none 0 0,.slice none 0 0] 62)):=(Below.refl _ wk).alloc (Nat.le_refl _) _;have hsq:=hq.kid hk4;rw[HHF.out] at hsq;have hPl:w.heap.size+2<wk.heap.size:=BR.lt;have hkvb:Hid (∀b,(Value.slice ao9 k cap9).ownBlock=some b→W4.heap.size≤b∧b<wk.heap.size):=fun b hb=>HO.lt b hb;have HMr:Hid (∀j,j<k→IdV (okK (w.heap.size+2) (.slice ao9 k cap9)) wk (evf j) (canL Q (kX x hf j) (kY y hf j) hf)):=HM;replace BG:=BG.step HBK;replace BR:=BR.step HBK;replace HI:=HI.step HBK;replace HO:=ownA_step HO HBK;replace HB:=HB.trans (HBK.mono (by omega));have hK5:=HBK.size;have hK6:wk.heap.size<(wk.alloc (.cells #[.int .i64 (kX x hf k),.int .i64 (kY y hf k),.int .i64 hf,.slice none 0 0,.slice none 0 0] 62)).heap.size:=BK.lt;clear HM wv0 wv1 wv2 m0 m1 m2 m3 m4;generalize (wk.alloc (.cells #[.int .i64 (kX x hf k),.int .i64 (kY y hf k),.int .i64 hf,.slice none 0 0,.slice none 0 0] 62))=W5 at *;have m4:=BG.c 4 rfl;go_wp2_with fail;clear m4
    go_loopw [17] (fun ic wr=>∃(c:Nat) (ev:Value),c≤n1∧ic= .int .i64 c∧Blk wr wk.heap.size [.int .i64 (kX x hf k),.int .i64 (kY y hf k),.int .i64 hf,.slice none 0 0,ev]∧wr.ownsRow W5.heap.size 2 1 ev (idL Q (flQ Q (FL.take c) (kX x hf k) (kY y hf k) hf)).length ((idL Q (flQ Q (FL.take c) (kX x hf k) (kY y hf k) hf)).map (Value.int .i64))∧Below wk.heap.size W5 wr) (fun i _=>n1+1-(intOf i).toNat)
    case atStart=>exact⟨0,.slice none 0 0,Nat.zero_le _,rfl,BK,World.ownsRow_nil _ _ _ _,Below.refl _ _⟩
    case round=>
     clear BK;obtain⟨c,ev,hc,rfl,BK,HOK,HBz⟩:=hrel;obtain⟨go9,gc9,rfl⟩:=ownQ_slice HOK;replace BG:=BG.below HBz (by omega);replace BR:=BR.below HBz (by omega);replace HI:=HI.below HBz (fun b hb=>by omega);have hKl:wk.heap.size<wr.heap.size:=BK.lt;have hW5:=HBz.size;have m4:=BG.c 4 rfl
     by_cases hcn:c<n1
     · have hcI:(c:Int)<n1:=by omega
       obtain⟨iq,hiq⟩:∃iq,FL[c]? =some iq:=⟨_,List.getElem?_eq_getElem (by rw[HFN.out];exact hcn)⟩;have HIQ:Hid (FL[c]? =some iq):=hiq;have hiqm:iq<Q.m:=HFM.out iq (List.mem_of_getElem? hiq);obtain⟨s1,s2,s3,s4⟩:=h6 iq (List.mem_range.2 hiqm);obtain⟨eoI,ecI,he,hN,_,_⟩:=HI;simp only[Value.slice.injEq] at he;obtain⟨rfl,hln,rfl⟩:=he;obtain⟨A1,o1,rfl,hA1,hcell⟩:=hN c (by rw[←hln];exact hcn)
       dsimp only at hcell
       rw[idL_get hiq] at hcell;have hSg:∀W,Below wr.heap.size wr W→Calls Tryz.prog 92 #[.slice ao Q.m cap,.int .i64 (Q.I iq)] W (VP (Sg (Q.S iq).1 (Q.S iq).2.1 (Q.S iq).2.2.1 (Q.S iq).2.2.2) W):=fun W h=>l13Seg_any Q ao cap iq HQM.out hiqm (rise_ne HRI.out hiqm) W (HS.out.step (HB.trans ((HBz.mono (by omega)).trans (h.mono (by omega)))));have hlen:(idL Q (flQ Q (FL.take c) (kX x hf k) (kY y hf k) hf)).length≤n1:=Nat.le_trans (kL_len _ _ _ _ _ _) hc;clear hiq hN hln;go_upto_region 21 with fail;refine qpA (K:=wk.heap.size) (P:=w.heap.size) (E0:=A1) (eoff:=o1) (en:=n1) (ec:=ec1) (c:=c) (m:=Q.m) (cap:=cap) (gn:=(idL Q (flQ Q (FL.take c) (kX x hf k) (kY y hf k) hf)).length) (gc:=gc9) (ao:=ao) (go:=go9) (x:=kX x hf k) (y:=kY y hf k) (sz:=hf) (z:=Q.I iq) (a:=(Q.S iq).1) (bb:=(Q.S iq).2.1) (cc:=(Q.S iq).2.2.1) (d:=(Q.S iq).2.2.2) hcn (by omega) hsq s1 s2 s3 s4 hSg rfl rfl rfl rfl (BK.c 0 rfl) hKl (BK.c 1 rfl) hKl (BK.c 2 rfl) hKl (BK.c 3 rfl) hKl (BK.c 4 rfl) hKl (BG.c 4 rfl) (by show w.heap.size<wr.heap.size;omega) hcell hA1 rfl ?_;rintro⟨tm,df⟩ Wz hz hdf hoff h106 hBz;simp only at hz hdf hoff h106;change tm.getD 106 undef= .bool (hitQ Q (kX x hf k) (kY y hf k) hf iq) at h106;subst hdf;have htm:=tmps_fold [98,99,100,101,102,103,104,105,106] tm _ hz hoff;simp only[List.foldl,List.setIfInBounds_toArray,List.set_cons_zero,List.set_cons_succ,h106] at htm;clear hz hoff;generalize tm.getD 98 undef=pa0,tm.getD 99 undef=pa1,tm.getD 100 undef=pa2,tm.getD 101 undef=pa3,tm.getD 102 undef=pa4,tm.getD 103 undef=pa5,tm.getD 104 undef=pa6,tm.getD 105 undef=pa7 at htm;clear h106;subst htm;replace BG:=BG.step hBz;replace BR:=BR.step hBz;replace BK:=BK.step hBz;have HOK2:=ownA_step HOK hBz;have HBz2:=HBz.trans (hBz.mono (by omega));have hcell2:=(hBz.cell (p:=⟨A1,o1+c,none⟩) hA1).trans hcell;have hWzs:=hBz.size;have hKL:w.heap.size+2<A1∧A1<wk.heap.size:=by
        have:=HIA.out A1 o1 none rfl
        omega
       clear m4 hcell HOK HBz hSg s1 s2 s3 s4 hBz;cases hh:hitQ Q (kX x hf k) (kY y hf k) hf iq with
       | false=>
        have HKL:Hid ((idL Q (flQ Q (FL.take c) (kX x hf k) (kY y hf k) hf))=(idL Q (flQ Q (FL.take (c+1)) (kX x hf k) (kY y hf k) hf))):=by show _=_;rw[kL_more HIQ.out,hh];simp
        clear hh;go_wp2;go_roundw
        case rel=>exact⟨c+1,.slice go9 _ gc9,by omega,by go_num,BK,by rw[←HKL.out];exact HOK2,HBz2⟩
        case measure=>simp[intOf];omega
       | true=>
        have HKL:Hid ((idL Q (flQ Q (FL.take (c+1)) (kX x hf k) (kY y hf k) hf))=(idL Q (flQ Q (FL.take c) (kX x hf k) (kY y hf k) hf)) ++[Q.I iq]):=by show _=_;rw[kL_more HIQ.out,hh];simp
        clear hh;go_upto_region 22 with fail;refine qpB (i0:=iN) (Kb:=wk.heap.size) (P:=w.heap.size) (E0:=A1) (eoff:=o1) (en:=n1) (ec:=ec1) (c:=c) (n:=(idL Q (flQ Q (FL.take c) (kX x hf k) (kY y hf k) hf)).length) (base:=W5.heap.size) (z:=Q.I iq) (o:= .slice go9 (idL Q (flQ Q (FL.take c) (kX x hf k) (kY y hf k) hf)).length gc9) (Lz:=(idL Q (flQ Q (FL.take c) (kX x hf k) (kY y hf k) hf)).map (Value.int .i64)) (kd:=[.int .i64 (kX x hf k),.int .i64 (kY y hf k),.int .i64 hf,.slice none 0 0,.slice go9 (idL Q (flQ Q (FL.take c) (kX x hf k) (kY y hf k) hf)).length gc9]) (Wd:=Wz.drew) hN0 hN1 hN2 hN3 hcn (by omega) (by omega) (by omega) (by omega) (ownA_step HOK2 ((Below.refl _ Wz).drew)) (BK.step ((Below.refl _ Wz).drew)) rfl rfl rfl rfl rfl rfl (BG.c 4 rfl) (by show w.heap.size<wk.heap.size;omega) hcell2 hKL.2 rfl ?_;rintro⟨tm,df⟩ Wy hz hdf hoff _ hBy ⟨aoN,capN,hKN,hON⟩;simp only at hz hdf hoff;subst hdf;have htm:=tmps_fold [107,108,109,110,111,112,113,114,115,116] tm _ hz hoff;simp only[List.foldl,List.setIfInBounds_toArray,List.set_cons_zero,List.set_cons_succ] at htm;clear hz hoff;generalize tm.getD 107 undef=pb0,tm.getD 108 undef=pb1,tm.getD 109 undef=pb2,tm.getD 110 undef=pb3,tm.getD 111 undef=pb4,tm.getD 112 undef=pb5,tm.getD 113 undef=pb6,tm.getD 114 undef=pb7,tm.getD 115 undef=pb8,tm.getD 116 undef=pb9 at htm;subst htm;have HBy:=HBz2.trans hBy;clear HOK2 HBz2 BK hcell2;go_wp2;go_roundw
        case rel=>exact⟨c+1,.slice aoN _ capN,by omega,by go_num,hKN,by rw[HKL.out,List.length_append,List.map_append];exact hON,HBy⟩
        case measure=>simp[intOf];omega
     · obtain rfl:n1=c:=by omega
       have hke:=kL_end hq.s1 hk4 HFL.out HFN.out;rw[HHF.out] at hke;rw[hke] at HOK BK;have hIe:IdV (fun b=>W5.heap.size≤b) wr (.slice go9 (canL Q (kX x hf k) (kY y hf k) hf).length gc9) (canL Q (kX x hf k) (kY y hf k) hf):=IdV.of HOK;obtain⟨q,hq9⟩:∃q,(canL Q (kX x hf k) (kY y hf k) hf).length=q:=⟨_,rfl⟩;rw[hq9] at hIe BK;have HO6:=ownA_step (ownQ_heap HO (fun b hb=>HBz.block b (hkvb.out b hb).2)) ((Below.refl _ _).alloc (Nat.le_refl _) (.cells #[.int .i64 (kX x hf k),.int .i64 (kY y hf k),.int .i64 hf,.slice none 0 0,.slice go9 q gc9] 62));have BG6:=BG.alloc (.cells #[.int .i64 (kX x hf k),.int .i64 (kY y hf k),.int .i64 hf,.slice none 0 0,.slice go9 q gc9] 62);have BR6:=BR.alloc (.cells #[.int .i64 (kX x hf k),.int .i64 (kY y hf k),.int .i64 hf,.slice none 0 0,.slice go9 q gc9] 62);have HB6:=(HB.trans (HBz.mono (by omega))).alloc (show w.heap.size≤wr.heap.size by omega) (.cells #[.int .i64 (kX x hf k),.int .i64 (kY y hf k),.int .i64 hf,.slice none 0 0,.slice go9 q gc9] 62);have hs6:Hid ((wr.alloc (.cells #[.int .i64 (kX x hf k),.int .i64 (kY y hf k),.int .i64 hf,.slice none 0 0,.slice go9 q gc9] 62)).heap.size=wr.heap.size+1):=by show(wr.alloc _).heap.size=_;simp
       have p0:=BK.c 0 rfl;have p1:=BK.c 1 rfl;have p2:=BK.c 2 rfl;have p3:=BK.c 3 rfl;have p4:=BK.c 4 rfl;have g3:=BG.c 3 rfl;clear hke HOK hq9;go_upto_region 23 with fail
       go_wp2_with (at_builtin;go_loud (refine wpList_append_own_at _ rfl _ _ 60 rfl W4.heap.size 62 i0 (.agg #[.int .i64 0,.int .i64 0,.int .i64 0,.slice none 0 0,.slice none 0 0]) 5 72 Tryz.underlying60 hi0 hz0 hz1 hz2 rfl (by decide) _ _ _ rfl HO6 ⟨wr.heap.size,0,none⟩ 1 1 [.int .i64 (kX x hf k),.int .i64 (kY y hf k),.int .i64 hf,.slice none 0 0,.slice go9 q gc9] rfl rfl (new_cells _ _ _) (one5 _ _ _ _ _ _ _ _ _) (by unfold maxLen;omega) (by omega) (by have:=hs6.out;omega) ?_))
       clear m4;intro v' w' hown hgrow _ hob;have hold:∀b,b<wr.heap.size→some b≠(Value.slice ao9 k cap9).ownBlock→w'.heap[b]? =wr.heap[b]? :=fun b hb hne=>(hgrow.block b (by have:=hs6.out;omega) hne).trans (((Below.refl wr.heap.size wr).alloc (Nat.le_refl _) _).block b hb);have hsz5:wr.heap.size≤w'.heap.size:=by have h:=hgrow.size;have:=hs6.out;omega
       have HKN:Hid (∀j,j<k+1→IdV (okK (w.heap.size+2) v') w' (setV evf k (.slice go9 q gc9) j) (canL Q (kX x hf j) (kY y hf j) hf)):=fun j hj=>by
        by_cases e2:j=k
        · subst e2;rw[show setV evf j (.slice go9 q gc9) j= .slice go9 q gc9 from if_pos rfl];refine hIe.keep hsz5 (fun b hb hb2=>hold b hb2 (fun e3=>by have:=hkvb.out b e3.symm;omega)) (fun b hb hb2=>⟨by omega,fun e3=>?_⟩)
          rcases hob with h | h
          · rw[h] at e3;have:=hkvb.out b e3.symm;omega
          · rw[h] at e3;have:=Option.some.inj e3;have:=hs6.out;omega
        · rw[show setV evf k (.slice go9 q gc9) j=evf j from if_neg e2];refine IdV.keep (HMr.out j (by omega)) (by omega) (fun b hb hb2=>((hold b (by omega) hb.2).trans (HBz.block b hb2)).trans (HBK.block b hb2)) (fun b hb hb2=>⟨hb.1,fun e3=>?_⟩)
          rcases hob with h | h
          · rw[h] at e3;exact hb.2 e3
          · rw[h] at e3;have:=Option.some.inj e3;have:=hs6.out;omega
       obtain⟨ao',cap',rfl⟩:=ownQ_slice hown;have hnil:(setV (fun _=> .slice none 0 0) k (.slice none 0 0):Nat→Value)=(fun _=> .slice none 0 0):=by funext j;unfold setV;split<;>rfl
       rw[←kdL_set,hnil] at hown;have BG7:=BG6.grown hgrow (fun e3=>by have:=hkvb.out w.heap.size e3.symm;omega);have BR7:=BR6.grown hgrow (fun e3=>by have:=hkvb.out (w.heap.size+2) e3.symm;omega);have HI7:=HI.keep (ok' :=(fun b=>w.heap.size+2<b∧b<W4.heap.size)) hsz5 (fun b hb hb2=>hold b hb2 (fun e3=>by have:=hkvb.out b e3.symm;omega)) (fun _ h _=>h);have HB7:=HB6.grown hgrow (by have:=hs6.out;omega) (fun b hb=>by have:=hkvb.out b hb;omega);have g3f:=BG7.f 3 rfl;have g3c:=BG7.c 3 rfl;have hne0:∀b,w.heap.size<b→(w'.setCell ⟨w.heap.size,3,none⟩ (.slice ao' (k+1) cap')).heap[b]? =w'.heap[b]? :=fun b hb=>Below.heap_setCell _ _ _ _ (by show b≠w.heap.size;omega);have hsS:w'.heap.size≤(w'.setCell ⟨w.heap.size,3,none⟩ (.slice ao' (k+1) cap')).heap.size:=by simp[World.setCell]
       have BGN:Blk (w'.setCell ⟨w.heap.size,3,none⟩ (.slice ao' (k+1) cap')) w.heap.size [.int .i64 x,.int .i64 y,.int .i64 s,.slice ao' (k+1) cap',.slice eo1 n1 ec1]:=BG7.setI 3 (by simp) _;have BRN:Blk (w'.setCell ⟨w.heap.size,3,none⟩ (.slice ao' (k+1) cap')) (w.heap.size+2) [.int .i64 0,.int .i64 0,.int .i64 0,.slice none 0 0,.slice none 0 0]:=BR7.keep hsS (hne0 _ (by omega));have HIN:IdV (fun b=>w.heap.size+2<b∧b<W4.heap.size) (w'.setCell ⟨w.heap.size,3,none⟩ (.slice ao' (k+1) cap')) (.slice eo1 n1 ec1) (idL Q FL):=HI7.keep hsS (fun b hb _=>hne0 b (by omega)) (fun _ h _=>h);have HON:(w'.setCell ⟨w.heap.size,3,none⟩ (.slice ao' (k+1) cap')).ownsRow W4.heap.size 62 5 (.slice ao' (k+1) cap') (k+1) (kdL x y hf (fun _=> .slice none 0 0) (setV evf k (.slice go9 q gc9)) (k+1)):=ownQ_heap hown (fun b hb=>hne0 b (by have:=(hown.lt b hb).1;omega));have HMN:Hid (∀j,j<k+1→IdV (okK (w.heap.size+2) (.slice ao' (k+1) cap')) (w'.setCell ⟨w.heap.size,3,none⟩ (.slice ao' (k+1) cap')) (setV evf k (.slice go9 q gc9) j) (canL Q (kX x hf j) (kY y hf j) hf)):=fun j hj=>(HKN.out j hj).keep hsS (fun b hb _=>hne0 b (by have:=hb.1;omega)) (fun _ h _=>h);have HBN:Below w.heap.size w (w'.setCell ⟨w.heap.size,3,none⟩ (.slice ao' (k+1) cap')):=HB7.setCell (Nat.le_refl _) _;have hsN:W4.heap.size≤(w'.setCell ⟨w.heap.size,3,none⟩ (.slice ao' (k+1) cap')).heap.size:=by omega
       clear HKN BG7 BR7 HI7 HB7 hown hgrow hob hold hsz5 HO6 BG6 BR6 HB6 hs6 p0 p1 p2 p3 p4 g3 hIe hne0 hsS hnil BG BR HI BK;go_wp2;go_roundw
       case rel=>exact⟨k+1,.slice ao' (k+1) cap',setV evf k (.slice go9 q gc9),by omega,by go_num,BGN,BRN,HIN,HON,HMN.out,HBN,hsN⟩
       case measure=>simp[intOf];omega
  · obtain rfl:k=4:=by omega
    obtain⟨gk,ck,rfl,hgk1,hgk2,_,_⟩:=ownQ_form HO (by omega);have hPl:w.heap.size+2<wr.heap.size:=BR.lt;have m0:=BG.c 0 rfl;have m1:=BG.c 1 rfl;have m2:=BG.c 2 rfl;have m3:=BG.c 3 rfl;have m4:=BG.c 4 rfl;have y0:=BG.f 0 rfl;have y1:=BG.f 1 rfl;have y2:=BG.f 2 rfl;have y3:=BG.f 3 rfl;have y4:=BG.f 4 rfl;have B0N:Blk (wr.setCell ⟨w.heap.size,4,none⟩ (.slice none 0 0)) w.heap.size [.int .i64 x,.int .i64 y,.int .i64 s,.slice (some ⟨gk,0,none⟩) 4 ck,.slice none 0 0]:=BG.setI 4 (by simp) _;have B2N:Blk (wr.setCell ⟨w.heap.size,4,none⟩ (.slice none 0 0)) (w.heap.size+2) [.int .i64 0,.int .i64 0,.int .i64 0,.slice none 0 0,.slice none 0 0]:=BR.keep (by simp[World.setCell]) (Below.heap_setCell _ _ _ _ (by show w.heap.size+2≠w.heap.size;omega));have HBN:Below w.heap.size w (wr.setCell ⟨w.heap.size,4,none⟩ (.slice none 0 0)):=HB.setCell (Nat.le_refl _) _;have hne0:∀b,w.heap.size+2<b→(wr.setCell ⟨w.heap.size,4,none⟩ (.slice none 0 0)).heap[b]? =wr.heap[b]? :=fun b hb=>Below.heap_setCell _ _ _ _ (by show b≠w.heap.size;omega);have hsS:wr.heap.size≤(wr.setCell ⟨w.heap.size,4,none⟩ (.slice none 0 0)).heap.size:=by simp[World.setCell]
    have MN:Hid (MTr (fun b=>w.heap.size+2<b) (wr.setCell ⟨w.heap.size,4,none⟩ (.slice none 0 0)) (.node (fun k=> .leaf (canL Q (kX x (s / 2) k) (kY y (s / 2) k) (s / 2)))) x y s (.slice (some ⟨gk,0,none⟩) 4 ck) (.slice none 0 0)):=by
     refine MTr.node_of (kv' :=(fun _=> .slice none 0 0)) (ev' :=evf) (base:=W4.heap.size) (fun b hb=>by omega) ⟨none,0,rfl,fun i hi=>absurd hi (by simp),fun _=>rfl,fun _ _ _ e=>by cases e⟩ ?_ (fun k hk4=>?_)
     · rw[HHF.out];exact ownQ_heap HO (fun b hb=>hne0 b (by have:=(HO.lt b hb).1;omega))
     · rw[HHF.out];exact⟨rfl,(HM k hk4).keep hsS (fun b hb _=>hne0 b (by have:=hb.1;omega)) (fun b hb _=>hb.1)⟩
    go_upto_region 25 with fail;clear m0 m1 m2 m3 m4 y0 y1 y2 y3 y4 BG BR HO HM HB HI hsS hne0;generalize (wr.setCell ⟨w.heap.size,4,none⟩ (.slice none 0 0))=W9 at *;have m0:=B0N.c 0 rfl;have m1:=B0N.c 1 rfl;have m2:=B0N.c 2 rfl;have m3:=B0N.c 3 rfl;have m4:=B0N.c 4 rfl;have y0:=B2N.f 0 rfl;have y1:=B2N.f 1 rfl;have y2:=B2N.f 2 rfl;have y3:=B2N.f 3 rfl;have y4:=B2N.f 4 rfl;have z0:=B2N.c 0 rfl;have z1:=B2N.c 1 rfl;have z2:=B2N.c 2 rfl;have z3:=B2N.c 3 rfl;have z4:=B2N.c 4 rfl;have BF:=set5_blk B2N (.int .i64 x) (.int .i64 y) (.int .i64 s) (.slice (some ⟨gk,0,none⟩) 4 ck) (.slice none 0 0);have HF:=set5_below HBN (show w.heap.size≤w.heap.size+2 by omega) (.int .i64 x) (.int .i64 y) (.int .i64 s) (.slice (some ⟨gk,0,none⟩) 4 ck) (.slice none 0 0);have MF:Hid (MTr (fun b=>False∨w.heap.size≤b) (((((W9.setCell ⟨w.heap.size+2,0,none⟩ (.int .i64 x)).setCell ⟨w.heap.size+2,1,none⟩ (.int .i64 y)).setCell ⟨w.heap.size+2,2,none⟩ (.int .i64 s)).setCell ⟨w.heap.size+2,3,none⟩ (.slice (some ⟨gk,0,none⟩) 4 ck)).setCell ⟨w.heap.size+2,4,none⟩ (.slice none 0 0)) (.node (fun k=> .leaf (canL Q (kX x (s / 2) k) (kY y (s / 2) k) (s / 2)))) x y s (.slice (some ⟨gk,0,none⟩) 4 ck) (.slice none 0 0)):=MTr.keep (by simp[World.setCell]) (fun b hb _=>set5_heap (by show b≠w.heap.size+2;omega)) (fun b hb _=> .inr (by omega)) MN.out;clear MN;go_wp2;have r0:=BF.out.c 0 rfl;have r1:=BF.out.c 1 rfl;have r2:=BF.out.c 2 rfl;have r3:=BF.out.c 3 rfl;have r4:=BF.out.c 4 rfl;refine bodyPost_ret (v:= .agg #[.int .i64 x,.int .i64 y,.int .i64 s,.slice (some ⟨gk,0,none⟩) 4 ck,.slice none 0 0]) (by simp[results,Tryz.results60,go_sem,r0,r1,r2,r3,r4]) rfl ?_;exact⟨_,_,_,_,_,_,rfl,MF.out,HF⟩
theorem canL_len (Q:QD) (x y s:Int):(canL Q x y s).length≤Q.m:=by
 unfold canL idL flQ;rw[List.length_map];exact Nat.le_trans (List.length_filter_le _ _) (by simp)
def okN (ok:Nat→Prop) (P:Nat) (v:Value) (b:Nat):Prop:=(ok b∧b<P)∨(P+2<b∧some b≠v.ownBlock)
theorem putT_hit {Q:QD} {j:Nat} {mx D x y s:Int} {K:Nat→QT} (h:hitQ Q x y s j=true):putT Q j mx (.node K) D x y s= .node (fun k=>putT Q j mx (K k) (D-1) (kX x (s / 2) k) (kY y (s / 2) k) (s / 2)):=by
 rw[putT,if_pos h]
theorem l13Put_any (Q0 Q:QD) (j:Nat) (mx:Int) (ao:Option Addr) (cap:Nat) (hj:j<Q.m) (hQm:Q.m≤1048576) (h6:Its6 Q (List.range Q.m)) (hri:riseI Q) (hL:∀x y s,hitQ Q x y s j=true→∃A B,canL Q0 x y s=A ++B∧canL Q x y s=A ++Q.I j::B∧(∀u∈A,u<Q.I j)∧(∀u∈B,Q.I j<u)) (t:QT):∀(D x y s:Int) (ok:Nat→Prop) (kv ev:Value) (w:World),Sq x y s→(dpT t:Int)≤D→D≤8→rtT Q0 t x y s=true→MTr ok w t x y s kv ev→ItIn Q w ao (List.range Q.m)→Calls Tryz.prog 60 #[.agg #[.int .i64 x,.int .i64 y,.int .i64 s,kv,ev],.slice ao Q.m cap,.int .i64 (Q.I j),Sg (Q.S j).1 (Q.S j).2.1 (Q.S j).2.2.1 (Q.S j).2.2.2,.int .i64 mx,.int .i64 D] w (PuM ok (putT Q j mx t D x y s) x y s w):=by
 obtain⟨s1,s2,s3,s4⟩:=h6 j (List.mem_range.2 hj);obtain⟨i0,hi0,hz0,hz1,hz2⟩:=info_b13;have miss:∀(t:QT) (D x y s:Int) (ok:Nat→Prop) (kv ev:Value) (w:World),Sq x y s→hitQ Q x y s j=false→MTr ok w t x y s kv ev→Calls Tryz.prog 60 #[.agg #[.int .i64 x,.int .i64 y,.int .i64 s,kv,ev],.slice ao Q.m cap,.int .i64 (Q.I j),Sg (Q.S j).1 (Q.S j).2.1 (Q.S j).2.2.1 (Q.S j).2.2.2,.int .i64 mx,.int .i64 D] w (PuM ok (putT Q j mx t D x y s) x y s w):=fun t D x y s ok kv ev w hq hh hM=>by
  rw[putT_miss hh];obtain⟨ko,kn,kc,eo,en,ec,rfl,rfl⟩:=hM.vals;refine(l13Put_miss x y s mx D (Q.I j) _ _ _ _ ao ko eo Q.m cap kn kc en ec hq s1 s2 s3 s4 hh w).mono ?_;rintro r w' ⟨rfl,hB⟩;exact⟨_,_,_,_,_,_,rfl,MTr.keep hB.size (fun b _ hb=>hB.block b hb) (fun _ h _=> .inl h) hM,hB⟩
 induction t with
 | leaf l=>
  intro D x y s ok kv ev w hq hdp hD8 hr hM hS;cases hh:hitQ Q x y s j with
  | false=>exact miss _ D x y s ok kv ev w hq hh hM
  | true=>
   obtain⟨rfl,eo,ec,rfl,hN,hn0,hok⟩:=hM;obtain rfl:l=canL Q0 x y s:=of_decide_eq_true hr;obtain⟨A,B,e1,e2,hA,hB⟩:=hL x y s hh;have hlen:(A ++Q.I j::B).length≤1048576:=by rw[←e2];exact Nat.le_trans (canL_len Q x y s) hQm
   by_cases hst:((A ++Q.I j::B).length:Int)≤mx∨D<1
   · have hp:putT Q j mx (.leaf (canL Q0 x y s)) D x y s= .leaf (canL Q x y s):=by rw[putT,if_pos hh,if_pos (by rw[e2];exact hst)]
     rw[hp];have C:=l13Put_stay x y s mx D (Q.I j) _ _ _ _ ao eo Q.m cap ec A B hq s1 s2 s3 s4 hh hlen hA hB w (by rw[←e1];exact hN) hst;rw[←e1] at C;refine C.mono ?_;rintro r w' ⟨ev,rfl,hI,hB'⟩;rw[←e2] at hI;have hI2:=hI;obtain⟨eo1,ec1,rfl,_⟩:=hI2;exact⟨none,0,0,eo1,_,ec1,rfl,⟨rfl,hI.keep (Nat.le_refl _) (fun _ _ _=>rfl) (fun _ h _=> .inr h)⟩,hB'⟩
   · have hp:putT Q j mx (.leaf (canL Q0 x y s)) D x y s= .node (fun k=> .leaf (canL Q (kX x (s / 2) k) (kY y (s / 2) k) (s / 2))):=by rw[putT,if_pos hh,if_neg (by rw[e2];exact hst)]
     rw[hp];have C:=l13Put_split Q x y s mx D (Q.I j) _ _ _ _ ao eo cap ec A B hq s1 s2 s3 s4 hh hlen hA hB w (by rw[←e1];exact hN) e2.symm hQm h6 hri hS (fun h=>hst (.inl h)) (fun h=>hst (.inr h));rw[←e1] at C;refine C.mono ?_;rintro r w' ⟨ko,kn,kc,eo1,en1,ec1,rfl,hM1,hB'⟩;exact⟨_,_,_,_,_,_,rfl,MTr.keep (Nat.le_refl _) (fun _ _ _=>rfl) (fun b h _=>h.elim (fun e=>e.elim) .inr) hM1,hB'⟩
 | node K ih =>
  intro D x y s ok kv ev w hq hdp hD8 hr hM hS;cases hh:hitQ Q x y s j with
  | false=>exact miss _ D x y s ok kv ev w hq hh hM
  | true =>
   rw[putT_hit hh];obtain⟨hE,A,kc,rfl,hA,hoA,hk⟩:=hM;have HE:Hid (IdV ok w ev []):=hE;obtain⟨eo,ec,rfl,_⟩:=hE;have hdk:∀c,c<4→(dpT (K c):Int)≤D-1:=fun c hc=>by
    unfold dpT at hdp
    rcases(show c=0∨c=1∨c=2∨c=3 by omega) with h | h | h | h<;>subst h<;>omega
   have hD1:1≤D:=by have:=hdk 0 (by omega);omega
   have hrk:∀c,c<4→rtT Q0 (K c) (kX x (s / 2) c) (kY y (s / 2) c) (s / 2)=true:=fun c hc=>(List.all_eq_true.1 hr) c (List.mem_range.2 hc);have HH:Hid (hitB (Q.S j).1 (Q.S j).2.1 (Q.S j).2.2.1 (Q.S j).2.2.2 x y (x+s) (y+s)=true):=hh;obtain⟨hf,hhf⟩:∃hf,s / 2=hf:=⟨_,rfl⟩;have HHF:Hid (s / 2=hf):=hhf;rw[hhf] at hk hrk⊢;obtain⟨TK,hTK⟩:∃TK:Nat→QT,(fun k=>putT Q j mx (K k) (D-1) (kX x hf k) (kY y hf k) hf)=TK:=⟨_,rfl⟩;have HTK:Hid ((fun k=>putT Q j mx (K k) (D-1) (kX x hf k) (kY y hf k) hf)=TK):=hTK;rw[hTK];have HK:Hid (∀k,k<4→∃kv' ev',w.cell? ⟨A,k*5,none⟩=some (.int .i64 (kX x hf k))∧w.cell? ⟨A,k*5+1,none⟩=some (.int .i64 (kY y hf k))∧w.cell? ⟨A,k*5+2,none⟩=some (.int .i64 hf)∧w.cell? ⟨A,k*5+3,none⟩=some kv' ∧w.cell? ⟨A,k*5+4,none⟩=some ev' ∧MTr ok w (K k) (kX x hf k) (kY y hf k) hf kv' ev'):=hk;have HS:Hid (ItIn Q w ao (List.range Q.m)):=hS;have HDK:Hid (∀c,c<4→(dpT (K c):Int)≤D-1):=hdk;have HRK:Hid (∀c,c<4→rtT Q0 (K c) (kX x hf c) (kY y hf c) hf=true):=hrk;change Calls _ _ #[.agg #[.int .i64 x,.int .i64 y,.int .i64 s,.slice (some ⟨A,0,none⟩) 4 kc,.slice eo 0 ec],_,_,_,_,_] _ _;clear hhf hTK hk hS hdk hrk hh hdp hr miss hL;have B0:Blk (((w.alloc (.cells #[.int .i64 x,.int .i64 y,.int .i64 s,.slice (some ⟨A,0,none⟩) 4 kc,.slice eo 0 ec] 62)).alloc (.cells #[.int .i64 (Q.S j).1,.int .i64 (Q.S j).2.1,.int .i64 (Q.S j).2.2.1,.int .i64 (Q.S j).2.2.2] 38)).alloc (.cells #[.int .i64 0,.int .i64 0,.int .i64 0,.slice none 0 0,.slice none 0 0] 62)) w.heap.size [.int .i64 x,.int .i64 y,.int .i64 s,.slice (some ⟨A,0,none⟩) 4 kc,.slice eo 0 ec]:=((Blk.new w [.int .i64 x,.int .i64 y,.int .i64 s,.slice (some ⟨A,0,none⟩) 4 kc,.slice eo 0 ec] 62 rfl).alloc _).alloc _;have B1:Blk (((w.alloc (.cells #[.int .i64 x,.int .i64 y,.int .i64 s,.slice (some ⟨A,0,none⟩) 4 kc,.slice eo 0 ec] 62)).alloc (.cells #[.int .i64 (Q.S j).1,.int .i64 (Q.S j).2.1,.int .i64 (Q.S j).2.2.1,.int .i64 (Q.S j).2.2.2] 38)).alloc (.cells #[.int .i64 0,.int .i64 0,.int .i64 0,.slice none 0 0,.slice none 0 0] 62)) (w.heap.size+1) [.int .i64 (Q.S j).1,.int .i64 (Q.S j).2.1,.int .i64 (Q.S j).2.2.1,.int .i64 (Q.S j).2.2.2]:=(Blk.new (w.alloc (.cells #[.int .i64 x,.int .i64 y,.int .i64 s,.slice (some ⟨A,0,none⟩) 4 kc,.slice eo 0 ec] 62)) [.int .i64 (Q.S j).1,.int .i64 (Q.S j).2.1,.int .i64 (Q.S j).2.2.1,.int .i64 (Q.S j).2.2.2] 38 (by simp)).alloc _;have B2:Blk (((w.alloc (.cells #[.int .i64 x,.int .i64 y,.int .i64 s,.slice (some ⟨A,0,none⟩) 4 kc,.slice eo 0 ec] 62)).alloc (.cells #[.int .i64 (Q.S j).1,.int .i64 (Q.S j).2.1,.int .i64 (Q.S j).2.2.1,.int .i64 (Q.S j).2.2.2] 38)).alloc (.cells #[.int .i64 0,.int .i64 0,.int .i64 0,.slice none 0 0,.slice none 0 0] 62)) (w.heap.size+2) [.int .i64 0,.int .i64 0,.int .i64 0,.slice none 0 0,.slice none 0 0]:=Blk.new ((w.alloc (.cells #[.int .i64 x,.int .i64 y,.int .i64 s,.slice (some ⟨A,0,none⟩) 4 kc,.slice eo 0 ec] 62)).alloc (.cells #[.int .i64 (Q.S j).1,.int .i64 (Q.S j).2.1,.int .i64 (Q.S j).2.2.1,.int .i64 (Q.S j).2.2.2] 38)) [.int .i64 0,.int .i64 0,.int .i64 0,.slice none 0 0,.slice none 0 0] 62 (by simp);have HB:Below w.heap.size w (((w.alloc (.cells #[.int .i64 x,.int .i64 y,.int .i64 s,.slice (some ⟨A,0,none⟩) 4 kc,.slice eo 0 ec] 62)).alloc (.cells #[.int .i64 (Q.S j).1,.int .i64 (Q.S j).2.1,.int .i64 (Q.S j).2.2.1,.int .i64 (Q.S j).2.2.2] 38)).alloc (.cells #[.int .i64 0,.int .i64 0,.int .i64 0,.slice none 0 0,.slice none 0 0] 62)):=(((Below.refl _ w).alloc (Nat.le_refl _) _).alloc (by simp) _).alloc (by simp;omega) _
   go_enter Tryz.func60,Tryz.ntmps60
   go_upto_region 1 with fail;generalize (((w.alloc (.cells #[.int .i64 x,.int .i64 y,.int .i64 s,.slice (some ⟨A,0,none⟩) 4 kc,.slice eo 0 ec] 62)).alloc (.cells #[.int .i64 (Q.S j).1,.int .i64 (Q.S j).2.1,.int .i64 (Q.S j).2.2.1,.int .i64 (Q.S j).2.2.2] 38)).alloc (.cells #[.int .i64 0,.int .i64 0,.int .i64 0,.slice none 0 0,.slice none 0 0] 62))=W1 at *;have m0:=B0.c 0 rfl;have m1:=B0.c 1 rfl;have m2:=B0.c 2 rfl;have m3:=B0.c 3 rfl;have m4:=B0.c 4 rfl;have n0:=B1.c 0 rfl;have n1:=B1.c 1 rfl;have n2:=B1.c 2 rfl;have n3:=B1.c 3 rfl;go_wp2_with fail;refine(l13Meets_any x y s (some ⟨A,0,none⟩) eo 4 kc 0 ec _ _ _ _ hq s1 s2 s3 s4 W1).mono ?_;rintro r w1 ⟨rfl,hB1⟩;rw[HH.out];clear m0 m1 m2 m3 m4 n0 n1 n2 n3;replace B0:=B0.step hB1;replace B1:=B1.step hB1;replace B2:=B2.step hB1;replace HB:=HB.trans (hB1.mono HB.size);have hsz:w.heap.size+2<w1.heap.size:=B2.lt;have m3:=B0.c 3 rfl;clear hB1;go_upto_region 5 with fail;have HO0:(w1.alloc (.cells #[] 62)).ownsRow (w.heap.size+3) 62 5 (.slice (some ⟨w1.heap.size,0,none⟩) 0 0) 0 []:=ownQ_mono2 (World.ownsRow_made w1 #[] 0 (Nat.le_refl _) (by decide) rfl) (by omega);replace B0:=B0.alloc (.cells #[] 62);replace B1:=B1.alloc (.cells #[] 62);replace B2:=B2.alloc (.cells #[] 62);replace HB:=HB.alloc (by omega) (.cells #[] 62);generalize (w1.alloc (.cells #[] 62))=W3 at *;clear m3;go_wp2_with fail
   go_loopw [13,14] (fun v ic wr=>∃(c:Nat) (kvf evf:Nat→Value) (vv:Value),vv=v∧c≤4∧ic= .int .i64 c∧Blk wr w.heap.size [.int .i64 x,.int .i64 y,.int .i64 s,.slice (some ⟨A,0,none⟩) 4 kc,.slice eo 0 ec]∧Blk wr (w.heap.size+1) [.int .i64 (Q.S j).1,.int .i64 (Q.S j).2.1,.int .i64 (Q.S j).2.2.1,.int .i64 (Q.S j).2.2.2]∧Blk wr (w.heap.size+2) [.int .i64 0,.int .i64 0,.int .i64 0,.slice none 0 0,.slice none 0 0]∧wr.ownsRow (w.heap.size+3) 62 5 vv c (kdL x y hf kvf evf c)∧(∀i,i<c→MTr (okN ok w.heap.size (vv)) wr (TK i) (kX x hf i) (kY y hf i) hf (kvf i) (evf i))∧Below w.heap.size w wr) (fun _ i _=>4-(intOf i).toNat)
   case atStart=>exact⟨0,fun _=> .slice none 0 0,fun _=> .slice none 0 0,_,rfl,by omega,rfl,B0,B1,B2,HO0,fun i hi=>absurd hi (by omega),HB⟩
   case round=>
    clear B0 B1 B2 HO0 HB;obtain⟨c,kvf,evf,vv,rfl,hc,rfl,BG,BS,BR,HO,HM,HB⟩:=hrel;have hPl:w.heap.size+2<wr.heap.size:=BR.lt
    by_cases hc4:c<4
    · have hcI:(c:Int)<4:=by omega
      obtain⟨kv',ev',c0,c1,c2,c3,c4,hMk⟩:=HK.out c hc4;obtain⟨ko,kn,kc',eo',en',ec',rfl,rfl⟩:=hMk.vals;have hsq:=hq.kid hc4;rw[HHF.out] at hsq;have hM2:MTr (fun b=>ok b∧b<w.heap.size) wr.drew (K c) (kX x hf c) (kY y hf c) hf (.slice ko kn kc') (.slice eo' en' ec'):=MTr.keep (w' :=wr.drew) (ok' :=fun b=>ok b∧b<w.heap.size) HB.size (fun b _ hb=>HB.block b hb) (fun b h h2=>⟨h,h2⟩) hMk;have C:=ih c (D-1) (kX x hf c) (kY y hf c) hf (fun b=>ok b∧b<w.heap.size) _ _ wr.drew hsq (HDK.out c hc4) (by omega) (HRK.out c hc4) hM2 (HS.out.step HB.drew);have hput:Calls Tryz.prog 60 #[.agg #[.int .i64 (kX x hf c),.int .i64 (kY y hf c),.int .i64 hf,.slice ko kn kc',.slice eo' en' ec'],.slice ao Q.m cap,.int .i64 (Q.I j),Sg (Q.S j).1 (Q.S j).2.1 (Q.S j).2.2.1 (Q.S j).2.2.2,.int .i64 mx,.int .i64 (D-1)] wr.drew (fun r W2=>∃ko1 kn1 kc1 eo1 en1 ec1,r= .returned (.agg #[.int .i64 (kX x hf c),.int .i64 (kY y hf c),.int .i64 hf,.slice ko1 kn1 kc1,.slice eo1 en1 ec1])∧MTr (fun b=>(ok b∧b<w.heap.size)∨wr.heap.size≤b) W2 (TK c) (kX x hf c) (kY y hf c) hf (.slice ko1 kn1 kc1) (.slice eo1 en1 ec1)∧Below wr.drew.heap.size wr.drew W2):=C.mono (by
       rintro r W2 ⟨ko1,kn1,kc1,eo1,en1,ec1,h1,h2,h3⟩;exact⟨ko1,kn1,kc1,eo1,en1,ec1,h1,by rw[←HTK.out];exact h2,h3⟩)
      have hcc:∀i,wr.cell? ⟨A,i,none⟩=w.cell? ⟨A,i,none⟩:=fun i=>HB.cell (p:=⟨A,i,none⟩) hA;clear C ih hM2 hMk;go_upto_region 8 with fail;refine qp8 (i0:=i0) (P:=w.heap.size) (Sb:=w.heap.size+1) (A:=A) (kk:=kc) (m:=Q.m) (cap:=cap) (base:=w.heap.size+3) (c:=c) (kn:=kn) (kc:=kc') (en:=en') (ec:=ec') (ao:=ao) (ko:=ko) (eo:=eo') (x:=kX x hf c) (y:=kY y hf c) (sz:=hf) (z:=Q.I j) (most:=mx) (D:=D) (a:=(Q.S j).1) (bb:=(Q.S j).2.1) (cc:=(Q.S j).2.2.1) (d:=(Q.S j).2.2.2) (o:=vv) (Lk:=kdL x y hf kvf evf c) (TT:=fun k1 e1 W=>MTr (fun b=>(ok b∧b<w.heap.size)∨wr.heap.size≤b) W (TK c) (kX x hf c) (kY y hf c) hf k1 e1) (Wd:=wr.drew) hi0 hz0 hz1 hz2 hc4 hD1 hD8 (by omega) (ownA_step HO ((Below.refl _ wr).drew)) hput rfl rfl rfl rfl rfl rfl rfl rfl rfl (BG.c 3 rfl) (by show w.heap.size<w.heap.size+3;omega) (BS.c 0 rfl) (by show w.heap.size+1<w.heap.size+3;omega) (BS.c 1 rfl) (by show w.heap.size+1<w.heap.size+3;omega) (BS.c 2 rfl) (by show w.heap.size+1<w.heap.size+3;omega) (BS.c 3 rfl) (by show w.heap.size+1<w.heap.size+3;omega) ((hcc _).trans c0) (by show A<w.heap.size+3;omega) ((hcc _).trans c1) (by show A<w.heap.size+3;omega) ((hcc _).trans c2) (by show A<w.heap.size+3;omega) ((hcc _).trans c3) (by show A<w.heap.size+3;omega) ((hcc _).trans c4) (by show A<w.heap.size+3;omega) rfl ?_;rintro⟨tm,df⟩ Wz hz hdf hoff _ hBz ⟨Wc,ko1,kn1,kc1,eo1,en1,ec1,hT,hBc,hg,hown,hob⟩;simp only at hz hdf hoff hown hob;subst hdf;obtain⟨ao',cap',hv'⟩:=ownQ_slice hown;rw[hv'] at hown hob;have hgd:∀b,b<wr.heap.size→some b≠vv.ownBlock→Wz.heap[b]? =wr.heap[b]? :=fun b hb hne=>(hg.block b (Nat.lt_of_lt_of_le hb hBc.size) hne).trans (hBc.block b hb);have hvb:∀b,vv.ownBlock=some b→w.heap.size+3≤b∧b<wr.heap.size:=fun b hb=>HO.lt b hb;have hWc:wr.heap.size≤Wc.heap.size:=hBc.size;have hWz:Wc.heap.size≤Wz.heap.size:=hg.size;have HKN:Hid (∀i,i<c+1→MTr (okN ok w.heap.size (.slice ao' (c+1) cap')) Wz (TK i) (kX x hf i) (kY y hf i) hf (setV kvf c (.slice ko1 kn1 kc1) i) (setV evf c (.slice eo1 en1 ec1) i)):=fun i hi=>by
       by_cases e2:i=c
       · subst e2;rw[show setV kvf i (.slice ko1 kn1 kc1) i= .slice ko1 kn1 kc1 from if_pos rfl,show setV evf i (.slice eo1 en1 ec1) i= .slice eo1 en1 ec1 from if_pos rfl];refine MTr.keep hWz (fun b hb hb2=>hg.block b hb2 (fun e3=>?_)) (fun b hb hb2=>?_) hT
         · have:=hvb b e3.symm
           rcases hb with hb | hb<;>omega
         · rcases hb with hb | hb
           · exact .inl hb
           · refine .inr ⟨by omega,fun e3=>?_⟩
             rcases hob with h | h
             · rw[h] at e3;have:=hvb b e3.symm;omega
             · rw[h] at e3;have:=Option.some.inj e3;omega
       · rw[show setV kvf c (.slice ko1 kn1 kc1) i=kvf i from if_neg e2,show setV evf c (.slice eo1 en1 ec1) i=evf i from if_neg e2];refine MTr.keep (by omega) (fun b hb hb2=>hgd b hb2 (fun e3=>?_)) (fun b hb hb2=>?_) (HM i (by omega))
         · rcases hb with hb | hb
           · have:=hvb b e3.symm;omega
           · exact hb.2 e3
         · rcases hb with hb | hb
           · exact .inl hb
           · refine .inr ⟨hb.1,fun e3=>?_⟩
             rcases hob with h | h
             · rw[h] at e3;exact hb.2 e3
             · rw[h] at e3;have:=Option.some.inj e3;omega
      rw[←kdL_set] at hown;have htm:=tmps_fold [32,33,34,35,36,37,38,39,40,41,42,43,44,45,46,13] tm _ hz hoff;simp only[List.foldl,List.setIfInBounds_toArray,List.set_cons_zero,List.set_cons_succ,hv'] at htm;clear hz hoff;generalize tm.getD 32 undef=pa0,tm.getD 33 undef=pa1,tm.getD 34 undef=pa2,tm.getD 35 undef=pa3,tm.getD 36 undef=pa4,tm.getD 37 undef=pa5,tm.getD 38 undef=pa6,tm.getD 39 undef=pa7,tm.getD 40 undef=pa8,tm.getD 41 undef=pa9,tm.getD 42 undef=pa10,tm.getD 43 undef=pa11,tm.getD 44 undef=pa12,tm.getD 45 undef=pa13,tm.getD 46 undef=pa14 at htm;clear hv';subst htm;replace BG:=BG.below hBz (by omega);replace BS:=BS.below hBz (by omega);replace BR:=BR.below hBz (by omega);replace HB:=HB.trans (hBz.mono (by omega));clear hT hBc hg hob hgd hvb HM HO c0 c1 c2 c3 c4 hcc hBz hput;go_wp2;go_roundw
      case rel=>exact⟨c+1,_,_,_,rfl,by omega,by go_num,BG,BS,BR,hown,HKN.out,HB⟩
      case measure=>simp[intOf];omega
    · obtain rfl:c=4:=by omega
      obtain⟨gk,ck,rfl,hgk1,hgk2,_,_⟩:=ownQ_form HO (by omega);have m0:=BG.c 0 rfl;have m1:=BG.c 1 rfl;have m2:=BG.c 2 rfl;have m3:=BG.c 3 rfl;have m4:=BG.c 4 rfl;have y0:=BG.f 0 rfl;have y1:=BG.f 1 rfl;have y2:=BG.f 2 rfl;have y3:=BG.f 3 rfl;have y4:=BG.f 4 rfl;have B0N:Blk (wr.setCell ⟨w.heap.size,3,none⟩ (.slice (some ⟨gk,0,none⟩) 4 ck)) w.heap.size [.int .i64 x,.int .i64 y,.int .i64 s,.slice (some ⟨gk,0,none⟩) 4 ck,.slice eo 0 ec]:=BG.setI 3 (by simp) _;have B2N:Blk (wr.setCell ⟨w.heap.size,3,none⟩ (.slice (some ⟨gk,0,none⟩) 4 ck)) (w.heap.size+2) [.int .i64 0,.int .i64 0,.int .i64 0,.slice none 0 0,.slice none 0 0]:=BR.keep (by simp[World.setCell]) (Below.heap_setCell _ _ _ _ (by show w.heap.size+2≠w.heap.size;omega));have HBN:Below w.heap.size w (wr.setCell ⟨w.heap.size,3,none⟩ (.slice (some ⟨gk,0,none⟩) 4 ck)):=HB.setCell (Nat.le_refl _) _;have hne0:∀b,b≠w.heap.size→(wr.setCell ⟨w.heap.size,3,none⟩ (.slice (some ⟨gk,0,none⟩) 4 ck)).heap[b]? =wr.heap[b]? :=fun b hb=>Below.heap_setCell _ _ _ _ hb;have hsS:wr.heap.size≤(wr.setCell ⟨w.heap.size,3,none⟩ (.slice (some ⟨gk,0,none⟩) 4 ck)).heap.size:=by simp[World.setCell]
      have MN:Hid (MTr (fun b=>(ok b∧b<w.heap.size)∨w.heap.size+2<b) (wr.setCell ⟨w.heap.size,3,none⟩ (.slice (some ⟨gk,0,none⟩) 4 ck)) (.node TK) x y s (.slice (some ⟨gk,0,none⟩) 4 ck) (.slice eo 0 ec)):=by
       refine MTr.node_of (kv' :=kvf) (ev' :=evf) (base:=w.heap.size+3) (fun b hb=> .inr (by omega)) ?_ ?_ (fun k hk4=>?_)
       · exact(HE.out.keep (w' :=wr) (ok' :=fun b=>ok b∧b<w.heap.size) HB.size (fun b _ hb=>HB.block b hb) (fun b h h2=>⟨h,h2⟩)).keep hsS (fun b hb _=>hne0 b (by omega)) (fun b hb _=> .inl hb)
       · rw[HHF.out];exact ownQ_heap HO (fun b hb=>hne0 b (by have:=(HO.lt b hb).1;omega))
       · rw[HHF.out];exact MTr.keep hsS (fun b hb _=>hne0 b (by rcases hb with hb | hb<;>omega)) (fun b hb _=>hb.elim .inl (fun h=> .inr h.1)) (HM k hk4)
      go_upto_region 10 with fail;clear m0 m1 m2 m3 m4 y0 y1 y2 y3 y4 BG BR BS HO HM HB hsS hne0;generalize (wr.setCell ⟨w.heap.size,3,none⟩ (.slice (some ⟨gk,0,none⟩) 4 ck))=W9 at *;have m0:=B0N.c 0 rfl;have m1:=B0N.c 1 rfl;have m2:=B0N.c 2 rfl;have m3:=B0N.c 3 rfl;have m4:=B0N.c 4 rfl;have y0:=B2N.f 0 rfl;have y1:=B2N.f 1 rfl;have y2:=B2N.f 2 rfl;have y3:=B2N.f 3 rfl;have y4:=B2N.f 4 rfl;have z0:=B2N.c 0 rfl;have z1:=B2N.c 1 rfl;have z2:=B2N.c 2 rfl;have z3:=B2N.c 3 rfl;have z4:=B2N.c 4 rfl;have BF:=set5_blk B2N (.int .i64 x) (.int .i64 y) (.int .i64 s) (.slice (some ⟨gk,0,none⟩) 4 ck) (.slice eo 0 ec);have HF:=set5_below HBN (show w.heap.size≤w.heap.size+2 by omega) (.int .i64 x) (.int .i64 y) (.int .i64 s) (.slice (some ⟨gk,0,none⟩) 4 ck) (.slice eo 0 ec);have MF:Hid (MTr (fun b=>ok b∨w.heap.size≤b) (((((W9.setCell ⟨w.heap.size+2,0,none⟩ (.int .i64 x)).setCell ⟨w.heap.size+2,1,none⟩ (.int .i64 y)).setCell ⟨w.heap.size+2,2,none⟩ (.int .i64 s)).setCell ⟨w.heap.size+2,3,none⟩ (.slice (some ⟨gk,0,none⟩) 4 ck)).setCell ⟨w.heap.size+2,4,none⟩ (.slice eo 0 ec)) (.node TK) x y s (.slice (some ⟨gk,0,none⟩) 4 ck) (.slice eo 0 ec)):=MTr.keep (by simp[World.setCell]) (fun b hb _=>set5_heap (by show b≠w.heap.size+2;rcases hb with hb | hb<;>omega)) (fun b hb _=>hb.elim (fun h=> .inl h.1) (fun h=> .inr (by omega))) MN.out;clear MN;go_wp2;have r0:=BF.out.c 0 rfl;have r1:=BF.out.c 1 rfl;have r2:=BF.out.c 2 rfl;have r3:=BF.out.c 3 rfl;have r4:=BF.out.c 4 rfl;refine bodyPost_ret (v:= .agg #[.int .i64 x,.int .i64 y,.int .i64 s,.slice (some ⟨gk,0,none⟩) 4 ck,.slice eo 0 ec]) (by simp[results,Tryz.results60,go_sem,r0,r1,r2,r3,r4]) rfl ?_;exact⟨_,_,_,_,_,_,rfl,MF.out,HF⟩
inductive AT where
 | leaf (g:Nat)
 | node (g A kc:Nat) (K:Nat→AT)
def raT:AT→Nat
 | .leaf g=>g
 | .node g _ _ _=>g
def LfIn:AT→Nat→Prop
 | .leaf g,p=>p=g
 | .node _ _ _ K,p=>∃k,k<4∧LfIn (K k) p
def inB:AT→Nat→Prop
 | .leaf _,_=>False
 | .node g A _ K,b=>b=g∨b=A∨∃k,k<4∧inB (K k) b
def fpT (okf:Nat→Nat→Prop):AT→Nat→Prop
 | .leaf g,b=>okf g b
 | .node g A _ K,b=>b=g∨b=A∨∃k,k<4∧fpT okf (K k) b
def ApT (okf:Nat→Nat→Prop):AT→Prop
 | .leaf _=>True
 | .node g A _ K=>A≠g∧(∀k b,k<4→fpT okf (K k) b→b≠g∧b≠A)∧(∀i j b,i<4→j<4→i≠j→fpT okf (K i) b→¬fpT okf (K j) b)∧∀k,k<4→ApT okf (K k)
def catP (f:Nat→List (Nat×LQ)):Nat→List (Nat×LQ)
 | 0=>[]
 | k+1=>catP f k ++f k
def lpT:QT→AT→Int→Int→Int→Int→List (Nat×LQ)
 | .leaf l,.leaf g,x,y,s,lv=>[(g,⟨x,y,s,lv,l⟩)]
 | .node K,.node _ _ _ Ka,x,y,s,lv=>catP (fun k=>lpT (K k) (Ka k) (kX x (s / 2) k) (kY y (s / 2) k) (s / 2) (lv+1)) 4
 | _,_,_,_,_,_=>[]
def SkT (w:World):QT→AT→Int→Int→Int→Int→Prop
 | .leaf _,.leaf _,_,_,_,_=>True
 | .node K,.node g A kc Ka,x,y,s,lv=>BkB w g x y s lv (.slice none 0 0) (.slice (some ⟨A,0,none⟩) 4 kc)∧A<w.heap.size∧∀k,k<4→w.cell? ⟨A,k,none⟩=some (.pointer (some ⟨raT (Ka k),0,none⟩))∧SkT w (K k) (Ka k) (kX x (s / 2) k) (kY y (s / 2) k) (s / 2) (lv+1)
 | _,_,_,_,_,_=>False
theorem fp_lf {okf:Nat→Nat→Prop}:∀{a:AT} {p b:Nat},LfIn a p→okf p b→fpT okf a b
 | .leaf _,_,_,h,hb=>by cases h;exact hb
 | .node _ _ _ K,_,_,⟨k,hk,h⟩,hb=> .inr (.inr ⟨k,hk,fp_lf (a:=K k) h hb⟩)
theorem fp_in {okf:Nat→Nat→Prop}:∀{a:AT} {b:Nat},inB a b→fpT okf a b
 | .leaf _,_,h=>h.elim
 | .node _ _ _ K,_,h=>by
  rcases h with h | h | ⟨k,hk,h⟩
  · exact .inl h
  · exact .inr (.inl h)
  · exact .inr (.inr ⟨k,hk,fp_in (a:=K k) h⟩)
theorem fp_upd {okf:Nat→Nat→Prop} {c:Nat} {N:Nat→Prop}:∀{a:AT} {b:Nat},fpT (fun p b=>okf p b∨(p=c∧N b)) a b→fpT okf a b∨(LfIn a c∧N b)
 | .leaf g,b,h=>by
  rcases h with h | ⟨h1,h2⟩
  · exact .inl h
  · exact .inr ⟨h1.symm,h2⟩
 | .node _ _ _ K,b,h=>by
  rcases h with h | h | ⟨k,hk,h⟩
  · exact .inl (.inl h)
  · exact .inl (.inr (.inl h))
  · rcases fp_upd (a:=K k) h with h | ⟨h1,h2⟩
    · exact .inl (.inr (.inr ⟨k,hk,h⟩))
    · exact .inr ⟨⟨k,hk,h1⟩,h2⟩
theorem ApT.upd {okf:Nat→Nat→Prop} {c:Nat} {N:Nat→Prop} (hc:okf c c):∀{a:AT},ApT okf a→(∀b,N b→¬fpT okf a b)→ApT (fun p b=>okf p b∨(p=c∧N b)) a
 | .leaf _,_,_=>trivial
 | .node g A kc K,⟨h1,h2,h3,h4⟩,hN=>by
  refine⟨h1,fun k b hk hb=>?_,fun i j b hi hj hij hb hb2=>?_,fun k hk=>ApT.upd hc (a:=K k) (h4 k hk) (fun b hb h=>hN b hb (.inr (.inr ⟨k,hk,h⟩)))⟩
  · rcases fp_upd hb with h | ⟨_,h⟩
    · exact h2 k b hk h
    · exact⟨fun e=>hN b h (.inl e),fun e=>hN b h (.inr (.inl e))⟩
  · rcases fp_upd hb with h | ⟨h5,h⟩
    · rcases fp_upd hb2 with h' | ⟨_,h'⟩
      · exact h3 i j b hi hj hij h h'
      · exact hN b h' (.inr (.inr ⟨i,hi,h⟩))
    · rcases fp_upd hb2 with h' | ⟨h6,_⟩
      · exact hN b h (.inr (.inr ⟨j,hj,h'⟩))
      · exact h3 i j c hi hj hij (fp_lf h5 hc) (fp_lf h6 hc)
theorem ApT.apart {okf:Nat→Nat→Prop}:∀{a:AT} {p c b:Nat},ApT okf a→LfIn a p→LfIn a c→p≠c→okf p b→¬okf c b
 | .leaf _,_,_,_,_,h1,h2,hne,_=>absurd (h1.trans h2.symm) hne
 | .node g A kc K,p,c,b,⟨_,_,h3,h4⟩,⟨i,hi,h5⟩,⟨j,hj,h6⟩,hne,hp=>fun hc=>by
  by_cases e:i=j
  · subst e;exact ApT.apart (a:=K i) (h4 i hi) h5 h6 hne hp hc
  · exact h3 i j b hi hj e (fp_lf h5 hp) (fp_lf h6 hc)
theorem ApT.inner {okf:Nat→Nat→Prop}:∀{a:AT} {b c:Nat},ApT okf a→inB a b→LfIn a c→¬okf c b
 | .leaf _,_,_,_,h,_=>h.elim
 | .node g A kc K,b,c,⟨_,h2,h3,h4⟩,hb,⟨j,hj,h6⟩=>fun hc=>by
  rcases hb with h | h | ⟨i,hi,h⟩
  · exact(h2 j b hj (fp_lf h6 hc)).1 h
  · exact(h2 j b hj (fp_lf h6 hc)).2 h
  · by_cases e:i=j
    · subst e;exact ApT.inner (a:=K i) (h4 i hi) h h6 hc
    · exact h3 i j b hi hj e (fp_in h) (fp_lf h6 hc)
theorem SkT.keep {w w' :World} (hs:w.heap.size≤w'.heap.size):∀{t:QT} {a:AT} {x y s lv:Int},SkT w t a x y s lv→(∀b,inB a b→w'.heap[b]? =w.heap[b]?)→SkT w' t a x y s lv
 | .leaf _,.leaf _,_,_,_,_,_,_=>trivial
 | .leaf _,.node ..,_,_,_,_,h,_=>h.elim
 | .node _,.leaf _,_,_,_,_,h,_=>h.elim
 | .node K,.node g A kc Ka,x,y,s,lv,⟨h1,h2,h3⟩,hk=>by
  refine⟨h1.keep hs (hk g (.inl rfl)),Nat.lt_of_lt_of_le h2 hs,fun k hk4=>?_⟩;obtain⟨c0,h4⟩:=h3 k hk4;exact⟨(World.cell?_of_block (w:=w) (a:=⟨A,k,none⟩) (hk A (.inr (.inl rfl)))).trans c0,SkT.keep hs (t:=K k) (a:=Ka k) h4 (fun b hb=>hk b (.inr (.inr ⟨k,hk4,hb⟩)))⟩
theorem mem_catP {f:Nat→List (Nat×LQ)} {z:Nat×LQ}:∀{n},z∈catP f n↔∃k,k<n∧z∈f k
 | 0=>by simp[catP]
 | n+1=>by
  rw[catP,List.mem_append,mem_catP]
  constructor
  · rintro(⟨k,h1,h2⟩ | h)
    · exact⟨k,by omega,h2⟩
    · exact⟨n,by omega,h⟩
  · rintro⟨k,h1,h2⟩
    rcases Nat.lt_or_ge k n with h | h
    · exact .inl ⟨k,h,h2⟩
    · obtain rfl:k=n:=by omega
      exact .inr h2
theorem lp_lf:∀{t:QT} {a:AT} {x y s lv:Int} {z:Nat×LQ},z∈lpT t a x y s lv→LfIn a z.1
 | .leaf _,.leaf _,_,_,_,_,z,h=>by
  simp only[lpT,List.mem_singleton] at h;subst h
  rfl
 | .leaf _,.node ..,_,_,_,_,z,h=>by simp[lpT] at h
 | .node _,.leaf _,_,_,_,_,z,h=>by simp[lpT] at h
 | .node K,.node g A kc Ka,x,y,s,lv,z,h=>by
  simp only[lpT] at h;obtain⟨k,hk,h1⟩:=mem_catP.1 h;exact⟨k,hk,lp_lf (t:=K k) (a:=Ka k) h1⟩
theorem nodup_catP {f:Nat→List (Nat×LQ)} {n:Nat} (h1:∀k,k<n→((f k).map Prod.fst).Nodup) (h2:∀i j z z',i<n→j<n→i≠j→z∈f i→z' ∈f j→z.1≠z'.1):((catP f n).map Prod.fst).Nodup:=by
 induction n with
 | zero=>simp[catP]
 | succ n ih=>
  rw[catP,List.map_append,List.nodup_append];refine⟨ih (fun k hk=>h1 k (by omega)) (fun i j z z' hi hj=>h2 i j z z' (by omega) (by omega)),h1 n (by omega),fun a ha b hb=>?_⟩;obtain⟨z,hz,rfl⟩:=List.mem_map.1 ha;obtain⟨z',hz',rfl⟩:=List.mem_map.1 hb;obtain⟨k,hk,hz⟩:=mem_catP.1 hz;exact h2 k n z z' (by omega) (by omega) (by omega) hz hz'
theorem lp_nodup {okf:Nat→Nat→Prop}:∀{t:QT} {a:AT} {x y s lv:Int},ApT okf a→(∀p,LfIn a p→okf p p)→((lpT t a x y s lv).map Prod.fst).Nodup
 | .leaf _,.leaf _,_,_,_,_,_,_=>by simp[lpT]
 | .leaf _,.node ..,_,_,_,_,_,_=>by simp[lpT]
 | .node _,.leaf _,_,_,_,_,_,_=>by simp[lpT]
 | .node K,.node g A kc Ka,x,y,s,lv,⟨_,_,h3,h4⟩,hs=>by
  simp only[lpT];refine nodup_catP (fun k hk=>lp_nodup (t:=K k) (a:=Ka k) (h4 k hk) (fun p hp=>hs p ⟨k,hk,hp⟩)) (fun i j z z' hi hj hij hz hz' e=>?_);have l1:=lp_lf hz;have l2:=lp_lf hz';rw[←e] at l2;exact h3 i j z.1 hi hj hij (fp_lf l1 (hs _ ⟨i,hi,l1⟩)) (fp_lf l2 (hs _ ⟨i,hi,l1⟩))
def okW (w:World) (p b:Nat):Prop:=b=p∨∃v,w.cell? ⟨p,4,none⟩=some v∧v.ownBlock=some b
theorem STr.apart {w:World}:∀{t:QT} {ok:Nat→Prop} {x y s lv:Int} {g:Nat},STr ok w t x y s lv g→∃a,raT a=g∧SkT w t a x y s lv∧ApT (okW w) a∧(∀b,fpT (okW w) a b→ok b)∧∀z∈lpT t a x y s lv,STr (okW w z.1) w (.leaf z.2.l) z.2.x z.2.y z.2.s z.2.lv z.1
 | .leaf l,ok,x,y,s,lv,g,h=>by
  obtain⟨h1,iv,h2,h3,h4⟩:=h;have c4:=h2.c 4 rfl;refine⟨.leaf g,rfl,trivial,trivial,fun b hb=>?_,fun z hz=>?_⟩
  · rcases hb with hb | ⟨v,e1,e2⟩
    · subst hb;exact h1
    · rw[c4] at e1;cases e1;exact(h4 b e2).1
  · simp only[lpT,List.mem_singleton] at hz;subst hz;exact⟨.inl rfl,iv,h2,h3,fun b e=>⟨.inr ⟨iv,c4,e⟩,(h4 b e).2⟩⟩
 | .node K,ok,x,y,s,lv,g,h=>by
  obtain⟨h1,A,kc,gs,oks,h2,hA,hoA,hAg,hin,hap,h3⟩:=h;have hex:∀k,∃a,k<4→(raT a=gs k∧SkT w (K k) a (kX x (s / 2) k) (kY y (s / 2) k) (s / 2) (lv+1)∧ApT (okW w) a∧(∀b,fpT (okW w) a b→oks k b)∧∀z∈lpT (K k) a (kX x (s / 2) k) (kY y (s / 2) k) (s / 2) (lv+1),STr (okW w z.1) w (.leaf z.2.l) z.2.x z.2.y z.2.s z.2.lv z.1):=fun k=>by
   by_cases hk:k<4
   · obtain⟨a,ha⟩:=STr.apart (t:=K k) (h3 k hk).2;exact⟨a,fun _=>ha⟩
   · exact⟨.leaf 0,fun h=>absurd h hk⟩
  obtain⟨Ka,hKa⟩:=Classical.axiomOfChoice hex;refine⟨.node g A kc Ka,rfl,⟨h2,hA,fun k hk=>⟨by rw[(hKa k hk).1];exact(h3 k hk).1,(hKa k hk).2.1⟩⟩,⟨hAg,fun k b hk hb=>(hin k b hk ((hKa k hk).2.2.2.1 b hb)).2,fun i j b hi hj hij hb hb2=>hap i j b hi hj hij ((hKa i hi).2.2.2.1 b hb) ((hKa j hj).2.2.2.1 b hb2),fun k hk=>(hKa k hk).2.2.1⟩,fun b hb=>?_,fun z hz=>?_⟩
  · rcases hb with hb | hb | ⟨k,hk,hb⟩
    · subst hb;exact h1
    · subst hb;exact hoA
    · exact(hin k b hk ((hKa k hk).2.2.2.1 b hb)).1
  · simp only[lpT] at hz;obtain⟨k,hk,hz⟩:=mem_catP.1 hz;exact(hKa k hk).2.2.2.2 z hz
theorem STr.put {w:World} {okf:Nat→Nat→Prop} {Q:QD} {j:Nat} {mx D0:Int}:∀{t:QT} {a:AT} {x y s lv:Int},0≤s→SkT w t a x y s lv→ApT okf a→(∀z∈lpT t a x y s lv,STr (okf z.1) w (putT Q j mx (.leaf z.2.l) (D0-z.2.lv) z.2.x z.2.y z.2.s) z.2.x z.2.y z.2.s z.2.lv z.1)→STr (fpT okf a) w (putT Q j mx t (D0-lv) x y s) x y s lv (raT a)
 | .leaf l,.leaf g,x,y,s,lv,_,_,_,hl=>by
  have h:=hl (g,⟨x,y,s,lv,l⟩) (by simp[lpT]);exact STr.keep (Nat.le_refl _) (fun _ _ _=>rfl) (fun b hb _=>hb) h
 | .leaf _,.node ..,_,_,_,_,_,h,_,_=>h.elim
 | .node _,.leaf _,_,_,_,_,_,h,_,_=>h.elim
 | .node K,.node g A kc Ka,x,y,s,lv,hs,⟨h1,h2,h3⟩,⟨a1,a2,a3,a4⟩,hl=>by
  have ih:∀k,k<4→STr (fpT okf (Ka k)) w (putT Q j mx (K k) (D0-(lv+1)) (kX x (s / 2) k) (kY y (s / 2) k) (s / 2)) (kX x (s / 2) k) (kY y (s / 2) k) (s / 2) (lv+1) (raT (Ka k)):=fun k hk=>STr.put (t:=K k) (a:=Ka k) (by omega) (h3 k hk).2 (a4 k hk) (fun z hz=>hl z (by simp only[lpT];exact mem_catP.2 ⟨k,hk,hz⟩));cases hh:hitQ Q x y s j with
  | true=>
   rw[putT_hit hh];refine⟨.inl rfl,A,kc,fun k=>raT (Ka k),fun k=>fpT okf (Ka k),h1,h2,.inr (.inl rfl),a1,fun k b hk hb=>⟨.inr (.inr ⟨k,hk,hb⟩),a2 k b hk hb⟩,a3,fun k hk=>⟨(h3 k hk).1,?_⟩⟩;have h:=ih k hk;rw[show D0-(lv+1)=D0-lv-1 by omega] at h;exact h
  | false=>
   rw[putT_miss hh];refine⟨.inl rfl,A,kc,fun k=>raT (Ka k),fun k=>fpT okf (Ka k),h1,h2,.inr (.inl rfl),a1,fun k b hk hb=>⟨.inr (.inr ⟨k,hk,hb⟩),a2 k b hk hb⟩,a3,fun k hk=>⟨(h3 k hk).1,?_⟩⟩;have h:=ih k hk;rw[putT_miss (by cases h9:hitQ Q (kX x (s / 2) k) (kY y (s / 2) k) (s / 2) j with | false=>rfl | true=>rw[hit_kid hs hk h9] at hh;cases hh)] at h;exact h
theorem Tryz.infoPtrQ:(Tryz.prog.info? 55).map (fun i=>(i.zero,i.size,i.bytes))=some (some (.pointer none),1,8):=by kernel_rfl
theorem info_ptrQ:∃i0,Tryz.prog.info? 55=some i0∧i0.zero=some (.pointer none)∧i0.size=1∧i0.bytes=8:=by
 obtain⟨i,hi,hz⟩:=Option.map_eq_some_iff.1 Tryz.infoPtrQ;simp only[Prod.mk.injEq] at hz;exact⟨i,hi,hz.1,hz.2.1,hz.2.2⟩
def fsL (L:List (Nat×LQ)):List Nat:=L.map Prod.fst
theorem lp_len {w:World}:∀{t:QT} {a:AT} {x y s lv:Int},SkT w t a x y s lv→(lpT t a x y s lv).length=nlT t
 | .leaf _,.leaf _,_,_,_,_,_=>rfl
 | .leaf _,.node ..,_,_,_,_,h=>h.elim
 | .node _,.leaf _,_,_,_,_,h=>h.elim
 | .node K,.node g A kc Ka,x,y,s,lv,⟨_,_,h⟩=>by
  simp only[lpT,catP,List.nil_append,List.length_append];rw[lp_len (h 0 (by omega)).2,lp_len (h 1 (by omega)).2,lp_len (h 2 (by omega)).2,lp_len (h 3 (by omega)).2]
  rfl
theorem catP_len (f:Nat→List (Nat×LQ)) {k:Nat} (hk:k<4):(catP f k).length+(f k).length≤(f 0).length+(f 1).length+(f 2).length+(f 3).length:=by
 rcases(show k=0∨k=1∨k=2∨k=3 by omega) with h | h | h | h<;>subst h<;>simp[catP]<;>omega
theorem SkT.lt {w:World}:∀{t:QT} {a:AT} {x y s lv:Int},SkT w t a x y s lv→∀c,inB a c→c<w.heap.size
 | .leaf _,.leaf _,_,_,_,_,_,_,hc=>hc.elim
 | .leaf _,.node ..,_,_,_,_,h,_,_=>h.elim
 | .node _,.leaf _,_,_,_,_,h,_,_=>h.elim
 | .node K,.node g A kc Ka,x,y,s,lv,⟨h1,h2,h3⟩,c,hc=>by
  rcases hc with h | h | ⟨k,hk,h⟩
  · subst h;exact h1.lt
  · subst h;exact h2
  · exact SkT.lt (t:=K k) (a:=Ka k) (h3 k hk).2 c h
theorem SkT.step {w w' :World} (hB:Below w.heap.size w w') {t:QT} {a:AT} {x y s lv:Int} (h:SkT w t a x y s lv):SkT w' t a x y s lv:=SkT.keep hB.size h (fun c hc=>hB.block c (h.lt c hc))
theorem leavesS_any (t:QT):∀(a:AT) (x y s lv:Int) (w:World),nlT t≤1048576→SkT w t a x y s lv→(∀z∈lpT t a x y s lv,∃iv,BkB w z.1 z.2.x z.2.y z.2.s z.2.lv iv (.slice none 0 0))→Calls Tryz.prog 88 #[.pointer (some ⟨raT a,0,none⟩)] w (fun r w' =>∃v,r= .returned v∧w'.ownsRow w.heap.size 55 1 v (lpT t a x y s lv).length (ptL (fsL (lpT t a x y s lv)))∧Below w.heap.size w w'):=by
 obtain⟨i0,hi,hz0,hz1,hz2⟩:=info_ptrQ;have q:=fun(w:World) (a:Option Addr) (n c n' c' :Nat)=>Lib.run_eql_slice_nil (P:=Tryz.prog) w _ _ a n c n' c' Tryz.underlying81
 induction t with
 | leaf l=>
  intro a x y s lv w hn hS hL;cases a with
  | node g A kc Ka=>exact hS.elim
  | leaf g=>
  obtain⟨iv,B0⟩:=hL (g,⟨x,y,s,lv,l⟩) (by simp[lpT]);show Calls _ _ #[.pointer (some ⟨g,0,none⟩)] _ _;simp only at B0;have c5:=B0.c 5 rfl;have B1:Blk (w.alloc (.cells #[.pointer (some ⟨g,0,none⟩)] 55)) w.heap.size [.pointer (some ⟨g,0,none⟩)]:=Blk.new w [.pointer (some ⟨g,0,none⟩)] 55 rfl;clear hL hS
  go_enter Tryz.func88,Tryz.ntmps88
  go_wp2;go_ret;refine⟨_,rfl,?_,(Below.refl _ _).alloc (Nat.le_refl _) _⟩;exact⟨rfl,.inr ⟨w.heap.size,1,#[.pointer (some ⟨g,0,none⟩)],rfl,Nat.le_refl _,heap_alloc_new w _,Nat.le_refl _,by unfold maxLen;omega,rfl,rfl⟩⟩
 | node K ih=>
  intro a x y s lv w hn hS hL;cases a with
  | leaf g=>exact hS.elim
  | node g A kc Ka=>
  obtain⟨B0,hA,hk⟩:=hS;show Calls _ _ #[.pointer (some ⟨g,0,none⟩)] _ _;have HLEN:Hid (∀k,k<4→(catP (fun k=>lpT (K k) (Ka k) (kX x (s / 2) k) (kY y (s / 2) k) (s / 2) (lv+1)) k).length+(lpT (K k) (Ka k) (kX x (s / 2) k) (kY y (s / 2) k) (s / 2) (lv+1)).length≤1048576):=fun k hk4=>by
   have e:=catP_len (fun k=>lpT (K k) (Ka k) (kX x (s / 2) k) (kY y (s / 2) k) (s / 2) (lv+1)) hk4;have e0:=lp_len (hk 0 (by omega)).2;have e1:=lp_len (hk 1 (by omega)).2;have e2:=lp_len (hk 2 (by omega)).2;have e3:=lp_len (hk 3 (by omega)).2;have hnn:nlT (K 0)+nlT (K 1)+nlT (K 2)+nlT (K 3)≤1048576:=hn;simp only[e0,e1,e2,e3] at e
   omega
  have HPOS:Hid (∀k,k<4→0<(lpT (K k) (Ka k) (kX x (s / 2) k) (kY y (s / 2) k) (s / 2) (lv+1)).length∧nlT (K k)≤1048576):=fun k hk4=>by
   have e:=lp_len (hk k hk4).2;have hp2:=nl_pos (K k);have h9:=HLEN.out k hk4;rw[e] at h9⊢
   omega
  have HK:Hid (∀k,k<4→w.cell? ⟨A,k,none⟩=some (.pointer (some ⟨raT (Ka k),0,none⟩))∧SkT w (K k) (Ka k) (kX x (s / 2) k) (kY y (s / 2) k) (s / 2) (lv+1)):=hk;have HL:Hid (∀k,k<4→∀z∈lpT (K k) (Ka k) (kX x (s / 2) k) (kY y (s / 2) k) (s / 2) (lv+1),∃iv,BkB w z.1 z.2.x z.2.y z.2.s z.2.lv iv (.slice none 0 0)):=fun k hk4 z hz=>hL z (by simp only[lpT];exact mem_catP.2 ⟨k,hk4,hz⟩);have HF:Hid (lpT (.node K) (.node g A kc Ka) x y s lv=catP (fun k=>lpT (K k) (Ka k) (kX x (s / 2) k) (kY y (s / 2) k) (s / 2) (lv+1)) 4):=by show _=_;simp only[lpT]
  clear hk hL hn;obtain⟨f,hf⟩:∃f:Nat→List (Nat×LQ),(fun k=>lpT (K k) (Ka k) (kX x (s / 2) k) (kY y (s / 2) k) (s / 2) (lv+1))=f:=⟨_,rfl⟩;have hfk:∀k,lpT (K k) (Ka k) (kX x (s / 2) k) (kY y (s / 2) k) (s / 2) (lv+1)=f k:=fun k=>congrFun hf k;simp only[hfk] at HLEN HPOS HL HF;have HFK:Hid (∀k,lpT (K k) (Ka k) (kX x (s / 2) k) (kY y (s / 2) k) (s / 2) (lv+1)=f k):=hfk;rw[HF.out];clear hf hfk HF;have c5:=B0.c 5 rfl
  go_enter Tryz.func88,Tryz.ntmps88
  go_wp2_with fail
  go_loopw [3,18] (fun out i wr=>∃(k:Nat),k≤4∧i= .int .i64 k∧wr.ownsRow w.heap.size 55 1 out (catP f k).length (ptL (fsL (catP f k)))∧Below w.heap.size w wr) (fun _ i _=>4-(intOf i).toNat)
  case atStart=>exact⟨0,by omega,rfl,World.ownsRow_nil _ _ _ _,Below.refl _ _⟩
  case round=>
   obtain⟨k,hk,rfl,HO,HB⟩:=hrel
   by_cases hk4:k<4
   · have hkI:(k:Int)<4:=by omega
     obtain⟨ck,hSk⟩:=HK.out k hk4;have hlen:=HLEN.out k hk4;obtain⟨hp0,hnk⟩:=HPOS.out k hk4;have C:=ih k (Ka k) (kX x (s / 2) k) (kY y (s / 2) k) (s / 2) (lv+1) wr hnk (SkT.step HB hSk) (fun z hz=>by
      rw[HFK.out k] at hz;obtain⟨iv,B9⟩:=HL.out k hk4 z hz;exact⟨iv,B9.step HB⟩)
     rw[HFK.out k] at C;have cw:=(HB.cell (p:=⟨A,k,none⟩) hA).trans ck;go_wp2_with fail;refine C.mono ?_;rintro r w1 ⟨v2,rfl,HO2,hB1⟩;obtain⟨n2,hn2⟩:∃n2,(f k).length=n2:=⟨_,rfl⟩;obtain⟨n1,hn1⟩:∃n1,(catP f k).length=n1:=⟨_,rfl⟩;rw[hn2] at HO2 hlen hp0;rw[hn1] at HO hlen;have HN:Hid ((catP f (k+1)).length=n1+n2):=by show _=_;rw[catP,List.length_append,hn1,hn2]
     have hl2:(ptL (fsL (f k))).length=n2:=by rw[ptL_len];unfold fsL;rw[List.length_map,hn2]
     clear hn1 hn2;obtain⟨g2,c2,rfl,h21,h22,h23,h24⟩:=ownQ_form HO2 (by omega);have HO1:=ownA_step HO hB1;have HB1:=HB.trans (hB1.mono HB.size);clear HO hB1 HB C cw
     go_wp2_with (at_builtin;go_loud (refine wpList_append_own_at _ rfl _ _ 81 rfl w.heap.size 55 i0 (.pointer none) 1 8 Tryz.underlying81 hi hz0 hz1 hz2 rfl (by decide) _ _ _ rfl HO1 ⟨g2,0,none⟩ n2 c2 (ptL (fsL (f k))) rfl (by rw[hl2];omega) (HO2.cells rfl) (ptL_one _) (by unfold maxLen;omega) (by omega) HB1.size ?_))
     intro v' w' hown hgrow _ _;rw[←ptL_app] at hown;have HBN:=HB1.grown hgrow HB1.size (fun k hk=>(HO1.lt k hk).1);have hownN:w'.ownsRow w.heap.size 55 1 v' (catP f (k+1)).length (ptL (fsL (catP f (k+1)))):=by
      rw[HN.out];have e9:fsL (catP f (k+1))=fsL (catP f k) ++fsL (f k):=by unfold fsL;rw[catP,List.map_append]
      rw[e9];exact hown
     clear HO1 HO2 HB1 hgrow hown hl2;go_wp2;go_roundw
     case rel=>exact⟨k+1,by omega,by go_num,hownN,HBN⟩
     case measure=>simp[intOf];omega
   · obtain rfl:k=4:=by omega
     go_wp2;go_ret;exact⟨_,rfl,HO,HB⟩
def QwNil (W:List Oper→Act→Prop) (Q:Exit→Act→World→Prop) (w:World):Prop:=∀a,(∀n,Q .normal a (w.drewN n))→W [] a
def QwStep (W:List Oper→Act→Prop) (P:Program) (l:List Oper) (w:World):Prop:=
 ∀o rest a,(∀K:Act→Prop,(∀a,W rest a→K a)→if Region.wanted o (yielded l.toArray a.tmps) then o.quiet P a (fun w' =>∃n,w' =w.drewN n) K else K (a.put o.dst undef))→W (o::rest) a
theorem wp_region_qw {P:Program} {id:Nat} {Q:Exit→Act→World→Prop} {a:Act} {w:World} {l:List Oper} (hm:P.follows .mixedOrders=true) (hB:Region.lexB .any l.toArray=true)
 (h:∀W:List Oper→Act→Prop,QwNil W Q w→QwStep W P l w→W l a):(Code.region id l.toArray true).wp P Q a w:=
 wp_region_quiet_lit hm hB (h (wpQuiet P l.toArray (fun w' =>∃n,w' =w.drewN n) (fun a' =>∀w',(∃n,w' =w.drewN n)→Q .normal a' w'))
  (fun _ h=>wpQuiet_nil (fun _ ⟨n,hn⟩=>hn▸h n)) (fun _ _ _ h=>wpQuiet_step h))
theorem canL_map (Q:QD) (x y s:Int):idV Q (flQ Q (List.range Q.m) x y s)=(canL Q x y s).map (Value.int .i64):=by simp[idV,canL,idL]
theorem canF_len (Q:QD) (x y s:Int):(flQ Q (List.range Q.m) x y s).length=(canL Q x y s).length:=by simp[canL,idL]
theorem leaf_of {Q:QD} {w w' :World} {g:Nat} {x y s lv:Int} {v:Value} (B:BkB w' g x y s lv v (.slice none 0 0)) (hO:w'.ownsRow w.heap.size 2 1 v (flQ Q (List.range Q.m) x y s).length (idV Q (flQ Q (List.range Q.m) x y s))) (hg:g<w.heap.size):STr (okB g w.heap.size) w' (.leaf (canL Q x y s)) x y s lv g:=
 ⟨.inl rfl,v,B,by rw[←canL_map,←canF_len];exact ownQ_base hO,fun b e=>by have:=(World.ownsRow.lt hO b e).1;exact⟨.inr this,by omega⟩⟩
theorem split_any (Q:QD) (g gq:Nat) (x y s lv m d:Int) (ids pv:Value) (io:Option Addr) (ic:Nat) (hq:Sq x y s) (hl0:0≤lv) (hl8:lv≤1000) (h6:Its6 Q (List.range Q.m)) (hm:Q.m≤1048576) (w:World) (B0:BkB w g x y s lv ids (.slice none 0 0)) (BQ:Blk w gq [.int .i64 m,.int .i64 d,.slice io Q.m ic,pv]) (hgq:gq≠g) (hS:ItIn Q w io (List.range Q.m)) (hio:∀A o sp,io=some ⟨A,o,sp⟩→A≠g∧A<w.heap.size):Calls Tryz.prog 90 #[.pointer (some ⟨gq,0,none⟩),.pointer (some ⟨g,0,none⟩)] w (fun r w' =>r= .returned (.tuple #[])∧STr (okB g w.heap.size) w' (.node fun k=> .leaf (canL Q (kX x (s / 2) k) (kY y (s / 2) k) (s / 2))) x y s lv g∧w.grownBy w' (some g)):=by
 have y4:=B0.c 4 rfl;have f4:=B0.f 4 rfl;have B1:BkB (w.setCell ⟨g,4,none⟩ (.slice none 0 0)) g x y s lv (.slice none 0 0) (.slice none 0 0):=B0.setI 4 (by simp) (.slice none 0 0);have HG:w.grownBy (w.setCell ⟨g,4,none⟩ (.slice none 0 0)) (some g):=grown_set (Below.refl _ _) 4 _;have BQ1:=BQ.grown HG (fun e=>hgq (Option.some.inj e));have hS1:=hS.grown HG (fun A o sp e=>(hio A o sp e).1);have hgl:=B0.lt;have hgql:=BQ.lt;have hs1:(w.setCell ⟨g,4,none⟩ (.slice none 0 0)).heap.size=w.heap.size:=by simp[World.setCell]
 clear B0 BQ hS
 go_enter Tryz.func90,Tryz.ntmps90
 go_upto_region 1 with fail;clear y4 f4;generalize (w.setCell ⟨g,4,none⟩ (.slice none 0 0))=W1 at *;have QT:=quarters_any g x y s lv _ _ hq hl0 hl8 W1 B1;obtain⟨hf,hhf⟩:∃hf,s / 2=hf:=⟨_,rfl⟩;have HHF:Hid (s / 2=hf):=hhf;rw[hhf] at QT;clear hhf;go_wp2_with fail;refine QT.mono ?_;rintro r w2 ⟨kv,gs,rfl,HK,hB2⟩;clear QT;have hwy2:=hB2.size;replace B1:=B1.step hB2;replace BQ1:=BQ1.step hB2;replace hS1:=hS1.step hB2;replace HG:=grown_trans HG (grown_of hB2 _);clear hB2;obtain⟨kb,kc,hkv,hkb0,hkb1⟩:∃kb kc,kv= .slice (some ⟨kb,0,none⟩) 4 kc∧W1.heap.size≤kb∧kb<w2.heap.size:=by
  rcases HK.own.2 with ⟨_,e⟩ | ⟨b,c,cur,e,hb,hg2,_⟩
  · cases e
  · exact⟨b,c,e,hb,(Array.getElem?_eq_some_iff.1 hg2).1⟩
 subst hkv;have y5:=B1.c 5 rfl;have f5:=B1.f 5 rfl;have B3:BkB (w2.setCell ⟨g,5,none⟩ (.slice (some ⟨kb,0,none⟩) 4 kc)) g x y s lv (.slice none 0 0) (.slice (some ⟨kb,0,none⟩) 4 kc):=B1.setI 5 (by simp) (.slice (some ⟨kb,0,none⟩) 4 kc);have HG3:w2.grownBy (w2.setCell ⟨g,5,none⟩ (.slice (some ⟨kb,0,none⟩) 4 kc)) (some g):=grown_set (Below.refl _ _) 5 _;have BQ3:=BQ1.grown HG3 (fun e=>hgq (Option.some.inj e));have hS3:=hS1.grown HG3 (fun A o sp e=>(hio A o sp e).1);have KD:∀j,j<4→BkB (w2.setCell ⟨g,5,none⟩ (.slice (some ⟨kb,0,none⟩) 4 kc)) (gs j) (kX x hf j) (kY y hf j) hf (lv+1) (.slice none 0 0) (.slice none 0 0):=fun j hj=>(HK.kid j hj).2.grown HG3 (fun e=>by have:=Option.some.inj e;have:=(HK.kid j hj).1;omega);have hs3:(w2.setCell ⟨g,5,none⟩ (.slice (some ⟨kb,0,none⟩) 4 kc)).heap.size=w2.heap.size:=by simp[World.setCell]
 have KG:Hid (∀j,j<4→W1.heap.size≤gs j∧gs j<w2.heap.size):=fun j hj=>⟨(HK.kid j hj).1,(HK.kid j hj).2.lt⟩;have KC:∀j,j<4→(w2.setCell ⟨g,5,none⟩ (.slice (some ⟨kb,0,none⟩) 4 kc)).cell? ⟨kb,j,none⟩=some (.pointer (some ⟨gs j,0,none⟩)):=fun j hj=>by
  have h:=HK.own.cells rfl j (.pointer (some ⟨gs j,0,none⟩)) (by unfold gpL;simp[hj]);rw[Addr.add_lit,Nat.zero_add] at h;rw[←h];exact World.cell?_of_block (w:=w2) (a:=⟨kb,j,none⟩) (HG3.block kb hkb1 (fun e=>by have:=Option.some.inj e;omega))
 have KN:Hid (∀j,j<4→gs j≠kb):=fun j hj e=>HK.d1 j hj (by rw[e];rfl);have KD2:Hid (∀i j,i<4→j<4→i≠j→gs i≠gs j):=HK.d2;replace HG:=grown_trans HG HG3;clear B1 BQ1 hS1 HK HG3;go_upto_region 2 with fail;clear y5 f5;generalize (w2.setCell ⟨g,5,none⟩ (.slice (some ⟨kb,0,none⟩) 4 kc))=w3 at *;obtain⟨T,hT⟩:∃T:Nat→QT,(fun k=> .leaf (canL Q (kX x hf k) (kY y hf k) hf))=T:=⟨_,rfl⟩;have HT:Hid ((fun k=> .leaf (canL Q (kX x hf k) (kY y hf k) hf))=T):=hT;clear hT;have b5:=B3.c 5 rfl;go_wp2_with fail
 go_loopw [19] (fun i wr=>∃(k:Nat) (oks:Nat→Nat→Prop),k≤4∧i= .int .i64 k∧KidS T x y hf lv gs w3.heap.size wr k oks∧(∀j,k≤j→j<4→BkB wr (gs j) (kX x hf j) (kY y hf j) hf (lv+1) (.slice none 0 0) (.slice none 0 0))∧(∀j,j<4→wr.cell? ⟨kb,j,none⟩=some (.pointer (some ⟨gs j,0,none⟩)))∧BkB wr g x y s lv (.slice none 0 0) (.slice (some ⟨kb,0,none⟩) 4 kc)∧Blk wr gq [.int .i64 m,.int .i64 d,.slice io Q.m ic,pv]∧ItIn Q wr io (List.range Q.m)∧w.grownBy wr (some g)∧w3.heap.size≤wr.heap.size) (fun i _=>4-(intOf i).toNat)
 case atStart=>exact⟨0,fun _ _=>False,by omega,rfl,⟨fun j hj=>absurd hj (by omega),fun j b hj=>absurd hj (by omega),fun i j b hi=>absurd hi (by omega)⟩,fun j _ hj=>KD j hj,KC,B3,BQ3,hS3,HG,Nat.le_refl _⟩
 case round=>
  clear KD KC B3 BQ3 hS3 HG b5;obtain⟨k,oks,hk,rfl,HKS,KDk,KCk,B3k,BQk,hSk,HGk,hwk⟩:=hrel;have HKS:Hid (KidS T x y hf lv gs w3.heap.size wr k oks):=HKS
  by_cases hk4:k<4
  · have hkI:(k:Int)<4:=by omega
    have ck:=KCk k hk4;have q2:=BQk.c 2 rfl;have hkg:=KG.out k hk4;have hsq:=hq.kid hk4;rw[HHF.out] at hsq;have FL:=fill_any Q (gs k) (kX x hf k) (kY y hf k) hf (lv+1) _ _ io ic (List.range Q.m) hsq h6 (by rw[List.length_range];exact hm) wr (KDk k (Nat.le_refl _) hk4) hSk;rw[show(List.range Q.m).length=Q.m from List.length_range] at FL;have HKD:Hid (∀j,k≤j→j<4→BkB wr (gs j) (kX x hf j) (kY y hf j) hf (lv+1) (.slice none 0 0) (.slice none 0 0)):=KDk;have HKC:Hid (∀j,j<4→wr.cell? ⟨kb,j,none⟩=some (.pointer (some ⟨gs j,0,none⟩))):=KCk;clear KDk KCk;go_wp2_with fail;refine FL.mono ?_;rintro r w5 ⟨rfl,v5,B5,_,HO5,HG5⟩;have hkl:gs k<wr.heap.size:=by omega
    have hln:STr (okB (gs k) wr.heap.size) w5 (T k) (kX x hf k) (kY y hf k) hf (lv+1) (gs k):=by rw[←HT.out];exact leaf_of B5 HO5 hkl
    have HKN:Hid (∃oks',KidS T x y hf lv gs w3.heap.size w5 (k+1) oks'):=HKS.out.more HG5 hwk hln (by omega) (fun i hi=>by have:=(KG.out i (by omega)).2;omega) (fun i hi=>KD2.out i k (by omega) hk4 (by omega));have KDN:Hid (∀j,k+1≤j→j<4→BkB w5 (gs j) (kX x hf j) (kY y hf j) hf (lv+1) (.slice none 0 0) (.slice none 0 0)):=fun j h1 h2=>(HKD.out j (by omega) h2).grown HG5 (fun e=>KD2.out j k h2 hk4 (by omega) (Option.some.inj e));have KCN:Hid (∀j,j<4→w5.cell? ⟨kb,j,none⟩=some (.pointer (some ⟨gs j,0,none⟩))):=fun j hj=>(World.cell?_of_block (w:=wr) (a:=⟨kb,j,none⟩) (HG5.block kb (by omega) (fun e=>KN.out k hk4 (Option.some.inj e).symm))).trans (HKC.out j hj);have B3N:=B3k.grown HG5 (fun e=>by have:=Option.some.inj e;omega);have BQN:=BQk.grown HG5 (fun e=>by have:=Option.some.inj e;omega);have hSN:=hSk.grown HG5 (fun A o sp e=>by have:=(hio A o sp e).2;omega);have HGN:w.grownBy w5 (some g):=grown_new HGk (by omega) HG5;have hwN:=Nat.le_trans hwk HG5.size;clear FL HG5 HO5 B5 hln q2 ck HKD HKC B3k BQk hSk HGk hwk HKS;go_wp2;go_roundw
    case rel=>
     obtain⟨oks',hks'⟩:=HKN.out;exact⟨k+1,oks',by omega,by go_num,hks',KDN.out,KCN.out,B3N,BQN,hSN,HGN,hwN⟩
    case measure=>simp[intOf];omega
  · obtain rfl:k=4:=by omega
    have HF:Hid (STr (okB g w.heap.size) wr (.node fun k=> .leaf (canL Q (kX x (s / 2) k) (kY y (s / 2) k) (s / 2))) x y s lv g):=by
     obtain⟨hk1,hk2,hk3⟩:=HKS.out;rw[HHF.out];refine⟨.inl rfl,kb,kc,gs,oks,B3k,by omega,.inr (by omega),by omega,fun j b hj hb=>?_,hk3,fun j hj=>⟨KCk j hj,?_⟩⟩
     · have h8:=(KG.out j hj).1;have h9:=KN.out j hj
       rcases hk2 j b hj hb with h | ⟨h,_⟩
       · subst h;exact⟨.inr (by omega),by omega,h9⟩
       · exact⟨.inr (by omega),by omega,by omega⟩
     · have h7:=hk1 j hj;rw[←HT.out] at h7;rw[HHF.out];exact h7
    clear HKS KDk KCk B3k BQk hSk;go_wp2
    go_end0
    exact⟨rfl,HF.out,HGk⟩
theorem lp_sq:∀{t:QT} {a:AT} {D:Nat} {x y s lv:Int},Sq x y s→dpB D t→∀z∈lpT t a x y s lv,Sq z.2.x z.2.y z.2.s∧lv≤z.2.lv∧z.2.lv≤lv+(D:Int)
 | .leaf l,.leaf g,D,x,y,s,lv,hq,_,z,hz=>by
  simp only[lpT,List.mem_singleton] at hz;subst hz;exact⟨hq,Int.le_refl _,by show lv≤lv+(D:Int);omega⟩
 | .leaf _,.node ..,_,_,_,_,_,_,_,z,hz=>by simp[lpT] at hz
 | .node _,.leaf _,_,_,_,_,_,_,_,z,hz=>by simp[lpT] at hz
 | .node K,.node g A kc Ka,0,x,y,s,lv,hq,hd,z,hz=>hd.elim
 | .node K,.node g A kc Ka,D+1,x,y,s,lv,hq,hd,z,hz=>by
  simp only[lpT] at hz;obtain⟨k,hk,hz⟩:=mem_catP.1 hz;obtain⟨h1,h2,h3⟩:=lp_sq (t:=K k) (a:=Ka k) (D:=D) (hq.kid hk) (hd k hk) z hz;exact⟨h1,by omega,by omega⟩
structure Frm (ok:Nat→Prop) (w w' :World):Prop where
 os:w'.os=w.os
 tape:w'.tape=w.tape
 output:w'.output=w.output
 size:w.heap.size≤w'.heap.size
 block:∀b,b<w.heap.size→¬ok b→w'.heap[b]? =w.heap[b]?
theorem Frm.refl (ok:Nat→Prop) (w:World):Frm ok w w:=⟨rfl,rfl,rfl,Nat.le_refl _,fun _ _ _=>rfl⟩
theorem Frm.grown {ok:Nat→Prop} {w w1 w2:World} {p:Nat} (h:Frm ok w w1) (hg:w1.grownBy w2 (some p)) (hp:ok p∨w.heap.size≤p):Frm ok w w2:=
 ⟨hg.os.trans h.os,hg.tape.trans h.tape,hg.output.trans h.output,Nat.le_trans h.size hg.size,fun b hb hn=>(hg.block b (Nat.lt_of_lt_of_le hb h.size) (fun e=>by
  have e2:=Option.some.inj e
  rcases hp with h1 | h1
  · exact hn (by rw[e2];exact h1)
  · omega)).trans (h.block b hb hn)⟩
theorem Frm.blk {ok:Nat→Prop} {w w' :World} {g:Nat} {vs:List Value} (h:Frm ok w w') (B:Blk w g vs) (hn:¬ok g):Blk w' g vs:=B.keep h.size (h.block g B.lt hn)
theorem Frm.below {ok:Nat→Prop} {w w' :World} (h:Frm ok w w') {B:Nat} (hB:B≤w.heap.size) (hok:∀b,ok b→B≤b):Below B w w' :=
 ⟨h.os,h.tape,h.output,h.size,fun b hb=>h.block b (by omega) (fun e=>by have:=hok b e;omega)⟩
def PutI (Q:QD) (j:Nat) (m d:Int) (t:QT) (a:AT) (x y s lv:Int) (ok:Nat→Prop) (w1:World) (c:Nat) (wr:World):Prop:=
 ∃okf,ApT okf a∧(∀p,LfIn a p→okf p p)∧SkT wr t a x y s lv∧
  (∀z∈(lpT t a x y s lv).take c,STr (okf z.1) wr (putT Q j m (.leaf z.2.l) (d-z.2.lv) z.2.x z.2.y z.2.s) z.2.x z.2.y z.2.s z.2.lv z.1)∧
  (∀z∈(lpT t a x y s lv).drop c,STr (okf z.1) wr (.leaf z.2.l) z.2.x z.2.y z.2.s z.2.lv z.1)∧
  (∀b,fpT okf a b→(ok b∨w1.heap.size≤b)∧b<wr.heap.size)∧Frm ok w1 wr
theorem take_next {L:List (Nat×LQ)} {c:Nat} {z z' :Nat×LQ} (hz:L[c]? =some z) (h:z' ∈L.take (c+1)):z' ∈L.take c∨z' =z:=by
 rw[List.take_add_one,hz] at h
 rcases List.mem_append.1 h with h | h
 · exact .inl h
 · exact .inr (by simpa using h)
theorem drop_at {L:List (Nat×LQ)} {c:Nat} {z:Nat×LQ} (hz:L[c]? =some z):L.drop c=z::L.drop (c+1):=by
 obtain⟨h1,h2⟩:=List.getElem?_eq_some_iff.1 hz;rw[←h2];exact List.drop_eq_getElem_cons h1
theorem others_ne {L:List (Nat×LQ)} {c:Nat} {z:Nat×LQ} (hn:(L.map Prod.fst).Nodup) (hz:L[c]? =some z):(∀z' ∈L.take c,z'.1≠z.1)∧∀z' ∈L.drop (c+1),z'.1≠z.1:=by
 have hL:L=L.take c ++z::L.drop (c+1):=by rw[←drop_at hz,List.take_append_drop]
 rw[hL,List.map_append,List.map_cons,List.nodup_append,List.nodup_cons] at hn;obtain⟨_,⟨h2,_⟩,h3⟩:=hn;refine⟨fun z' hz' =>h3 _ (List.mem_map.2 ⟨z',hz',rfl⟩) _ (by simp),fun z' hz' e=>h2 (List.mem_map.2 ⟨z',hz',e⟩)⟩
theorem PutI.next {Q:QD} {j:Nat} {m d:Int} {t:QT} {a:AT} {x y s lv:Int} {ok:Nat→Prop} {w1:World} {c:Nat} {wr w5:World} {z:Nat×LQ} (h:PutI Q j m d t a x y s lv ok w1 c wr) (hz:(lpT t a x y s lv)[c]? =some z) (hg:wr.grownBy w5 (some z.1)) (hn:STr (okB z.1 wr.heap.size) w5 (putT Q j m (.leaf z.2.l) (d-z.2.lv) z.2.x z.2.y z.2.s) z.2.x z.2.y z.2.s z.2.lv z.1):PutI Q j m d t a x y s lv ok w1 (c+1) w5:=by
 obtain⟨okf,h1,h2,h3,h4,h5,h6,h7⟩:=h;have hmz:z∈lpT t a x y s lv:=List.mem_of_getElem? hz;have hlf:=lp_lf hmz;obtain⟨o1,o2⟩:=others_ne (lp_nodup h1 h2) hz;have hsz:=hg.size;have h16:=h7.size;have hkeep:∀z' ∈lpT t a x y s lv,z'.1≠z.1→∀b,okf z'.1 b→b<wr.heap.size→w5.heap[b]? =wr.heap[b]? :=fun z' hz' hne b hb hl=>hg.block b hl (fun e=>by
  have e2:=Option.some.inj e;subst e2;exact h1.apart (lp_lf hz') hlf hne hb (h2 _ hlf))
 refine⟨fun p b=>okf p b∨(p=z.1∧(wr.heap.size≤b∧b<w5.heap.size)),ApT.upd (h2 _ hlf) h1 (fun b hb hf=>by have:=(h6 b hf).2;omega),fun p hp=> .inl (h2 p hp),?_,fun z' hz' =>?_,fun z' hz' =>?_,fun b hb=>?_,h7.grown hg (h6 _ (fp_lf hlf (h2 _ hlf))).1⟩
 · exact SkT.keep hsz h3 (fun b hb=>hg.block b (h3.lt b hb) (fun e=>by
    have e2:=Option.some.inj e;subst e2;exact h1.inner hb hlf (h2 _ hlf)))
 · rcases take_next hz hz' with hz' | hz'
   · exact STr.keep hsz (hkeep z' (List.mem_of_mem_take hz') (o1 z' hz')) (fun b hb _=> .inl hb) (h4 z' hz')
   · subst hz';exact STr.keep (Nat.le_refl _) (fun _ _ _=>rfl) (fun b hb hl=>by
      rcases hb with hb | hb
      · subst hb;exact .inl (h2 _ hlf)
      · exact .inr ⟨rfl,hb,hl⟩) hn
 · exact STr.keep hsz (hkeep z' (List.mem_of_mem_drop hz') (o2 z' hz')) (fun b hb _=> .inl hb) (h5 z' (by rw[drop_at hz];exact List.mem_cons_of_mem _ hz'))
 · rcases fp_upd hb with h | ⟨_,h⟩
   · exact⟨(h6 b h).1,by have:=(h6 b h).2;omega⟩
   · exact⟨.inr (by omega),h.2⟩
theorem PutI.step {Q:QD} {j:Nat} {m d:Int} {t:QT} {a:AT} {x y s lv:Int} {ok:Nat→Prop} {w1:World} {c:Nat} {wr w5:World} (h:PutI Q j m d t a x y s lv ok w1 c wr) (hB:Below wr.heap.size wr w5):PutI Q j m d t a x y s lv ok w1 c w5:=by
 obtain⟨okf,h1,h2,h3,h4,h5,h6,h7⟩:=h;exact⟨okf,h1,h2,h3.step hB,fun z hz=>(h4 z hz).step hB,fun z hz=>(h5 z hz).step hB,fun b hb=>⟨(h6 b hb).1,Nat.lt_of_lt_of_le (h6 b hb).2 hB.size⟩,⟨hB.os.trans h7.os,hB.tape.trans h7.tape,hB.output.trans h7.output,Nat.le_trans h7.size hB.size,fun b hb hn=>(hB.block b (Nat.lt_of_lt_of_le hb h7.size)).trans (h7.block b hb hn)⟩⟩
end Go.Proofs.YthelolpogdcmhaaGreat
