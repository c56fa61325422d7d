/- Part 13 of the walks that the proof leans on. -/
import Derived.Test.YthelolpogdcmhaaGreatQx12
import Derived.Test.YthelolpogdcmhaaGreatQx8
set_option maxRecDepth 100000
set_option maxHeartbeats 16000000
namespace Go.Proofs.YthelolpogdcmhaaGreat
open Go.RowKit
theorem PutI.start {Q:QD} {j:Nat} {m d:Int} {t:QT} {a:AT} {x y s lv:Int} {ok:Nat→Prop} {okf:Nat→Nat→Prop} {w1:World} (h3:SkT w1 t a x y s lv) (h1:ApT okf a) (h0:∀p,okf p p) (hb:∀b,fpT okf a b→ok b∧b<w1.heap.size) (hl:∀z∈lpT t a x y s lv,STr (okf z.1) w1 (.leaf z.2.l) z.2.x z.2.y z.2.s z.2.lv z.1):PutI Q j m d t a x y s lv ok w1 0 w1:=
 ⟨okf,h1,fun p _=>h0 p,h3,fun z hz=>by simp at hz,fun z hz=>hl z (by simpa using hz),fun b hf=>⟨.inl (hb b hf).1,(hb b hf).2⟩,Frm.refl _ _⟩
theorem PutI.done {Q:QD} {j:Nat} {m d:Int} {t:QT} {a:AT} {x y s:Int} {ok:Nat→Prop} {w1 wr:World} (hs:0≤s) (h:PutI Q j m d t a x y s 0 ok w1 (lpT t a x y s 0).length wr):∃ok',STr ok' wr (putT Q j m t d x y s) x y s 0 (raT a)∧(∀b,ok' b→ok b∨w1.heap.size≤b)∧Frm ok w1 wr:=by
 obtain⟨okf,h1,h2,h3,h4,h5,h6,h7⟩:=h;refine⟨fpT okf a,?_,fun b hb=>(h6 b hb).1,h7⟩;have h:=STr.put (D0:=d) hs h3 h1 (fun z hz=>h4 z (by rw[List.take_length];exact hz));rw[Int.sub_zero] at h;exact h
theorem PutI.leaf {Q:QD} {j:Nat} {m d:Int} {t:QT} {a:AT} {x y s lv:Int} {ok:Nat→Prop} {w1:World} {c:Nat} {wr:World} {z:Nat×LQ} (h:PutI Q j m d t a x y s lv ok w1 c wr) (hz:(lpT t a x y s lv)[c]? =some z):∃iv,BkB wr z.1 z.2.x z.2.y z.2.s z.2.lv iv (.slice none 0 0)∧(ok z.1∨w1.heap.size≤z.1):=by
 obtain⟨okf,h1,h2,h3,h4,h5,h6,h7⟩:=h;obtain⟨_,iv,h8,_⟩:=h5 z (by rw[drop_at hz];simp);have hlf:=lp_lf (List.mem_of_getElem? hz);exact⟨iv,h8,(h6 _ (fp_lf hlf (h2 _ hlf))).1⟩
theorem PutI.skip {Q:QD} {j:Nat} {m d:Int} {t:QT} {a:AT} {x y s lv:Int} {ok:Nat→Prop} {w1:World} {c:Nat} {wr:World} {z:Nat×LQ} (h:PutI Q j m d t a x y s lv ok w1 c wr) (hz:(lpT t a x y s lv)[c]? =some z) (he:putT Q j m (.leaf z.2.l) (d-z.2.lv) z.2.x z.2.y z.2.s= .leaf z.2.l):PutI Q j m d t a x y s lv ok w1 (c+1) wr:=by
 obtain⟨okf,h1,h2,h3,h4,h5,h6,h7⟩:=h;refine⟨okf,h1,h2,h3,fun z' hz' =>?_,fun z' hz' =>h5 z' (by rw[drop_at hz];exact List.mem_cons_of_mem _ hz'),h6,h7⟩
 rcases take_next hz hz' with hz' | hz'
 · exact h4 z' hz'
 · subst hz';rw[he];exact h5 z' (by rw[drop_at hz];simp)
theorem Frm.trans {ok:Nat→Prop} {w w1 w2:World} (h:Frm ok w w1) (k:Frm ok w1 w2):Frm ok w w2:=
 ⟨k.os.trans h.os,k.tape.trans h.tape,k.output.trans h.output,Nat.le_trans h.size k.size,fun b hb hn=>(k.block b (Nat.lt_of_lt_of_le hb h.size) hn).trans (h.block b hb hn)⟩
theorem PutI.frm {Q:QD} {j:Nat} {m d:Int} {t:QT} {a:AT} {x y s lv:Int} {ok:Nat→Prop} {w1:World} {c:Nat} {wr:World} (h:PutI Q j m d t a x y s lv ok w1 c wr):Frm ok w1 wr:=by
 obtain⟨okf,h1,h2,h3,h4,h5,h6,h7⟩:=h;exact h7
theorem Frm.items {Q:QD} {ok:Nat→Prop} {w w' :World} {ao:Option Addr} {l:List Nat} (h:Frm ok w w') (hS:ItIn Q w ao l) (hn:∀A o sp,ao=some ⟨A,o,sp⟩→¬ok A):ItIn Q w' ao l:=fun j i hj=>by
 obtain⟨A,o,e,hA,c0,c1,c2,c3,c4⟩:=hS j i hj;have hb:∀k,w'.cell? ⟨A,k,none⟩=w.cell? ⟨A,k,none⟩:=fun k=>World.cell?_of_block (w:=w) (a:=⟨A,k,none⟩) (h.block A hA (hn A o none e));exact⟨A,o,e,Nat.lt_of_lt_of_le hA h.size,(hb _).trans c0,(hb _).trans c1,(hb _).trans c2,(hb _).trans c3,(hb _).trans c4⟩
theorem putLeaf {Q:QD} {j:Nat} {mx D:Int} {l:List Int} {x y s:Int}:putT Q j mx (.leaf l) D x y s=if hitQ Q x y s j=true then(if ((canL Q x y s).length:Int)≤mx∨D<1 then .leaf (canL Q x y s) else .node (fun k=> .leaf (canL Q (kX x (s / 2) k) (kY y (s / 2) k) (s / 2)))) else .leaf l:=rfl
theorem okB_grow {g w1 w2 b:Nat} (h:okB g w2 b) (hw:w1≤w2):okB g w1 b:=by
 rcases h with h | h
 · exact .inl h
 · exact .inr (by omega)
def PutP (Q:QD) (j:Nat) (m d:Int) (t:QT) (gr:Nat) (ok:Nat→Prop) (w:World) (r:Ending) (w' :World):Prop:=
 r= .returned (.tuple #[])∧∃ok',STr ok' w' (putT Q j m t d (-1048576) (-1048576) 2097152) (-1048576) (-1048576) 2097152 0 gr∧(∀b,ok' b→(ok b∧b<w.heap.size)∨w.heap.size≤b)∧Frm (fun b=>ok b∧b<w.heap.size) w w'
theorem quadPut_any (Q:QD) (j D:Nat) (m d:Int) (t:QT) (gq gr:Nat) (io:Option Addr) (ic:Nat) (ok:Nat→Prop) (w:World) (hj:j<Q.m) (hd:(D:Int)=d) (hd8:d≤8) (hdp:dpB D t) (hn:nlT t≤1048576) (h6:Its6 Q (List.range Q.m)) (hm:Q.m≤1048576) (hT:STr ok w t (-1048576) (-1048576) 2097152 0 gr) (BQ:Blk w gq [.int .i64 m,.int .i64 d,.slice io Q.m ic,.pointer (some ⟨gr,0,none⟩)]) (hgq:¬ok gq) (hS:ItIn Q w io (List.range Q.m)) (hio:∀A o sp,io=some ⟨A,o,sp⟩→¬ok A∧A<w.heap.size):Calls Tryz.prog 58 #[.pointer (some ⟨gq,0,none⟩),Sg (Q.S j).1 (Q.S j).2.1 (Q.S j).2.2.1 (Q.S j).2.2.2] w (PutP Q j m d t gr ok w):=by
 have HH:Hid (∀x y s,hitB (Q.S j).1 (Q.S j).2.1 (Q.S j).2.2.1 (Q.S j).2.2.2 x y (x+s) (y+s)=hitQ Q x y s j):=fun _ _ _=>rfl;obtain⟨ia,ib,ic6,id⟩:=h6 j (List.mem_range.2 hj);have hT1:STr (fun b=>ok b∧b<w.heap.size) w t (-1048576) (-1048576) 2097152 0 gr:=STr.keep (Nat.le_refl _) (fun _ _ _=>rfl) (fun b hb hl=>⟨hb,hl⟩) hT;have hal:Below w.heap.size w (w.alloc (.cells #[.int .i64 (Q.S j).1,.int .i64 (Q.S j).2.1,.int .i64 (Q.S j).2.2.1,.int .i64 (Q.S j).2.2.2] 38)):=(Below.refl _ w).alloc (Nat.le_refl _) _;have BP:Blk (w.alloc (.cells #[.int .i64 (Q.S j).1,.int .i64 (Q.S j).2.1,.int .i64 (Q.S j).2.2.1,.int .i64 (Q.S j).2.2.2] 38)) w.heap.size [.int .i64 (Q.S j).1,.int .i64 (Q.S j).2.1,.int .i64 (Q.S j).2.2.1,.int .i64 (Q.S j).2.2.2]:=Blk.new w [.int .i64 (Q.S j).1,.int .i64 (Q.S j).2.1,.int .i64 (Q.S j).2.2.1,.int .i64 (Q.S j).2.2.2] 38 rfl;replace hT1:=hT1.step hal;replace BQ:=BQ.step hal;replace hS:=hS.step hal;have hgl:=BQ.lt;have HFw:Frm (fun b=>ok b∧b<w.heap.size) w (w.alloc (.cells #[.int .i64 (Q.S j).1,.int .i64 (Q.S j).2.1,.int .i64 (Q.S j).2.2.1,.int .i64 (Q.S j).2.2.2] 38)):=⟨hal.os,hal.tape,hal.output,hal.size,fun b hb _=>hal.block b hb⟩;have HD:Hid ((D:Int)=d):=hd;have hd0:0≤d:=by omega
 clear hT hal hd;generalize (Q.S j).1=sa at *;generalize (Q.S j).2.1=sb at *;generalize (Q.S j).2.2.1=sc at *;generalize (Q.S j).2.2.2=sd at *
 go_enter Tryz.func58,Tryz.ntmps58
 go_upto_region 1 with fail;generalize (w.alloc (.cells #[.int .i64 sa,.int .i64 sb,.int .i64 sc,.int .i64 sd] 38))=W1 at *;obtain⟨a,hra,hSk,hAp,hfp,hlv⟩:=hT1.apart;subst hra;have C:=leavesS_any t a (-1048576) (-1048576) 2097152 0 W1 hn hSk (fun z hz=>by
  obtain⟨_,iv,h8,_⟩:=hlv z hz;exact⟨iv,h8⟩)
 have hpos:0<(lpT t a (-1048576) (-1048576) 2097152 0).length:=by rw[lp_len hSk];have:=nl_pos t;omega
 have hll:(lpT t a (-1048576) (-1048576) 2097152 0).length≤1048576:=by rw[lp_len hSk];exact hn
 have q3:=BQ.c 3 rfl;have HSQ:Hid (∀z∈lpT t a (-1048576) (-1048576) 2097152 0,Sq z.2.x z.2.y z.2.s∧0≤z.2.lv∧z.2.lv≤d):=fun z hz=>by
  obtain⟨h1,h2,h3⟩:=lp_sq (show Sq (-1048576) (-1048576) 2097152 from⟨by omega,by omega,by omega,by omega,by omega⟩) hdp z hz;have:=HD.out;exact⟨h1,h2,by omega⟩
 clear hdp hT1;go_wp2_with fail;refine C.mono ?_;rintro r W2 ⟨v,rfl,HO,hB2⟩;clear C q3;have hpl:=BP.lt;have hW12:=hB2.size;have HI0:Hid (PutI Q j m d t a (-1048576) (-1048576) 2097152 0 (fun b=>ok b∧b<w.heap.size) W2 0 W2):=PutI.start (okf:=okW W1) (hSk.step hB2) hAp (fun p=> .inl rfl) (fun b hb=>⟨hfp b hb,by have:=(hfp b hb).2;omega⟩) (fun z hz=>(hlv z hz).step hB2);replace BP:=BP.step hB2;replace BQ:=BQ.step hB2;replace hS:=hS.step hB2;have HFw2:Hid (Frm (fun b=>ok b∧b<w.heap.size) w W2):=⟨hB2.os.trans HFw.os,hB2.tape.trans HFw.tape,hB2.output.trans HFw.output,Nat.le_trans HFw.size hB2.size,fun b hb hn=>(hB2.block b (by omega)).trans (HFw.block b hb hn)⟩;clear hB2 hSk hAp hfp hlv HFw;obtain⟨gv,cv,rfl,hgv1,hgv2,_,_⟩:=ownQ_form HO hpos;have HCL:Hid (∀c z,(lpT t a (-1048576) (-1048576) 2097152 0)[c]? =some z→W2.cell? ⟨gv,c,none⟩=some (.pointer (some ⟨z.1,0,none⟩))):=fun c z hz=>by
  have h:=HO.cells rfl c (.pointer (some ⟨z.1,0,none⟩)) (by unfold ptL fsL;simp[hz]);rw[Addr.add_lit,Nat.zero_add] at h;exact h
 obtain⟨L,hL⟩:∃L,lpT t a (-1048576) (-1048576) 2097152 0=L:=⟨_,rfl⟩;rw[hL] at HSQ HCL hpos hll HO⊢;have HLL:Hid (lpT t a (-1048576) (-1048576) 2097152 0=L):=hL;clear hL HO;obtain⟨n,hnl⟩:∃n,L.length=n:=⟨_,rfl⟩;have HNL:Hid (L.length=n):=hnl;rw[hnl] at hpos hll⊢;clear hnl hn;have hnI:(n:Int)≤1048576:=by omega
 have hgqw:¬(ok gq∧gq<w.heap.size):=fun h=>hgq h.1;have hPw:¬(ok w.heap.size∧w.heap.size<w.heap.size):=fun h=>absurd h.2 (by omega);have hgvw:¬(ok gv∧gv<w.heap.size):=fun h=>absurd h.2 (by omega);have hiow:∀A o sp,io=some ⟨A,o,sp⟩→¬(ok A∧A<w.heap.size)∧A<w.heap.size:=fun A o sp e=>⟨fun h=>(hio A o sp e).1 h.1,(hio A o sp e).2⟩;have hw12:w.heap.size<W2.heap.size:=by omega
 generalize hokd:(fun b=>ok b∧b<w.heap.size)=okd at HI0 HFw2;have hgqw:¬okd gq:=by rw[←hokd];exact hgqw
 have hPw:¬okd w.heap.size:=by rw[←hokd];exact hPw
 have hgvw:¬okd gv:=by rw[←hokd];exact hgvw
 have hiow:∀A o sp,io=some ⟨A,o,sp⟩→¬okd A∧A<w.heap.size:=by rw[←hokd];exact hiow
 have HOK:Hid ((fun b=>ok b∧b<w.heap.size)=okd):=hokd;clear hokd hio hgq;go_wp2_with fail
 go_loopw [12] (fun i wr=>∃c:Nat,c≤n∧i= .int .i64 c∧PutI Q j m d t a (-1048576) (-1048576) 2097152 0 okd W2 c wr) (fun i _=>n-(intOf i).toNat)
 case atStart=>exact⟨0,by omega,rfl,HI0.out⟩
 case round=>
  obtain⟨c,hc,rfl,hI⟩:=hrel;have HI:Hid (PutI Q j m d t a (-1048576) (-1048576) 2097152 0 okd W2 c wr):=hI;have hF:=hI.frm;clear hI HI0
  by_cases hcn:c<n
  · have hcI:(c:Int)<n:=by omega
    obtain⟨z,hz⟩:∃z,L[c]? =some z:=⟨_,List.getElem?_eq_getElem (by have:=HNL.out;omega)⟩;have hzt:Hid ((lpT t a (-1048576) (-1048576) 2097152 0)[c]? =some z):=by show _=_;rw[HLL.out];exact hz
    have cp:wr.cell? ⟨gv,c,none⟩=some (.pointer (some ⟨z.1,0,none⟩)):=(World.cell?_of_block (w:=W2) (a:=⟨gv,c,none⟩) (hF.block gv hgv2 hgvw)).trans (HCL.out c z hz);obtain⟨iv,Bz,hokz⟩:=HI.out.leaf hzt.out;obtain⟨hqz,hl0,hl8⟩:=HSQ.out z (List.mem_of_getElem? hz);have BPr:=hF.blk BP hPw;have BQr:=hF.blk BQ hgqw;have hSr:=hF.items hS (fun A o sp e=>(hiow A o sp e).1);have hFs:=hF.size;have n0:=BPr.c 0 rfl;have n1:=BPr.c 1 rfl;have n2:=BPr.c 2 rfl;have n3:=BPr.c 3 rfl;obtain⟨p,q⟩:=z;obtain⟨x,y,s,lv,l⟩:=q;simp only at cp Bz hokz hqz hl0 hl8;have MT:=meets_any p x y s lv iv (.slice none 0 0) sa sb sc sd hqz ia ib ic6 id wr Bz;clear hz hF;go_wp2_with fail;refine MT.mono ?_;rintro r w3 ⟨rfl,hB3⟩;clear MT cp n0 n1 n2 n3;have hs3:=hB3.size;replace Bz:=Bz.step hB3;replace BQr:=BQr.step hB3;replace hSr:=hSr.step hB3;have HI3:Hid (PutI Q j m d t a (-1048576) (-1048576) 2097152 0 okd W2 c w3):=HI.out.step hB3;clear HI hB3 BPr;rw[HH.out x y s];have hgpq:gq≠p:=fun e=>by
     subst e
     rcases hokz with h | h
     · exact hgqw h
     · omega
    have hiop:∀A o sp,io=some ⟨A,o,sp⟩→A≠p∧A<w3.heap.size:=fun A o sp e=>by
     have h8:=hiow A o sp e;refine⟨fun e2=>?_,by omega⟩;subst e2
     rcases hokz with h | h
     · exact h8.1 h
     · omega
    cases hh:hitQ Q x y s j with
    | false=>
     have HN:Hid (PutI Q j m d t a (-1048576) (-1048576) 2097152 0 okd W2 (c+1) w3):=HI3.out.skip hzt.out (putT_miss hh _);clear HI3 hzt hh Bz BQr hSr;go_wp2;go_roundw
     case rel=>exact⟨c+1,by omega,by go_num,HN.out⟩
     case measure=>simp[intOf];omega
    | true=>
     have FL:=fill_any Q p x y s lv _ _ io ic (List.range Q.m) hqz h6 (by rw[List.length_range];exact hm) w3 Bz hSr;rw[show(List.range Q.m).length=Q.m from List.length_range] at FL;have hpl3:=Bz.lt;have q2:=BQr.c 2 rfl;clear Bz;go_wp2_with fail;refine FL.mono ?_;rintro r w4 ⟨rfl,v4,B4,⟨ao4,c4,rfl,_,_,_⟩,HO4,HG4⟩;clear FL q2;have hleaf:=leaf_of B4 HO4 hpl3;obtain⟨n1,hn1⟩:∃n1,(flQ Q (List.range Q.m) x y s).length=n1:=⟨_,rfl⟩;have HN1:Hid ((canL Q x y s).length=n1):=by show _=_;rw[←canF_len];exact hn1
     have hn1l:n1≤1048576:=by
      rw[←hn1];exact Nat.le_trans (List.length_filter_le _ _) (by rw[List.length_range];exact hm)
     rw[hn1] at B4;clear hn1 HO4;have BQ4:=BQr.grown HG4 (fun e=>hgpq (Option.some.inj e));have hS4:=hSr.grown HG4 (fun A o sp e=>(hiop A o sp e).1);have hs4:=HG4.size;have hn1I:(n1:Int)≤1048576:=by omega
     clear BQr hSr;have m4:=B4.c 4 rfl;have m3:=B4.c 3 rfl;have k0:=BQ4.c 0 rfl;have k1:=BQ4.c 1 rfl;have Hleaf:Hid (STr (okB p w3.heap.size) w4 (.leaf (canL Q x y s)) x y s lv p):=hleaf;have HHT:Hid (hitQ Q x y s j=true):=hh;clear hleaf hh
     by_cases hc1:m<(n1:Int)
     · by_cases hc2:lv<d
       · go_wp2_with fail;refine wp_region_qw (by kernel_rfl) (by kernel_rfl) ?_;intro W qN qS
         repeat (refine qS _ _ _ (fun K hK=>?_);go_simp;refine hK _ ?_;clear hK K)
         refine qN _ (fun nq=>?_);clear qN qS;have hDN:Below w4.heap.size w4 (w4.drewN nq):=below_drewN (Below.refl _ _) nq;have SP:=split_any Q p gq x y s lv m d _ _ io ic hqz hl0 (by omega) h6 hm (w4.drewN nq) (B4.step hDN) (BQ4.step hDN) hgpq (hS4.step hDN) (fun A o sp e=>⟨(hiop A o sp e).1,by have:=(hiop A o sp e).2;have:=hDN.size;omega⟩);have hsd:=hDN.size;clear m4 m3 k0 k1;go_wp2_with fail;refine SP.mono ?_;rintro r w5 ⟨rfl,hst,HG5⟩;have HGA:w3.grownBy w5 (some p):=grown_trans (grown_trans HG4 (grown_of hDN _)) HG5;have HN:Hid (PutI Q j m d t a (-1048576) (-1048576) 2097152 0 okd W2 (c+1) w5):=HI3.out.next hzt.out HGA (by
          show STr _ _ (putT Q j m (.leaf l) (d-lv) x y s) _ _ _ _ _;rw[putLeaf,if_pos HHT.out,if_neg (by rw[HN1.out];omega)];exact STr.keep (Nat.le_refl _) (fun _ _ _=>rfl) (fun b hb _=>okB_grow hb (by omega)) hst)
         clear SP hst HG5 HGA HG4 hDN HI3 B4 BQ4 hS4 Hleaf HHT hzt;go_wp2;go_roundw
         case rel=>exact⟨c+1,by omega,by go_num,HN.out⟩
         case measure=>simp[intOf];omega
       · go_wp2_with fail;refine wp_region_qw (by kernel_rfl) (by kernel_rfl) ?_;intro W qN qS
         repeat (refine qS _ _ _ (fun K hK=>?_);go_simp;refine hK _ ?_;clear hK K)
         refine qN _ (fun nq=>?_);clear qN qS;have hDN:Below w4.heap.size w4 (w4.drewN nq):=below_drewN (Below.refl _ _) nq;have HGA:w3.grownBy (w4.drewN nq) (some p):=grown_trans HG4 (grown_of hDN _);have HN:Hid (PutI Q j m d t a (-1048576) (-1048576) 2097152 0 okd W2 (c+1) (w4.drewN nq)):=HI3.out.next hzt.out HGA (by
          show STr _ _ (putT Q j m (.leaf l) (d-lv) x y s) _ _ _ _ _;rw[putLeaf,if_pos HHT.out,if_pos (by rw[HN1.out];omega)];exact Hleaf.out.step hDN)
         clear HGA HG4 hDN HI3 B4 BQ4 hS4 Hleaf HHT hzt m4 m3 k0 k1;go_wp2;go_roundw
         case rel=>exact⟨c+1,by omega,by go_num,HN.out⟩
         case measure=>simp[intOf];omega
     · have hc1d:decide (m<(n1:Int))=false:=decide_eq_false hc1;go_wp2_with fail;refine wp_region_qw (by kernel_rfl) (by kernel_rfl) ?_;intro W qN qS
       repeat (refine qS _ _ _ (fun K hK=>?_);go_simp;refine hK _ ?_;clear hK K)
       refine qN _ (fun nq=>?_);clear qN qS;have hDN:Below w4.heap.size w4 (w4.drewN nq):=below_drewN (Below.refl _ _) nq;have HGA:w3.grownBy (w4.drewN nq) (some p):=grown_trans HG4 (grown_of hDN _);have HN:Hid (PutI Q j m d t a (-1048576) (-1048576) 2097152 0 okd W2 (c+1) (w4.drewN nq)):=HI3.out.next hzt.out HGA (by
        show STr _ _ (putT Q j m (.leaf l) (d-lv) x y s) _ _ _ _ _;rw[putLeaf,if_pos HHT.out,if_pos (by rw[HN1.out];omega)];exact Hleaf.out.step hDN)
       clear HGA HG4 hDN HI3 B4 BQ4 hS4 Hleaf HHT hzt m4 m3 k0 k1;go_wp2;go_roundw
       case rel=>exact⟨c+1,by omega,by go_num,HN.out⟩
       case measure=>simp[intOf];omega
  · obtain rfl:c=n:=by omega
    have HE:Hid (PutP Q j m d t (raT a) ok w (.returned (.tuple #[])) wr):=by
     have hlen:(lpT t a (-1048576) (-1048576) 2097152 0).length=c:=by rw[HLL.out,HNL.out]
     have hI9:=HI.out;rw[←hlen] at hI9;obtain⟨ok',hs1,hs2,hs3⟩:=PutI.done (by omega) hI9;refine⟨rfl,ok',hs1,fun b hb=>?_,?_⟩
     · rcases hs2 b hb with h | h
       · rw[←HOK.out] at h;exact .inl h
       · exact .inr (by omega)
     · rw[HOK.out];exact HFw2.out.trans hs3
    go_wp2
    go_end0
    exact HE.out
def IsP (ok:Nat→Prop) (w:World):List WB→List Value→Prop
 | [],[]=>True
 | q::L,iv::I=>IdS ok w iv q.l∧(∀b,iv.ownBlock=some b→∀u∈I,u.ownBlock≠some b)∧IsP ok w L I
 | _,_=>False
theorem IdS.mono {ok ok' :Nat→Prop} {w:World} {v:Value} {l:List Int} (h:IdS ok w v l) (ho:∀b,ok b→ok' b):IdS ok' w v l:=⟨h.1,fun b e=>ho b (h.2 b e)⟩
theorem IsP.toI {ok:Nat→Prop} {w:World}:∀{L:List WB} {I:List Value},IsP ok w L I→IvP ok w L I
 | [],[],_=>trivial
 | _::L,_::I,h=>⟨h.1.toV,IsP.toI (L:=L) (I:=I) h.2.2⟩
theorem IsP.own {ok:Nat→Prop} {w:World}:∀{L:List WB} {I:List Value},IsP ok w L I→∀u∈I,∀b,u.ownBlock=some b→ok b∧b<w.heap.size
 | [],[],_,u,hu=>by simp at hu
 | _::L,iv::I,h,u,hu=>by
  rcases List.mem_cons.1 hu with e | hu
  · subst e;exact fun b e=>⟨h.1.2 b e,(World.ownsRow.lt h.1.1 b e).2⟩
  · exact IsP.own (L:=L) (I:=I) h.2.2 u hu
theorem IsP.keep {ok ok' :Nat→Prop} {w w' :World} (hk:∀b,ok b→b<w.heap.size→w'.heap[b]? =w.heap[b]?) (ho:∀b,ok b→b<w.heap.size→ok' b):∀{L:List WB} {I:List Value},IsP ok w L I→IsP ok' w' L I
 | [],[],_=>trivial
 | _::L,_::I,h=>⟨IdS.keep h.1 hk ho,h.2.1,IsP.keep hk ho (L:=L) (I:=I) h.2.2⟩
theorem IsP.app {ok1 ok2:Nat→Prop} {w:World} (hd:∀b,ok1 b→¬ok2 b):∀{L L' :List WB} {I I' :List Value},IsP ok1 w L I→IsP ok2 w L' I' →IsP (fun b=>ok1 b∨ok2 b) w (L ++L') (I ++I')
 | [],_,[],_,_,h=>IsP.keep (fun _ _ _=>rfl) (fun b hb _=> .inr hb) h
 | _::L,_,iv::I,_,h,h' =>⟨h.1.mono (fun b hb=> .inl hb),fun b e u hu=>by
  rcases List.mem_append.1 hu with hu | hu
  · exact h.2.1 b e u hu
  · exact fun e2=>hd b (h.1.2 b e) (h'.own u hu b e2).1,IsP.app hd (L:=L) (I:=I) h.2.2 h'⟩
def RowP (ok:Nat→Prop) (L:List WB) (w:World) (r:Ending) (w' :World):Prop:=∃v I,r= .returned v∧w'.ownsRow w.heap.size 102 5 v L.length (wbCs L I)∧IsP ok w L I∧Below w.heap.size w w'
theorem row_any (t:QT):∀(ok:Nat→Prop) (x y s lv:Int) (g:Nat) (w:World),(wrT t x y s).length≤1048576→STr ok w t x y s lv g→Calls Tryz.prog 83 #[.pointer (some ⟨g,0,none⟩)] w (RowP ok (wrT t x y s) w):=by
 obtain⟨i0,hi0,hz0,hz1,hz2⟩:=info_blk;have qn:=fun(w:World) (a:Option Addr) (l c:Nat)=>run_neq_slice_nil (P:=Tryz.prog) w 81 _ a l c Tryz.underlying81
 induction t with
 | leaf l=>
  intro ok x y s lv g w _ hM;obtain⟨hog,iv,B,hI⟩:=hM;obtain⟨ao,cc,rfl⟩:=ownQ_slice hI.1;have HI:Hid (IdS (fun b=>ok b∧b≠g) w (.slice ao l.length cc) l):=hI;obtain⟨en,hen⟩:∃en,l.length=en:=⟨_,rfl⟩;have HEN:Hid (l.length=en):=hen;rw[hen] at B;clear hen hI;have b0:=B.c 0 rfl;have b1:=B.c 1 rfl;have b2:=B.c 2 rfl;have b3:=B.c 3 rfl;have b4:=B.c 4 rfl;have b5:=B.c 5 rfl;have bl:=B.lt;have HK:∀W,Below w.heap.size w W→(fun w' :World=>w'.cell? ⟨g,0,none⟩=some (.int .i64 x)∧w'.cell? ⟨g,1,none⟩=some (.int .i64 y)∧w'.cell? ⟨g,2,none⟩=some (.int .i64 s)∧w'.cell? ⟨g,3,none⟩=some (.int .i64 lv)∧w'.cell? ⟨g,4,none⟩=some (.slice ao en cc)∧w'.cell? ⟨g,5,none⟩=some (.slice none 0 0)) W:=fun W h=>⟨(B.step h).c 0 rfl,(B.step h).c 1 rfl,(B.step h).c 2 rfl,(B.step h).c 3 rfl,(B.step h).c 4 rfl,(B.step h).c 5 rfl⟩;have H0:Below w.heap.size w w:=Below.refl _ _
  go_enter Tryz.func83,Tryz.ntmps83
  go_upto_region 1 with fail
  go_region_held3 (fun w' :World=>w'.cell? ⟨g,0,none⟩=some (.int .i64 x)∧w'.cell? ⟨g,1,none⟩=some (.int .i64 y)∧w'.cell? ⟨g,2,none⟩=some (.int .i64 s)∧w'.cell? ⟨g,3,none⟩=some (.int .i64 lv)∧w'.cell? ⟨g,4,none⟩=some (.slice ao en cc)∧w'.cell? ⟨g,5,none⟩=some (.slice none 0 0)) (refine HK _ ?_<;>repeat (first | (with_reducible exact H0) | (with_reducible refine Below.drew ?_) | (with_reducible refine Below.alloc ?_ (by simp) _))) (fail)
  all_goals have B' :=(B.alloc (.cells #[.int .i64 x,.int .i64 y,.int .i64 s,.bool false,.slice ao en cc] 102)).drew
  all_goals have HB:Below w.heap.size w (w.alloc (.cells #[.int .i64 x,.int .i64 y,.int .i64 s,.bool false,.slice ao en cc] 102)).drew:=((Below.refl _ w).alloc (Nat.le_refl _) _).drew
  all_goals have hnew:(w.alloc (.cells #[.int .i64 x,.int .i64 y,.int .i64 s,.bool false,.slice ao en cc] 102)).drew.heap[w.heap.size]? =some (.cells #[.int .i64 x,.int .i64 y,.int .i64 s,.bool false,.slice ao en cc] 102):=heap_alloc_new w _
  all_goals clear b0 b1 b2 b3 b4 b5 HK H0 B
  all_goals generalize (w.alloc (.cells #[.int .i64 x,.int .i64 y,.int .i64 s,.bool false,.slice ao en cc] 102)).drew=W at *
  all_goals have b5:=B'.c 5 rfl
  all_goals go_wp2_with fail
  all_goals go_loopw [3,36] (fun o i wr=>o= .slice (some ⟨w.heap.size,0,none⟩) 1 1∧i= .int .i64 0∧wr=W) (fun _ _ _=>0)
  case atStart=>exact⟨rfl,rfl,rfl⟩
  case round=>
   obtain⟨rfl,rfl,rfl⟩:=hrel;go_wp2;go_ret;exact⟨_,[.slice ao en cc],rfl,⟨rfl,.inr ⟨w.heap.size,1,_,rfl,Nat.le_refl _,hnew,Nat.le_refl _,by unfold maxLen;omega,rfl,rfl⟩⟩,⟨by rw[←HEN.out];exact HI.out.mono (fun b h=>h.1),fun b _ u hu=>by simp at hu,trivial⟩,HB⟩
 | node K ih=>
  intro ok x y s lv g w hn hM;obtain⟨hog,A,kc,gs,oks,B,hA,hoA,hAg,hin,hap,hk⟩:=hM;obtain⟨hf,hhf⟩:∃hf,s / 2=hf:=⟨_,rfl⟩;have HT:Hid (wrT (.node K) x y s=((⟨x,y,s,true,[]⟩:WB)::catW (fun k=>wrT (K k) (kX x hf k) (kY y hf k) hf) 4)):=by show wrT (.node K) x y s=_;rw[←hhf];rfl
  rw[HT.out] at hn;have HLN:Hid ((catW (fun k=>wrT (K k) (kX x hf k) (kY y hf k) hf) 4).length+1≤1048576):=hn;rw[hhf] at hk;have HK2:Hid (∀k,k<4→w.cell? ⟨A,k,none⟩=some (.pointer (some ⟨gs k,0,none⟩))∧STr (oks k) w (K k) (kX x hf k) (kY y hf k) hf (lv+1) (gs k)):=hk;have HIN:Hid (∀k b,k<4→oks k b→ok b∧b≠g∧b≠A):=hin;have HAP:Hid (∀i j b,i<4→j<4→i≠j→oks i b→¬oks j b):=hap;clear hk hn hhf hin hap;have b0:=B.c 0 rfl;have b1:=B.c 1 rfl;have b2:=B.c 2 rfl;have b3:=B.c 3 rfl;have b4:=B.c 4 rfl;have b5:=B.c 5 rfl;have bl:=B.lt;have HK:∀W,Below w.heap.size w W→(fun w' :World=>w'.cell? ⟨g,0,none⟩=some (.int .i64 x)∧w'.cell? ⟨g,1,none⟩=some (.int .i64 y)∧w'.cell? ⟨g,2,none⟩=some (.int .i64 s)∧w'.cell? ⟨g,3,none⟩=some (.int .i64 lv)∧w'.cell? ⟨g,4,none⟩=some (.slice none 0 0)∧w'.cell? ⟨g,5,none⟩=some (.slice (some ⟨A,0,none⟩) 4 kc)) W:=fun W h=>⟨(B.step h).c 0 rfl,(B.step h).c 1 rfl,(B.step h).c 2 rfl,(B.step h).c 3 rfl,(B.step h).c 4 rfl,(B.step h).c 5 rfl⟩;have H0:Below w.heap.size w w:=Below.refl _ _
  go_enter Tryz.func83,Tryz.ntmps83
  go_upto_region 1 with fail
  go_region_held3 (fun w' :World=>w'.cell? ⟨g,0,none⟩=some (.int .i64 x)∧w'.cell? ⟨g,1,none⟩=some (.int .i64 y)∧w'.cell? ⟨g,2,none⟩=some (.int .i64 s)∧w'.cell? ⟨g,3,none⟩=some (.int .i64 lv)∧w'.cell? ⟨g,4,none⟩=some (.slice none 0 0)∧w'.cell? ⟨g,5,none⟩=some (.slice (some ⟨A,0,none⟩) 4 kc)) (refine HK _ ?_<;>repeat (first | (with_reducible exact H0) | (with_reducible refine Below.drew ?_) | (with_reducible refine Below.alloc ?_ (by simp) _))) (fail)
  all_goals have B' :=(B.alloc (.cells #[.int .i64 x,.int .i64 y,.int .i64 s,.bool true,.slice none 0 0] 102)).drew
  all_goals have HB:Below w.heap.size w (w.alloc (.cells #[.int .i64 x,.int .i64 y,.int .i64 s,.bool true,.slice none 0 0] 102)).drew:=((Below.refl _ w).alloc (Nat.le_refl _) _).drew
  all_goals have hnew:(w.alloc (.cells #[.int .i64 x,.int .i64 y,.int .i64 s,.bool true,.slice none 0 0] 102)).drew.heap[w.heap.size]? =some (.cells #[.int .i64 x,.int .i64 y,.int .i64 s,.bool true,.slice none 0 0] 102):=heap_alloc_new w _
  all_goals clear b0 b1 b2 b3 b4 b5 HK H0 B
  all_goals generalize (w.alloc (.cells #[.int .i64 x,.int .i64 y,.int .i64 s,.bool true,.slice none 0 0] 102)).drew=W at *
  all_goals have HO:W.ownsRow w.heap.size 102 5 (.slice (some ⟨w.heap.size,0,none⟩) 1 1) 1 [.int .i64 x,.int .i64 y,.int .i64 s,.bool true,.slice none 0 0]:=⟨rfl,.inr ⟨w.heap.size,1,_,rfl,Nat.le_refl _,hnew,Nat.le_refl _,by unfold maxLen;omega,rfl,rfl⟩⟩
  all_goals clear hnew
  all_goals have b5:=B'.c 5 rfl
  all_goals go_wp2_with fail
  all_goals go_loopw [3,36] (fun out i wr=>∃(c:Nat) (I:List Value),c≤4∧i= .int .i64 c∧wr.ownsRow w.heap.size 102 5 out ((⟨x,y,s,true,[]⟩:WB)::catW (fun k=>wrT (K k) (kX x hf k) (kY y hf k) hf) c).length (wbCs ((⟨x,y,s,true,[]⟩:WB)::catW (fun k=>wrT (K k) (kX x hf k) (kY y hf k) hf) c) I)∧IsP (fun b=>∃j,j<c∧oks j b) w ((⟨x,y,s,true,[]⟩:WB)::catW (fun k=>wrT (K k) (kX x hf k) (kY y hf k) hf) c) I∧Below w.heap.size w wr) (fun _ i _=>4-(intOf i).toNat)
  case atStart=>exact⟨0,[.slice none 0 0],by omega,rfl,HO,⟨⟨World.ownsRow_nil _ _ _ _,fun b e=>(by cases e)⟩,⟨fun b e=>(by cases e),trivial⟩⟩,HB⟩
  case round=>
   clear HO HB b5 B';obtain⟨c,I,hc,rfl,HO,hI,HBw⟩:=hrel;have hIP:Hid (IsP (fun b=>∃j,j<c∧oks j b) w ((⟨x,y,s,true,[]⟩:WB)::catW (fun k=>wrT (K k) (kX x hf k) (kY y hf k) hf) c) I):=hI;clear hI
   by_cases hc4:c<4
   · have hcI:(c:Int)<4:=by omega
     obtain⟨ck,hM⟩:=HK2.out c hc4;have hlc:=catW_len (fun k=>wrT (K k) (kX x hf k) (kY y hf k) hf) hc4;have hl4:=HLN.out;have hpl:((⟨x,y,s,true,[]⟩:WB)::catW (fun k=>wrT (K k) (kX x hf k) (kY y hf k) hf) c).length=(catW (fun k=>wrT (K k) (kX x hf k) (kY y hf k) hf) c).length+1:=rfl;have C:=ih c (fun b=>oks c b∧b<w.heap.size) (kX x hf c) (kY y hf c) hf (lv+1) (gs c) wr (by omega) (STr.keep HBw.size (fun b _ hb=>HBw.block b hb) (fun _ h h2=>⟨h,h2⟩) hM);have cw:=(HBw.cell (p:=⟨A,c,none⟩) hA).trans ck;obtain⟨Lk,hLk⟩:∃Lk,wrT (K c) (kX x hf c) (kY y hf c) hf=Lk:=⟨_,rfl⟩;have HLK:Hid (wrT (K c) (kX x hf c) (kY y hf c) hf=Lk):=hLk;have hlk0:0<Lk.length:=by rw[←hLk];exact wrT_pos _ _ _ _
     rw[hLk] at C;have hlen:((⟨x,y,s,true,[]⟩:WB)::catW (fun k=>wrT (K k) (kX x hf k) (kY y hf k) hf) c).length+Lk.length≤1048576:=by rw[hpl,←hLk];omega
     obtain⟨nc,hnc⟩:∃nc,((⟨x,y,s,true,[]⟩:WB)::catW (fun k=>wrT (K k) (kX x hf k) (kY y hf k) hf) c).length=nc:=⟨_,rfl⟩;have HNC:Hid (((⟨x,y,s,true,[]⟩:WB)::catW (fun k=>wrT (K k) (kX x hf k) (kY y hf k) hf) c).length=nc):=hnc;rw[hnc] at HO hlen;clear hnc hpl hlc hl4 hLk hM ck;go_wp2_with fail;refine C.mono ?_;rintro r w1 ⟨v2,I2,rfl,hO2,hI2',hB1⟩;have hI2:IsP (oks c) w Lk I2:=hI2'.keep (fun b hb _=>(HBw.block b hb.2).symm) (fun b hb _=>hb.1);have HV2:=hI2.toI;obtain⟨g2,c2,rfl,_,_,_,_⟩:=ownQ_form hO2 hlk0;have HO1:=ownA_step HO hB1;have HB1:=HBw.trans (hB1.mono HBw.size);clear HO C hB1 hI2' cw
     go_wp2_with (at_builtin;go_loud (refine wpList_append_own_at _ rfl _ _ 25 rfl w.heap.size 102 i0 (.agg #[.int .i64 0,.int .i64 0,.int .i64 0,.bool false,.slice none 0 0]) 5 56 Tryz.underlying25 hi0 hz0 hz1 hz2 rfl (by decide) _ _ _ rfl HO1 ⟨g2,0,none⟩ Lk.length c2 (wbCs Lk I2) rfl (by rw[hO2.1]) (hO2.cells rfl) (wbCs_one HV2) (by unfold maxLen;omega) (by omega) HB1.size ?_))
     intro v3 Wz hO3 hgrow _ _;have HON:Wz.ownsRow w.heap.size 102 5 v3 ((⟨x,y,s,true,[]⟩:WB)::catW (fun k=>wrT (K k) (kX x hf k) (kY y hf k) hf) (c+1)).length (wbCs ((⟨x,y,s,true,[]⟩:WB)::catW (fun k=>wrT (K k) (kX x hf k) (kY y hf k) hf) (c+1)) (I ++I2)):=by
      show Wz.ownsRow _ _ _ _ (((((⟨x,y,s,true,[]⟩:WB)::catW (fun k=>wrT (K k) (kX x hf k) (kY y hf k) hf) c):List WB) ++wrT (K c) (kX x hf c) (kY y hf c) hf).length) (wbCs (((⟨x,y,s,true,[]⟩:WB)::catW (fun k=>wrT (K k) (kX x hf k) (kY y hf k) hf) c) ++wrT (K c) (kX x hf c) (kY y hf c) hf) _);rw[HLK.out,wbCs_app hIP.out.toI,List.length_append,HNC.out];exact hO3
     have HINN:Hid (IsP (fun b=>∃j,j<c+1∧oks j b) w ((⟨x,y,s,true,[]⟩:WB)::catW (fun k=>wrT (K k) (kX x hf k) (kY y hf k) hf) (c+1)) (I ++I2)):=by
      show IsP _ w (((⟨x,y,s,true,[]⟩:WB)::catW (fun k=>wrT (K k) (kX x hf k) (kY y hf k) hf) c) ++wrT (K c) (kX x hf c) (kY y hf c) hf) _;rw[HLK.out];refine IsP.keep (fun _ _ _=>rfl) (fun b hb _=>?_) (IsP.app (fun b hb hb2=>?_) hIP.out hI2)
      · rcases hb with ⟨j,hj,hb⟩ | hb
        · exact⟨j,by omega,hb⟩
        · exact⟨c,by omega,hb⟩
      · obtain⟨j,hj,hb⟩:=hb;exact HAP.out j c b (by omega) hc4 (by omega) hb hb2
     have HBN:=HB1.grown hgrow HB1.size (fun k hk=>(HO1.lt k hk).1);clear hgrow hO2 hO3 HO1 HBw HB1 hI2 HV2 hIP;go_wp2;go_roundw
     case rel=>exact⟨c+1,I ++I2,by omega,by go_num,HON,HINN.out,HBN⟩
     case measure=>simp[intOf];omega
   · obtain rfl:c=4:=by omega
     have HF:Hid (IsP ok w ((⟨x,y,s,true,[]⟩:WB)::catW (fun k=>wrT (K k) (kX x hf k) (kY y hf k) hf) 4) I):=hIP.out.keep (fun _ _ _=>rfl) (fun b hb _=>by obtain⟨j,hj,hb⟩:=hb;exact(HIN.out j b hj hb).1);clear hIP;go_wp2;go_ret;exact⟨_,I,rfl,by rw[HT.out];exact HO,by rw[HT.out];exact HF.out,HBw⟩
theorem dpT_le:∀(d:Nat) (t:QT),dpB d t→dpT t≤d
 | _,.leaf _,_=>Nat.zero_le _
 | 0,.node _,h=>h.elim
 | d+1,.node K,h=>by
  have h0:=dpT_le d (K 0) (h 0 (by omega));have h1:=dpT_le d (K 1) (h 1 (by omega));have h2:=dpT_le d (K 2) (h 2 (by omega));have h3:=dpT_le d (K 3) (h 3 (by omega));unfold dpT
  omega
theorem catW_le {f:Nat→List WB} {n:Nat} (h:∀k,k<4→(f k).length≤n):(catW f 4).length≤4*n:=by
 have h0:=h 0 (by omega);have h1:=h 1 (by omega);have h2:=h 2 (by omega);have h3:=h 3 (by omega);simp only[catW,List.length_append,List.length_nil]
 omega
def wbM:Nat→Nat
 | 0=>1
 | d+1=>1+4*wbM d
theorem wrT_le:∀(d:Nat) (t:QT) (x y s:Int),dpT t≤d→(wrT t x y s).length≤wbM d
 | 0,.leaf _,_,_,_,_=>Nat.le_refl _
 | d+1,.leaf _,_,_,_,_=>by show 1≤1+_;omega
 | 0,.node K,_,_,_,h=>by unfold dpT at h;omega
 | d+1,.node K,x,y,s,h=>by
  have hk:∀k,k<4→dpT (K k)≤d:=fun k hk=>by
   unfold dpT at h
   rcases(show k=0∨k=1∨k=2∨k=3 by omega) with e | e | e | e<;>subst e<;>omega
  have h1:=catW_le (f:=fun k=>wrT (K k) (kX x (s / 2) k) (kY y (s / 2) k) (s / 2)) (n:=wbM d) (fun k hk4=>wrT_le d (K k) _ _ _ (hk k hk4));show _+1≤1+4*wbM d
  omega
theorem putT_dp (Q:QD) (j:Nat) (mx:Int):∀(t:QT) (d:Nat) (x y s:Int),dpT t≤d→dpT (putT Q j mx t (d:Int) x y s)≤d
 | .leaf l,d,x,y,s,h=>by
  unfold putT
  split
  · split
    · exact Nat.zero_le _
    · rename_i h1
      show max (max (max (0+1) (0+1)) (0+1)) (0+1)≤d
      omega
  · exact h
 | .node K,d,x,y,s,h=>by
  cases hh:hitQ Q x y s j with
  | false=>rw[putT_miss hh];exact h
  | true=>
   have hk:∀k,k<4→dpT (K k)+1≤d:=fun k hk=>by
    unfold dpT at h
    rcases(show k=0∨k=1∨k=2∨k=3 by omega) with e | e | e | e<;>subst e<;>omega
   obtain⟨e,rfl⟩:∃e,d=e+1:=⟨d-1,by have:=hk 0 (by omega);omega⟩;rw[putT_hit hh,show((e+1:Nat):Int)-1=(e:Int) by omega];have h0:=putT_dp Q j mx (K 0) e (kX x (s / 2) 0) (kY y (s / 2) 0) (s / 2) (by have:=hk 0 (by omega);omega);have h1:=putT_dp Q j mx (K 1) e (kX x (s / 2) 1) (kY y (s / 2) 1) (s / 2) (by have:=hk 1 (by omega);omega);have h2:=putT_dp Q j mx (K 2) e (kX x (s / 2) 2) (kY y (s / 2) 2) (s / 2) (by have:=hk 2 (by omega);omega);have h3:=putT_dp Q j mx (K 3) e (kX x (s / 2) 3) (kY y (s / 2) 3) (s / 2) (by have:=hk 3 (by omega);omega);show max (max (max (dpT (putT Q j mx (K 0) (e:Int) (kX x (s / 2) 0) (kY y (s / 2) 0) (s / 2))+1) (dpT (putT Q j mx (K 1) (e:Int) (kX x (s / 2) 1) (kY y (s / 2) 1) (s / 2))+1)) (dpT (putT Q j mx (K 2) (e:Int) (kX x (s / 2) 2) (kY y (s / 2) 2) (s / 2))+1)) (dpT (putT Q j mx (K 3) (e:Int) (kX x (s / 2) 3) (kY y (s / 2) 3) (s / 2))+1)≤e+1
   omega
def plcJ (Q:QD) (id:Int) (j:Nat):Prop:=j≤Q.m∧(∀i,i<j→Q.I i<id)∧∀i,j≤i→i<Q.m→id<Q.I i
theorem plcJ.one {Q:QD} {id:Int} {j k:Nat} (h:plcJ Q id j) (h' :plcJ Q id k):j=k:=by
 obtain⟨a1,a2,a3⟩:=h;obtain⟨b1,b2,b3⟩:=h'
 apply Classical.byContradiction
 intro hne
 rcases Nat.lt_or_ge j k with h | h
 · have:=b2 j h;have:=a3 j (Nat.le_refl _) (by omega)
   omega
 · have:=a2 k (by omega);have:=b3 k (Nat.le_refl _) (by omega)
   omega
theorem insQ_rise {Q:QD} {id:Int} {sg:Int×Int×Int×Int} {j:Nat} (hr:riseI Q) (h:plcJ Q id j):riseI (insQ Q j id sg):=fun i h0 hi=>by
 obtain⟨a1,a2,a3⟩:=h;have hi' :i<Q.m+1:=hi
 rcases Nat.lt_trichotomy i j with h1 | h1 | h1
 · rw[(insQ_lt (Q:=Q) (id:=id) (sg:=sg) (show i-1<j by omega)).1,(insQ_lt (Q:=Q) (id:=id) (sg:=sg) h1).1];exact hr i h0 (by omega)
 · subst h1;rw[(insQ_lt (Q:=Q) (id:=id) (sg:=sg) (show i-1<i by omega)).1,(insQ_at Q i id sg).1];exact a2 _ (by omega)
 · obtain⟨e,rfl⟩:∃e,i=e+1:=⟨i-1,by omega⟩;rw[(insQ_gt (Q:=Q) (id:=id) (sg:=sg) (show j≤e by omega)).1,Nat.add_sub_cancel]
   rcases(show e=j∨j<e by omega) with h2 | h2
   · subst h2;rw[(insQ_at Q e id sg).1];exact a3 _ (Nat.le_refl _) (by omega)
   · obtain⟨f,rfl⟩:∃f,e=f+1:=⟨e-1,by omega⟩;rw[(insQ_gt (Q:=Q) (id:=id) (sg:=sg) (show j≤f by omega)).1];exact hr (f+1) (by omega) (by omega)
theorem insQ_its6 {Q:QD} {id:Int} {sg:Int×Int×Int×Int} {j:Nat} (h6:Its6 Q (List.range Q.m)) (hs:In6 sg.1∧In6 sg.2.1∧In6 sg.2.2.1∧In6 sg.2.2.2) (hj:j≤Q.m):Its6 (insQ Q j id sg) (List.range (Q.m+1)):=fun i hi=>by
 have hi:=List.mem_range.1 hi
 rcases Nat.lt_trichotomy i j with h1 | h1 | h1
 · rw[(insQ_lt (Q:=Q) (id:=id) (sg:=sg) h1).2];exact h6 i (List.mem_range.2 (by omega))
 · subst h1;rw[(insQ_at Q i id sg).2];exact hs
 · obtain⟨e,rfl⟩:∃e,i=e+1:=⟨i-1,by omega⟩;rw[(insQ_gt (Q:=Q) (id:=id) (sg:=sg) (show j≤e by omega)).2];exact h6 e (List.mem_range.2 (by omega))
theorem insQ_can {Q:QD} {id:Int} {sg:Int×Int×Int×Int} {j:Nat} (h:plcJ Q id j) (x y s:Int) (hh:hitQ (insQ Q j id sg) x y s j=true):∃A B,canL Q x y s=A ++B∧canL (insQ Q j id sg) x y s=A ++(insQ Q j id sg).I j::B∧(∀u∈A,u<(insQ Q j id sg).I j)∧(∀u∈B,(insQ Q j id sg).I j<u):=by
 obtain⟨A,B,e1,e2,e3,e4⟩:=canL_ins h.1 id sg x y s;have hn:newH sg x y s=true:=by
  unfold hitQ at hh;rw[(insQ_at Q j id sg).2] at hh;exact hh
 rw[if_pos hn] at e2;rw[(insQ_at Q j id sg).1];refine⟨A,B,e1,e2,fun u hu=>?_,fun u hu=>?_⟩
 · rw[e3] at hu;obtain⟨i,h1,rfl⟩:=canP_mem hu;exact h.2.1 i h1
 · rw[e4] at hu;obtain⟨i,h1,h2,rfl⟩:=canR_mem hu;exact h.2.2 i h1 (by have:=h.1;omega)
theorem it5_eq {Q Q' :QD} {i k:Nat} (h:Q'.I k=Q.I i∧Q'.S k=Q.S i):it5 Q' k=it5 Q i:=by
 unfold it5;rw[h.1,h.2]
theorem itCs_more (Q:QD) (c:Nat):itCs Q (List.range (c+1))=itCs Q (List.range c) ++it5 Q c:=by rw[List.range_succ,itCs_app]
theorem itCs_ins {Q:QD} {id:Int} {sg:Int×Int×Int×Int} {j:Nat}:∀c,c≤j→itCs (insQ Q j id sg) (List.range c)=itCs Q (List.range c)
 | 0,_=>rfl
 | c+1,h=>by rw[itCs_more,itCs_more,itCs_ins c (by omega),it5_eq (insQ_lt (by omega))]
theorem itCs_put {Q:QD} {id:Int} {sg:Int×Int×Int×Int} (j:Nat):itCs (insQ Q j id sg) (List.range (j+1))=itCs Q (List.range j) ++[.int .i64 id,.int .i64 sg.1,.int .i64 sg.2.1,.int .i64 sg.2.2.1,.int .i64 sg.2.2.2]:=by
 rw[itCs_more,itCs_ins j (Nat.le_refl _)];unfold it5;rw[(insQ_at Q j id sg).1,(insQ_at Q j id sg).2]
theorem itCs_gt {Q:QD} {id:Int} {sg:Int×Int×Int×Int} {j c:Nat} (h:j≤c):itCs (insQ Q j id sg) (List.range (c+1+1))=itCs (insQ Q j id sg) (List.range (c+1)) ++it5 Q c:=by
 rw[itCs_more,it5_eq (insQ_gt h)]
end Go.Proofs.YthelolpogdcmhaaGreat
