/- Part 14 of the walks that the proof leans on. -/
import Derived.Test.YtjhapeidafbncaaKept13
import Derived.Test.YtjhapeidafbncaaKept8
import Derived.Test.YtjhapeidafbncaaKept12
import Derived.Test.YtjhapeidafbncaaKept7
set_option maxRecDepth 100000
set_option maxHeartbeats 16000000
namespace Go.Proofs.Ytjhapeidafbncaa
open Go.RowKit
theorem qOk_item {Q:QD} {m d:Int} {c:Nat} (hc:c<Q.m) (h:itB Q c=false):qOk Q m d=false:=by
 unfold qOk
 rw[show itsB Q=false from decide_eq_false (fun k=>by have:=k.2 c hc;rw[h] at this;cases this)]
 simp
theorem mrd_kids {Q:QD} {d at_:Nat} {x y s:Int} {e:Nat} (h:mrd Q (d+1) at_ x y s=some e) (hT:Q.T at_=true):Q.L at_=0∧∀k,k<4→∃a b,kp (fun a x y=>mrd Q d a x y (s / 2)) (at_+1) x y (s / 2) k=some a∧mrd Q d a (kX x (s / 2) k) (kY y (s / 2) k) (s / 2)=some b:=by
 have hb:baseB Q at_ x y s=true:=by
   cases hb:baseB Q at_ x y s with
   | true=>rfl
   | false=>rw[mrd_no hb] at h;cases h
 have hL:Q.L at_=0:=by
   apply Classical.byContradiction
   intro hL
   rw[mrd_full hT hL] at h
   cases h
 refine⟨hL,?_⟩
 rw[mrd_split hb hT hL] at h
 have step:∀k b,kp (fun a x y=>mrd Q d a x y (s / 2)) (at_+1) x y (s / 2) (k+1)=some b→∃a,kp (fun a x y=>mrd Q d a x y (s / 2)) (at_+1) x y (s / 2) k=some a∧mrd Q d a (kX x (s / 2) k) (kY y (s / 2) k) (s / 2)=some b:=fun k b hk=>Option.bind_eq_some_iff.1 hk
 obtain⟨a3,h3,g3⟩:=step 3 e h
 obtain⟨a2,h2,g2⟩:=step 2 a3 h3
 obtain⟨a1,h1,g1⟩:=step 1 a2 h2
 obtain⟨a0,h0,g0⟩:=step 0 a1 h1
 intro k hk
 rcases(show k=0∨k=1∨k=2∨k=3 by omega) with h | h | h | h<;>subst h
 · exact⟨_,_,h0,g0⟩
 · exact⟨_,_,h1,g1⟩
 · exact⟨_,_,h2,g2⟩
 · exact⟨_,_,h3,g3⟩
theorem lenT_tr {Q:QD} (hL:∀i,i<Q.N→Q.L i≤1048576):∀{d at_:Nat} {x y s:Int} {e:Nat},mrd Q d at_ x y s=some e→lenT (trQ Q d at_ x y s)
 | d,at_,x,y,s,e,h=>by
   have hle:=mrd_le h
   cases hT:Q.T at_ with
   | false=>
     rw[trQ_leaf hT]
     show(blL Q at_).length≤1048576
     rw[blL_len]
     exact hL at_ (by omega)
   | true=>
     cases d with
     | zero=>rw[mrd_zero hT] at h;cases h
     | succ d=>
       unfold trQ
       rw[if_pos hT]
       intro k hk
       obtain⟨a,b,h1,h2⟩:=(mrd_kids h hT).2 k hk
       dsimp only
       rw[h1]
       exact lenT_tr hL h2
def RtP (Q:QD) (m d:Int) (w:World) (r:Ending) (w' :World):Prop:=
 Below w.heap.size w w' ∧((qOk Q m d=false∧r= .returned (.tuple #[.agg #[.int .i64 0,.int .i64 0,.int .i64 0,.slice none 0 0,.slice none 0 0],.bool false]))∨(qOk Q m d=true∧∃kv ev,r= .returned (.tuple #[.agg #[.int .i64 (-1048576),.int .i64 (-1048576),.int .i64 2097152,kv,ev],.bool true])∧MTr (fun b=>w.heap.size≤b) w' (trQ Q d.toNat 0 (-1048576) (-1048576) 2097152) (-1048576) (-1048576) 2097152 kv ev))
theorem root_sq:Sq (-1048576) (-1048576) 2097152:=⟨by omega,by omega,by omega,by omega,by omega⟩
theorem l13Root_any (w:World) (Q:QD) (ao bo:Option Addr) (cap bcap A off:Nat) (so:Nat→Option Addr×Nat) (m d:Int) (hm:Q.m≤1048576) (hN:Q.N≤1048576) (hL:∀i,i<Q.N→Q.L i≤1048576) (hbo:0<Q.N→bo=some ⟨A,off,none⟩) (hso:∀i,i<Q.N→(so i).1=none→(so i).2=0) (hS:ItIn Q w ao (List.range Q.m)) (hBl:BlIn Q w A off so):Calls Try.prog 26 #[.agg #[.int .i64 m,.int .i64 d,.slice ao Q.m cap,.slice bo Q.N bcap]] w (RtP Q m d w):=by
 have BP:Blk ((w.alloc (.cells #[.int .i64 m,.int .i64 d,.slice ao Q.m cap,.slice bo Q.N bcap] 34)).alloc (.cells #[.int .i64 0,.int .i64 0,.int .i64 0,.slice none 0 0,.slice none 0 0] 64)) w.heap.size [.int .i64 m,.int .i64 d,.slice ao Q.m cap,.slice bo Q.N bcap]:=(Blk.new w [.int .i64 m,.int .i64 d,.slice ao Q.m cap,.slice bo Q.N bcap] 34 rfl).alloc _
 have BR:Blk ((w.alloc (.cells #[.int .i64 m,.int .i64 d,.slice ao Q.m cap,.slice bo Q.N bcap] 34)).alloc (.cells #[.int .i64 0,.int .i64 0,.int .i64 0,.slice none 0 0,.slice none 0 0] 64)) (w.heap.size+1) [.int .i64 0,.int .i64 0,.int .i64 0,.slice none 0 0,.slice none 0 0]:=Blk.new (w.alloc (.cells #[.int .i64 m,.int .i64 d,.slice ao Q.m cap,.slice bo Q.N bcap] 34)) [.int .i64 0,.int .i64 0,.int .i64 0,.slice none 0 0,.slice none 0 0] 64 (by simp)
 have HB:Below w.heap.size w ((w.alloc (.cells #[.int .i64 m,.int .i64 d,.slice ao Q.m cap,.slice bo Q.N bcap] 34)).alloc (.cells #[.int .i64 0,.int .i64 0,.int .i64 0,.slice none 0 0,.slice none 0 0] 64)):=((Below.refl _ w).alloc (Nat.le_refl _) _).alloc (by simp) _
 have CL:=l13Limits_any m d
 have HBl:Hid (BlIn Q w A off so):=hBl
 have HS0:Hid (ItIn Q w ao (List.range Q.m)):=hS
 clear hS hBl
 obtain⟨b1,hb1⟩:∃b,limB m d=b:=⟨_,rfl⟩
 rw[hb1] at CL
 have HLIM:Hid (limB m d=b1):=hb1
 clear hb1
 have hmI:(Q.m:Int)≤1048576:=by omega
 have hNI:(Q.N:Int)≤1048576:=by omega
 go_enter Try.func26,Try.ntmps26
 go_upto_region 1 with fail
 generalize ((w.alloc (.cells #[.int .i64 m,.int .i64 d,.slice ao Q.m cap,.slice bo Q.N bcap] 34)).alloc (.cells #[.int .i64 0,.int .i64 0,.int .i64 0,.slice none 0 0,.slice none 0 0] 64))=W1 at *
 have c0:=BP.c 0 rfl;have c1:=BP.c 1 rfl;have c2:=BP.c 2 rfl;have c3:=BP.c 3 rfl
 go_wp2_with fail
 refine(CL _).mono ?_
 rintro r w1 ⟨rfl,hB1⟩
 replace BP:=BP.step hB1
 replace BR:=BR.step hB1
 replace HB:=HB.trans (hB1.mono HB.size)
 clear hB1 CL c0 c1 c2 c3
 have c0:=BP.c 0 rfl;have c1:=BP.c 1 rfl;have c2:=BP.c 2 rfl;have c3:=BP.c 3 rfl
 cases b1 with
 | false=>
   have z0:=BR.c 0 rfl;have y0:=BR.f 0 rfl;have z1:=BR.c 1 rfl;have y1:=BR.f 1 rfl;have z2:=BR.c 2 rfl;have y2:=BR.f 2 rfl;have z3:=BR.c 3 rfl;have y3:=BR.f 3 rfl;have z4:=BR.c 4 rfl;have y4:=BR.f 4 rfl
   have BF:=z5_set BR
   clear BR
   go_wp2
   have r0:=BF.out.c 0 rfl;have r1:=BF.out.c 1 rfl;have r2:=BF.out.c 2 rfl;have r3:=BF.out.c 3 rfl;have r4:=BF.out.c 4 rfl
   refine bodyPost_ret (v:= .tuple #[.agg #[.int .i64 0,.int .i64 0,.int .i64 0,.slice none 0 0,.slice none 0 0],.bool false]) (by simp[results,Try.results26,go_sem,r0,r1,r2,r3,r4]) rfl ?_
   exact⟨(Below.setCell (Below.setCell (Below.setCell (Below.setCell (Below.setCell HB (Nat.le_succ _) _) (Nat.le_succ _) _) (Nat.le_succ _) _) (Nat.le_succ _) _) (Nat.le_succ _) _),.inl ⟨(by unfold qOk;rw[HLIM.out];rfl),rfl⟩⟩
 | true=>
   by_cases h40:40<Q.m
   · have h40I:(40:Int)<Q.m:=by omega
     have z0:=BR.c 0 rfl;have y0:=BR.f 0 rfl;have z1:=BR.c 1 rfl;have y1:=BR.f 1 rfl;have z2:=BR.c 2 rfl;have y2:=BR.f 2 rfl;have z3:=BR.c 3 rfl;have y3:=BR.f 3 rfl;have z4:=BR.c 4 rfl;have y4:=BR.f 4 rfl
     have BF:=z5_set BR
     clear BR
     go_wp2
     have r0:=BF.out.c 0 rfl;have r1:=BF.out.c 1 rfl;have r2:=BF.out.c 2 rfl;have r3:=BF.out.c 3 rfl;have r4:=BF.out.c 4 rfl
     refine bodyPost_ret (v:= .tuple #[.agg #[.int .i64 0,.int .i64 0,.int .i64 0,.slice none 0 0,.slice none 0 0],.bool false]) (by simp[results,Try.results26,go_sem,r0,r1,r2,r3,r4]) rfl ?_
     exact⟨(Below.setCell (Below.setCell (Below.setCell (Below.setCell (Below.setCell HB (Nat.le_succ _) _) (Nat.le_succ _) _) (Nat.le_succ _) _) (Nat.le_succ _) _) (Nat.le_succ _) _),.inl ⟨(by unfold qOk;rw[show itsB Q=false from decide_eq_false (fun k=>by have:=k.1;omega)];simp),rfl⟩⟩
   by_cases h2k:2000<Q.N
   · have h2kI:(2000:Int)<Q.N:=by omega
     have h40I:(Q.m:Int)≤40:=by omega
     have z0:=BR.c 0 rfl;have y0:=BR.f 0 rfl;have z1:=BR.c 1 rfl;have y1:=BR.f 1 rfl;have z2:=BR.c 2 rfl;have y2:=BR.f 2 rfl;have z3:=BR.c 3 rfl;have y3:=BR.f 3 rfl;have z4:=BR.c 4 rfl;have y4:=BR.f 4 rfl
     have BF:=z5_set BR
     clear BR
     go_wp2
     have r0:=BF.out.c 0 rfl;have r1:=BF.out.c 1 rfl;have r2:=BF.out.c 2 rfl;have r3:=BF.out.c 3 rfl;have r4:=BF.out.c 4 rfl
     refine bodyPost_ret (v:= .tuple #[.agg #[.int .i64 0,.int .i64 0,.int .i64 0,.slice none 0 0,.slice none 0 0],.bool false]) (by simp[results,Try.results26,go_sem,r0,r1,r2,r3,r4]) rfl ?_
     exact⟨(Below.setCell (Below.setCell (Below.setCell (Below.setCell (Below.setCell HB (Nat.le_succ _) _) (Nat.le_succ _) _) (Nat.le_succ _) _) (Nat.le_succ _) _) (Nat.le_succ _) _),.inl ⟨(by unfold qOk;rw[decide_eq_false (show ¬Q.N≤2000 by omega)];simp),rfl⟩⟩
   have h40I:(Q.m:Int)≤40:=by omega
   have h2kI:(Q.N:Int)≤2000:=by omega
   have h40n:Q.m≤40:=by omega
   go_wp2_with fail
   clear c0 c1 c2 c3
   go_loopw [4] (fun i wr=>∃c:Nat,c≤Q.m∧i= .int .i64 c∧(∀j,j<c→itB Q j=true)∧Blk wr w.heap.size [.int .i64 m,.int .i64 d,.slice ao Q.m cap,.slice bo Q.N bcap]∧Blk wr (w.heap.size+1) [.int .i64 0,.int .i64 0,.int .i64 0,.slice none 0 0,.slice none 0 0]∧ItIn Q wr ao (List.range Q.m)∧Below w.heap.size w wr) (fun i _=>Q.m-(intOf i).toNat)
   case atStart=>exact⟨0,by omega,rfl,fun j hj=>absurd hj (by omega),BP,BR,HS0.out.step HB,HB⟩
   case round=>
     clear BP BR HB
     obtain⟨c,hc,rfl,hall,BP,BR,hS,HB⟩:=hrel
     have HALL:Hid (∀j,j<c→itB Q j=true):=hall
     clear hall
     have p2:=BP.c 2 rfl
     have hpl:=BP.lt
     by_cases hcm:c<Q.m
     · have hcI:(c:Int)<Q.m:=by omega
       obtain⟨A,off,rfl,hA,c0,c1,c2,c3,c4⟩:=hS c c (by simp[hcm])
       have HS:Hid (ItIn Q wr (some ⟨A,off,none⟩) (List.range Q.m)):=hS
       clear hS
       go_upto_region 6 with fail
       clear p2
       by_cases hid:1≤Q.I c∧Q.I c≤1000
       rotate_left
       · have HIT:itB Q c=false:=decide_eq_false (fun h=>hid h.1)
         refine rrA (P:=w.heap.size) (A:=A) (off:=off) (n:=Q.m) (cap:=cap) (k_:=c) (id:=Q.I c) (decide_eq_false hid) hcm h40n rfl rfl (BP.c 2 rfl) hpl c0 hA c1 hA c2 hA c3 hA c4 hA rfl ?_
         rintro⟨tm,df⟩ Wz hz hdf hoff hx hBz
         simp only at hz hdf hoff hx
         change tm.getD 71 undef= .bool true at hx
         subst hdf
         have htm:=tmps_fold [34,35,36,37,38,39,40,41,42,43,44,45,46,47,48,49,50,51,52,53,54,55,56,57,58,59,60,61,62,63,64,65,66,67,68,69,70,71] tm _ hz hoff
         simp only[List.foldl,List.setIfInBounds_toArray,List.set_cons_zero,List.set_cons_succ,hx] at htm
         clear hz hoff
         generalize tm.getD 34 undef=pz0,tm.getD 35 undef=pz1,tm.getD 36 undef=pz2,tm.getD 37 undef=pz3,tm.getD 38 undef=pz4,tm.getD 39 undef=pz5,tm.getD 40 undef=pz6,tm.getD 41 undef=pz7,tm.getD 42 undef=pz8,tm.getD 43 undef=pz9,tm.getD 44 undef=pz10,tm.getD 45 undef=pz11,tm.getD 46 undef=pz12,tm.getD 47 undef=pz13,tm.getD 48 undef=pz14,tm.getD 49 undef=pz15,tm.getD 50 undef=pz16,tm.getD 51 undef=pz17,tm.getD 52 undef=pz18,tm.getD 53 undef=pz19,tm.getD 54 undef=pz20,tm.getD 55 undef=pz21,tm.getD 56 undef=pz22,tm.getD 57 undef=pz23,tm.getD 58 undef=pz24,tm.getD 59 undef=pz25,tm.getD 60 undef=pz26,tm.getD 61 undef=pz27,tm.getD 62 undef=pz28,tm.getD 63 undef=pz29,tm.getD 64 undef=pz30,tm.getD 65 undef=pz31,tm.getD 66 undef=pz32,tm.getD 67 undef=pz33,tm.getD 68 undef=pz34,tm.getD 69 undef=pz35,tm.getD 70 undef=pz36 at htm
         clear hx
         subst htm
         replace BP:=BP.step hBz
         replace BR:=BR.step hBz
         replace HB:=HB.trans (hBz.mono HB.size)
         replace HS:Hid (ItIn Q Wz (some ⟨A,off,none⟩) (List.range Q.m)):=HS.out.step hBz
         clear hBz c0 c1 c2 c3 c4
         have z0:=BR.c 0 rfl;have y0:=BR.f 0 rfl;have z1:=BR.c 1 rfl;have y1:=BR.f 1 rfl;have z2:=BR.c 2 rfl;have y2:=BR.f 2 rfl;have z3:=BR.c 3 rfl;have y3:=BR.f 3 rfl;have z4:=BR.c 4 rfl;have y4:=BR.f 4 rfl
         have BF:=z5_set BR
         clear BR
         go_wp2
         have r0:=BF.out.c 0 rfl;have r1:=BF.out.c 1 rfl;have r2:=BF.out.c 2 rfl;have r3:=BF.out.c 3 rfl;have r4:=BF.out.c 4 rfl
         refine bodyPost_ret (v:= .tuple #[.agg #[.int .i64 0,.int .i64 0,.int .i64 0,.slice none 0 0,.slice none 0 0],.bool false]) (by simp[results,Try.results26,go_sem,r0,r1,r2,r3,r4]) rfl ?_
         exact⟨(Below.setCell (Below.setCell (Below.setCell (Below.setCell (Below.setCell HB (Nat.le_succ _) _) (Nat.le_succ _) _) (Nat.le_succ _) _) (Nat.le_succ _) _) (Nat.le_succ _) _),.inl ⟨(qOk_item hcm HIT),rfl⟩⟩
       cases hsg:segOk (Q.S c).1 (Q.S c).2.1 (Q.S c).2.2.1 (Q.S c).2.2.2 with
       | false=>
         have HIT:itB Q c=false:=decide_eq_false (fun h=>by rw[hsg] at h;cases h.2.1)
         refine rrB (P:=w.heap.size) (A:=A) (off:=off) (n:=Q.m) (cap:=cap) (k_:=c) (id:=Q.I c) (a:=(Q.S c).1) (bb:=(Q.S c).2.1) (c:=(Q.S c).2.2.1) (d:=(Q.S c).2.2.2) (decide_eq_true hid) hcm h40n hsg rfl rfl (BP.c 2 rfl) hpl c0 hA c1 hA c2 hA c3 hA c4 hA rfl ?_
         rintro⟨tm,df⟩ Wz hz hdf hoff hx hBz
         simp only at hz hdf hoff hx
         change tm.getD 71 undef= .bool true at hx
         subst hdf
         have htm:=tmps_fold [34,35,36,37,38,39,40,41,42,43,44,45,46,47,48,49,50,51,52,53,54,55,56,57,58,59,60,61,62,63,64,65,66,67,68,69,70,71] tm _ hz hoff
         simp only[List.foldl,List.setIfInBounds_toArray,List.set_cons_zero,List.set_cons_succ,hx] at htm
         clear hz hoff
         generalize tm.getD 34 undef=pz0,tm.getD 35 undef=pz1,tm.getD 36 undef=pz2,tm.getD 37 undef=pz3,tm.getD 38 undef=pz4,tm.getD 39 undef=pz5,tm.getD 40 undef=pz6,tm.getD 41 undef=pz7,tm.getD 42 undef=pz8,tm.getD 43 undef=pz9,tm.getD 44 undef=pz10,tm.getD 45 undef=pz11,tm.getD 46 undef=pz12,tm.getD 47 undef=pz13,tm.getD 48 undef=pz14,tm.getD 49 undef=pz15,tm.getD 50 undef=pz16,tm.getD 51 undef=pz17,tm.getD 52 undef=pz18,tm.getD 53 undef=pz19,tm.getD 54 undef=pz20,tm.getD 55 undef=pz21,tm.getD 56 undef=pz22,tm.getD 57 undef=pz23,tm.getD 58 undef=pz24,tm.getD 59 undef=pz25,tm.getD 60 undef=pz26,tm.getD 61 undef=pz27,tm.getD 62 undef=pz28,tm.getD 63 undef=pz29,tm.getD 64 undef=pz30,tm.getD 65 undef=pz31,tm.getD 66 undef=pz32,tm.getD 67 undef=pz33,tm.getD 68 undef=pz34,tm.getD 69 undef=pz35,tm.getD 70 undef=pz36 at htm
         clear hx
         subst htm
         replace BP:=BP.step hBz
         replace BR:=BR.step hBz
         replace HB:=HB.trans (hBz.mono HB.size)
         replace HS:Hid (ItIn Q Wz (some ⟨A,off,none⟩) (List.range Q.m)):=HS.out.step hBz
         clear hBz c0 c1 c2 c3 c4
         have z0:=BR.c 0 rfl;have y0:=BR.f 0 rfl;have z1:=BR.c 1 rfl;have y1:=BR.f 1 rfl;have z2:=BR.c 2 rfl;have y2:=BR.f 2 rfl;have z3:=BR.c 3 rfl;have y3:=BR.f 3 rfl;have z4:=BR.c 4 rfl;have y4:=BR.f 4 rfl
         have BF:=z5_set BR
         clear BR
         go_wp2
         have r0:=BF.out.c 0 rfl;have r1:=BF.out.c 1 rfl;have r2:=BF.out.c 2 rfl;have r3:=BF.out.c 3 rfl;have r4:=BF.out.c 4 rfl
         refine bodyPost_ret (v:= .tuple #[.agg #[.int .i64 0,.int .i64 0,.int .i64 0,.slice none 0 0,.slice none 0 0],.bool false]) (by simp[results,Try.results26,go_sem,r0,r1,r2,r3,r4]) rfl ?_
         exact⟨(Below.setCell (Below.setCell (Below.setCell (Below.setCell (Below.setCell HB (Nat.le_succ _) _) (Nat.le_succ _) _) (Nat.le_succ _) _) (Nat.le_succ _) _) (Nat.le_succ _) _),.inl ⟨(qOk_item hcm HIT),rfl⟩⟩
       | true=>
         rcases Nat.eq_zero_or_pos c with hc0 | hc0
         · have HIT:itB Q c=true:=decide_eq_true ⟨hid,hsg,fun h=>absurd h (by omega)⟩
           have HC0:Hid (c=0):=hc0
           clear hc0
           refine rrC (P:=w.heap.size) (A:=A) (off:=off) (n:=Q.m) (cap:=cap) (k_:=c) (id:=Q.I c) (a:=(Q.S c).1) (bb:=(Q.S c).2.1) (c:=(Q.S c).2.2.1) (d:=(Q.S c).2.2.2) (decide_eq_true hid) hcm h40n hsg HC0 rfl rfl (BP.c 2 rfl) hpl c0 hA c1 hA c2 hA c3 hA c4 hA rfl ?_
           rintro⟨tm,df⟩ Wz hz hdf hoff hx hBz
           simp only at hz hdf hoff hx
           change tm.getD 71 undef= .bool false at hx
           subst hdf
           have htm:=tmps_fold [34,35,36,37,38,39,40,41,42,43,44,45,46,47,48,49,50,51,52,53,54,55,56,57,58,59,60,61,62,63,64,65,66,67,68,69,70,71] tm _ hz hoff
           simp only[List.foldl,List.setIfInBounds_toArray,List.set_cons_zero,List.set_cons_succ,hx] at htm
           clear hz hoff
           generalize tm.getD 34 undef=pz0,tm.getD 35 undef=pz1,tm.getD 36 undef=pz2,tm.getD 37 undef=pz3,tm.getD 38 undef=pz4,tm.getD 39 undef=pz5,tm.getD 40 undef=pz6,tm.getD 41 undef=pz7,tm.getD 42 undef=pz8,tm.getD 43 undef=pz9,tm.getD 44 undef=pz10,tm.getD 45 undef=pz11,tm.getD 46 undef=pz12,tm.getD 47 undef=pz13,tm.getD 48 undef=pz14,tm.getD 49 undef=pz15,tm.getD 50 undef=pz16,tm.getD 51 undef=pz17,tm.getD 52 undef=pz18,tm.getD 53 undef=pz19,tm.getD 54 undef=pz20,tm.getD 55 undef=pz21,tm.getD 56 undef=pz22,tm.getD 57 undef=pz23,tm.getD 58 undef=pz24,tm.getD 59 undef=pz25,tm.getD 60 undef=pz26,tm.getD 61 undef=pz27,tm.getD 62 undef=pz28,tm.getD 63 undef=pz29,tm.getD 64 undef=pz30,tm.getD 65 undef=pz31,tm.getD 66 undef=pz32,tm.getD 67 undef=pz33,tm.getD 68 undef=pz34,tm.getD 69 undef=pz35,tm.getD 70 undef=pz36 at htm
           clear hx
           subst htm
           replace BP:=BP.step hBz
           replace BR:=BR.step hBz
           replace HB:=HB.trans (hBz.mono HB.size)
           replace HS:Hid (ItIn Q Wz (some ⟨A,off,none⟩) (List.range Q.m)):=HS.out.step hBz
           clear hBz c0 c1 c2 c3 c4
           have HN:Hid (∀j,j<c+1→itB Q j=true):=fun j hj=>by
             by_cases e:j=c
             · subst e;exact HIT
             · exact HALL.out j (by omega)
           clear HIT
           go_wp2
           go_roundw
           case rel=>exact⟨c+1,by omega,by go_num,HN.out,BP,BR,HS.out,HB⟩
           case measure=>simp[intOf];omega
         · obtain⟨jj,hjj⟩:∃jj,c=jj+1:=⟨c-1,by omega⟩
           have HJ:Hid (c=jj+1):=hjj
           obtain⟨A2,o2,e2,hA2,d0,_⟩:=HS.out jj jj (by simp[show jj<Q.m by omega])
           cases e2
           have hj1:c-1=jj:=by omega
           clear hjj
           refine rrD (P:=w.heap.size) (A:=A) (off:=off) (n:=Q.m) (cap:=cap) (k_:=c) (id:=Q.I c) (jj:=jj) (ie:=Q.I jj) (a:=(Q.S c).1) (bb:=(Q.S c).2.1) (c:=(Q.S c).2.2.1) (d:=(Q.S c).2.2.2) (decide_eq_true hid) hcm h40n hsg HJ rfl rfl (BP.c 2 rfl) hpl c0 hA c1 hA c2 hA c3 hA c4 hA d0 hA rfl ?_
           rintro⟨tm,df⟩ Wz hz hdf hoff hx hBz
           simp only at hz hdf hoff hx
           change tm.getD 71 undef= .bool (decide (Q.I c≤Q.I jj)) at hx
           subst hdf
           have htm:=tmps_fold [34,35,36,37,38,39,40,41,42,43,44,45,46,47,48,49,50,51,52,53,54,55,56,57,58,59,60,61,62,63,64,65,66,67,68,69,70,71] tm _ hz hoff
           simp only[List.foldl,List.setIfInBounds_toArray,List.set_cons_zero,List.set_cons_succ,hx] at htm
           clear hz hoff
           generalize tm.getD 34 undef=pz0,tm.getD 35 undef=pz1,tm.getD 36 undef=pz2,tm.getD 37 undef=pz3,tm.getD 38 undef=pz4,tm.getD 39 undef=pz5,tm.getD 40 undef=pz6,tm.getD 41 undef=pz7,tm.getD 42 undef=pz8,tm.getD 43 undef=pz9,tm.getD 44 undef=pz10,tm.getD 45 undef=pz11,tm.getD 46 undef=pz12,tm.getD 47 undef=pz13,tm.getD 48 undef=pz14,tm.getD 49 undef=pz15,tm.getD 50 undef=pz16,tm.getD 51 undef=pz17,tm.getD 52 undef=pz18,tm.getD 53 undef=pz19,tm.getD 54 undef=pz20,tm.getD 55 undef=pz21,tm.getD 56 undef=pz22,tm.getD 57 undef=pz23,tm.getD 58 undef=pz24,tm.getD 59 undef=pz25,tm.getD 60 undef=pz26,tm.getD 61 undef=pz27,tm.getD 62 undef=pz28,tm.getD 63 undef=pz29,tm.getD 64 undef=pz30,tm.getD 65 undef=pz31,tm.getD 66 undef=pz32,tm.getD 67 undef=pz33,tm.getD 68 undef=pz34,tm.getD 69 undef=pz35,tm.getD 70 undef=pz36 at htm
           clear hx
           subst htm
           replace BP:=BP.step hBz
           replace BR:=BR.step hBz
           replace HB:=HB.trans (hBz.mono HB.size)
           replace HS:Hid (ItIn Q Wz (some ⟨A,off,none⟩) (List.range Q.m)):=HS.out.step hBz
           clear hBz c0 c1 c2 c3 c4
           clear d0
           by_cases hle:Q.I c≤Q.I jj
           · rw[decide_eq_true hle]
             have HIT:itB Q c=false:=decide_eq_false (fun h=>by have:=h.2.2 hc0;rw[hj1] at this;omega)
             clear hle hj1
             have z0:=BR.c 0 rfl;have y0:=BR.f 0 rfl;have z1:=BR.c 1 rfl;have y1:=BR.f 1 rfl;have z2:=BR.c 2 rfl;have y2:=BR.f 2 rfl;have z3:=BR.c 3 rfl;have y3:=BR.f 3 rfl;have z4:=BR.c 4 rfl;have y4:=BR.f 4 rfl
             have BF:=z5_set BR
             clear BR
             go_wp2
             have r0:=BF.out.c 0 rfl;have r1:=BF.out.c 1 rfl;have r2:=BF.out.c 2 rfl;have r3:=BF.out.c 3 rfl;have r4:=BF.out.c 4 rfl
             refine bodyPost_ret (v:= .tuple #[.agg #[.int .i64 0,.int .i64 0,.int .i64 0,.slice none 0 0,.slice none 0 0],.bool false]) (by simp[results,Try.results26,go_sem,r0,r1,r2,r3,r4]) rfl ?_
             exact⟨(Below.setCell (Below.setCell (Below.setCell (Below.setCell (Below.setCell HB (Nat.le_succ _) _) (Nat.le_succ _) _) (Nat.le_succ _) _) (Nat.le_succ _) _) (Nat.le_succ _) _),.inl ⟨(qOk_item hcm HIT),rfl⟩⟩
           · rw[decide_eq_false hle]
             have HIT:itB Q c=true:=decide_eq_true ⟨hid,hsg,fun _=>by rw[hj1];omega⟩
             clear hle hj1
             have HN:Hid (∀j,j<c+1→itB Q j=true):=fun j hj=>by
               by_cases e:j=c
               · subst e;exact HIT
               · exact HALL.out j (by omega)
             clear HIT
             go_wp2
             go_roundw
             case rel=>exact⟨c+1,by omega,by go_num,HN.out,BP,BR,HS.out,HB⟩
             case measure=>simp[intOf];omega
     · obtain rfl:c=Q.m:=by omega
       have HIT:Hid (itsB Q=true):=decide_eq_true ⟨h40n,HALL.out⟩
       have hd8:0≤d∧d≤8:=by
         have h:=HLIM.out
         unfold limB at h
         simp at h
         omega
       obtain⟨D,hDd⟩:∃D:Nat,(D:Int)=d:=⟨d.toNat,by omega⟩
       have hDn:Hid (d.toNat=D):=by show d.toNat=D;omega
       have HQ:Hid (qOk Q m d=true↔mrd Q D 0 (-1048576) (-1048576) 2097152=some Q.N∧rtB Q D 0 (-1048576) (-1048576) 2097152=true):=by
         show _↔_
         rw[←qrd_both]
         unfold qOk
         rw[HLIM.out,HIT.out,hDn.out,decide_eq_true (show Q.N≤2000 by omega)]
         simp
       have RD:=l13Read_any Q bo bcap A off so w hN hL hbo hso HBl.out D 0 (-1048576) (-1048576) 2097152 wr (by omega) (by omega) root_sq HB
       rw[hDd,show((0:Nat):Int)=0 from rfl] at RD
       have HL' :Hid (∀i,i<Q.N→Q.L i≤1048576):=hL
       have p1:=BP.c 1 rfl;have p3:=BP.c 3 rfl
       have HS:Hid (ItIn Q wr ao (List.range Q.m)):=hS
       clear HALL hS hd8 hDd
       go_wp2_with fail
       refine RD.mono ?_
       rintro r w5 ⟨hB5,hC⟩
       have BR0lt:=BR.lt
       replace BP:=BP.step hB5
       replace BR:=BR.step hB5
       replace HB:=HB.trans (hB5.mono HB.size)
       have HG6:Hid (w.heap.size+1<wr.heap.size):=BR0lt
       replace HS:Hid (ItIn Q w5 ao (List.range Q.m)):=HS.out.step hB5
       clear RD p1 p2 p3 hB5 hpl
       rcases hC with ⟨hn,rfl⟩ | ⟨e,kv,ev,he,rfl,hM⟩
       · have hno:Hid (qOk Q m d=false):=Bool.eq_false_iff.2 (fun h=>by have:=(HQ.out.1 h).1;rw[hn] at this;cases this)
         replace BR:=BR.alloc (.cells #[.int .i64 0,.int .i64 0,.int .i64 0,.slice none 0 0,.slice none 0 0] 64)
         replace HB:=HB.alloc HB.size (.cells #[.int .i64 0,.int .i64 0,.int .i64 0,.slice none 0 0,.slice none 0 0] 64)
         clear hn BP
         go_upto_region 9 with fail
         generalize (w5.alloc (.cells #[.int .i64 0,.int .i64 0,.int .i64 0,.slice none 0 0,.slice none 0 0] 64))=w6 at *
         have z0:=BR.c 0 rfl;have y0:=BR.f 0 rfl;have z1:=BR.c 1 rfl;have y1:=BR.f 1 rfl;have z2:=BR.c 2 rfl;have y2:=BR.f 2 rfl;have z3:=BR.c 3 rfl;have y3:=BR.f 3 rfl;have z4:=BR.c 4 rfl;have y4:=BR.f 4 rfl
         have BF:=z5_set BR
         clear BR
         go_wp2
         have r0:=BF.out.c 0 rfl;have r1:=BF.out.c 1 rfl;have r2:=BF.out.c 2 rfl;have r3:=BF.out.c 3 rfl;have r4:=BF.out.c 4 rfl
         refine bodyPost_ret (v:= .tuple #[.agg #[.int .i64 0,.int .i64 0,.int .i64 0,.slice none 0 0,.slice none 0 0],.bool false]) (by simp[results,Try.results26,go_sem,r0,r1,r2,r3,r4]) rfl ?_
         exact⟨(Below.setCell (Below.setCell (Below.setCell (Below.setCell (Below.setCell HB (Nat.le_succ _) _) (Nat.le_succ _) _) (Nat.le_succ _) _) (Nat.le_succ _) _) (Nat.le_succ _) _),.inl ⟨hno.out,rfl⟩⟩
       · obtain⟨ko,kn,kc,eo,en,ec,rfl,rfl⟩:=hM.vals
         have HE:Hid (mrd Q D 0 (-1048576) (-1048576) 2097152=some e):=he
         have B5:Blk (w5.alloc (.cells #[.int .i64 (-1048576),.int .i64 (-1048576),.int .i64 2097152,.slice ko kn kc,.slice eo en ec] 64)) w5.heap.size [.int .i64 (-1048576),.int .i64 (-1048576),.int .i64 2097152,.slice ko kn kc,.slice eo en ec]:=Blk.new w5 [.int .i64 (-1048576),.int .i64 (-1048576),.int .i64 2097152,.slice ko kn kc,.slice eo en ec] 64 rfl
         have hB6:Below w5.heap.size w5 (w5.alloc (.cells #[.int .i64 (-1048576),.int .i64 (-1048576),.int .i64 2097152,.slice ko kn kc,.slice eo en ec] 64)):=(Below.refl _ _).alloc (Nat.le_refl _) _
         replace BP:=BP.step hB6
         replace BR:=BR.step hB6
         replace HB:=HB.trans (hB6.mono HB.size)
         replace HS:Hid (ItIn Q (w5.alloc (.cells #[.int .i64 (-1048576),.int .i64 (-1048576),.int .i64 2097152,.slice ko kn kc,.slice eo en ec] 64)) ao (List.range Q.m)):=HS.out.step hB6
         replace hM:=hM.step hB6
         clear he hB6
         go_upto_region 9 with fail
         generalize (w5.alloc (.cells #[.int .i64 (-1048576),.int .i64 (-1048576),.int .i64 2097152,.slice ko kn kc,.slice eo en ec] 64))=w6 at *
         have p3:=BP.c 3 rfl;have p2:=BP.c 2 rfl
         have k0:=B5.c 0 rfl;have k1:=B5.c 1 rfl;have k2:=B5.c 2 rfl;have k3:=B5.c 3 rfl;have k4:=B5.c 4 rfl
         by_cases hen:e=Q.N
         · subst hen
           have RT:=treeRight_any Q ao cap (its6_of HIT.out) hm (trQ Q D 0 (-1048576) (-1048576) 2097152) (-1048576) (-1048576) 2097152 _ _ _ w6 root_sq (lenT_tr HL'.out HE.out) hM HS.out
           obtain⟨b2,hb2⟩:∃b,rtT Q (trQ Q D 0 (-1048576) (-1048576) 2097152) (-1048576) (-1048576) 2097152=b:=⟨_,rfl⟩
           have HB2:Hid (rtB Q D 0 (-1048576) (-1048576) 2097152=b2):=(rt_tr Q D 0 _ _ _ (by rw[HE.out];rfl)).trans hb2
           rw[hb2] at RT
           clear hb2
           go_wp2_with fail
           refine RT.mono ?_
           rintro r w7 ⟨rfl,hB7⟩
           replace BR:=BR.step hB7
           replace B5:=B5.step hB7
           replace HB:=HB.trans (hB7.mono HB.size)
           replace hM:=hM.step hB7
           clear RT BP hB7 p2 p3 k0 k1 k2 k3 k4 HS
           cases b2 with
           | false=>
             have hno:Hid (qOk Q m d=false):=Bool.eq_false_iff.2 (fun h=>by have:=(HQ.out.1 h).2;rw[HB2.out] at this;cases this)
             have z0:=BR.c 0 rfl;have y0:=BR.f 0 rfl;have z1:=BR.c 1 rfl;have y1:=BR.f 1 rfl;have z2:=BR.c 2 rfl;have y2:=BR.f 2 rfl;have z3:=BR.c 3 rfl;have y3:=BR.f 3 rfl;have z4:=BR.c 4 rfl;have y4:=BR.f 4 rfl
             have BF:=z5_set BR
             clear BR
             go_wp2
             have r0:=BF.out.c 0 rfl;have r1:=BF.out.c 1 rfl;have r2:=BF.out.c 2 rfl;have r3:=BF.out.c 3 rfl;have r4:=BF.out.c 4 rfl
             refine bodyPost_ret (v:= .tuple #[.agg #[.int .i64 0,.int .i64 0,.int .i64 0,.slice none 0 0,.slice none 0 0],.bool false]) (by simp[results,Try.results26,go_sem,r0,r1,r2,r3,r4]) rfl ?_
             exact⟨(Below.setCell (Below.setCell (Below.setCell (Below.setCell (Below.setCell HB (Nat.le_succ _) _) (Nat.le_succ _) _) (Nat.le_succ _) _) (Nat.le_succ _) _) (Nat.le_succ _) _),.inl ⟨hno.out,rfl⟩⟩
           | true=>
             have hyes:Hid (qOk Q m d=true):=HQ.out.2 ⟨HE.out,HB2.out⟩
             have HM:Hid (MTr (fun b=>w.heap.size+1<b) w7 (trQ Q D 0 (-1048576) (-1048576) 2097152) (-1048576) (-1048576) 2097152 (.slice ko kn kc) (.slice eo en ec)):=MTr.keep (Nat.le_refl _) (fun _ _ _=>rfl) (fun b hb _=>Nat.lt_of_lt_of_le HG6.out hb) hM
             have z0:=BR.c 0 rfl;have z1:=BR.c 1 rfl;have z2:=BR.c 2 rfl;have z3:=BR.c 3 rfl;have z4:=BR.c 4 rfl;have y0:=BR.f 0 rfl;have y1:=BR.f 1 rfl;have y2:=BR.f 2 rfl;have y3:=BR.f 3 rfl;have y4:=BR.f 4 rfl
             have k0:=B5.c 0 rfl;have k1:=B5.c 1 rfl;have k2:=B5.c 2 rfl;have k3:=B5.c 3 rfl;have k4:=B5.c 4 rfl
             have BF:Hid (Blk (((((w7.setCell ⟨(w.heap.size+1),0,none⟩ (.int .i64 (-1048576))).setCell ⟨(w.heap.size+1),1,none⟩ (.int .i64 (-1048576))).setCell ⟨(w.heap.size+1),2,none⟩ (.int .i64 2097152)).setCell ⟨(w.heap.size+1),3,none⟩ (.slice ko kn kc)).setCell ⟨(w.heap.size+1),4,none⟩ (.slice eo en ec)) (w.heap.size+1) [.int .i64 (-1048576),.int .i64 (-1048576),.int .i64 2097152,.slice ko kn kc,.slice eo en ec]):=((((BR.setI 0 (by decide) _).setI 1 (by simp) _).setI 2 (by simp) _).setI 3 (by simp) _).setI 4 (by simp) _
             clear BR B5 hM
             go_wp2
             have r0:=BF.out.c 0 rfl;have r1:=BF.out.c 1 rfl;have r2:=BF.out.c 2 rfl;have r3:=BF.out.c 3 rfl;have r4:=BF.out.c 4 rfl
             refine bodyPost_ret (v:= .tuple #[.agg #[.int .i64 (-1048576),.int .i64 (-1048576),.int .i64 2097152,.slice ko kn kc,.slice eo en ec],.bool true]) (by simp[results,Try.results26,go_sem,r0,r1,r2,r3,r4]) rfl ?_
             refine⟨(Below.setCell (Below.setCell (Below.setCell (Below.setCell (Below.setCell HB (Nat.le_succ _) _) (Nat.le_succ _) _) (Nat.le_succ _) _) (Nat.le_succ _) _) (Nat.le_succ _) _),.inr ⟨hyes.out,_,_,rfl,?_⟩⟩
             rw[hDn.out]
             exact MTr.keep (by simp[World.setCell]) (fun b hb _=>z5_other (by omega)) (fun b hb _=>by omega) HM.out
         · have hneI:((e:Int)==(Q.N:Int))=false:=by simp;omega
           have hno:Hid (qOk Q m d=false):=Bool.eq_false_iff.2 (fun h=>by have:=(HQ.out.1 h).1;rw[HE.out] at this;exact hen (Option.some.inj this))
           clear BP B5 hM HS
           have z0:=BR.c 0 rfl;have y0:=BR.f 0 rfl;have z1:=BR.c 1 rfl;have y1:=BR.f 1 rfl;have z2:=BR.c 2 rfl;have y2:=BR.f 2 rfl;have z3:=BR.c 3 rfl;have y3:=BR.f 3 rfl;have z4:=BR.c 4 rfl;have y4:=BR.f 4 rfl
           have BF:=z5_set BR
           clear BR
           go_wp2
           have r0:=BF.out.c 0 rfl;have r1:=BF.out.c 1 rfl;have r2:=BF.out.c 2 rfl;have r3:=BF.out.c 3 rfl;have r4:=BF.out.c 4 rfl
           refine bodyPost_ret (v:= .tuple #[.agg #[.int .i64 0,.int .i64 0,.int .i64 0,.slice none 0 0,.slice none 0 0],.bool false]) (by simp[results,Try.results26,go_sem,r0,r1,r2,r3,r4]) rfl ?_
           exact⟨(Below.setCell (Below.setCell (Below.setCell (Below.setCell (Below.setCell HB (Nat.le_succ _) _) (Nat.le_succ _) _) (Nat.le_succ _) _) (Nat.le_succ _) _) (Nat.le_succ _) _),.inl ⟨hno.out,rfl⟩⟩
theorem qOk_all {Q:QD} {m d:Int} (h:qOk Q m d=true):(1≤m∧m≤8)∧(0≤d∧d≤8)∧itsB Q=true∧rtT Q (trQ Q d.toNat 0 (-1048576) (-1048576) 2097152) (-1048576) (-1048576) 2097152=true:=by
 unfold qOk limB at h
 simp only[Bool.and_eq_true,decide_eq_true_eq] at h
 obtain⟨⟨⟨⟨⟨⟨h1,h2⟩,h3⟩,h4⟩,h5⟩,_⟩,h6⟩:=h
 obtain⟨h7,h8⟩:=(qrd_both Q d.toNat 0 (-1048576) (-1048576) 2097152 Q.N).1 h6
 exact⟨⟨h1,h2⟩,⟨h3,h4⟩,h5,(rt_tr Q d.toNat 0 (-1048576) (-1048576) 2097152 (by rw[h7];rfl)).symm.trans h8⟩
def putB (Q:QD) (m d id:Int) (sg:Int×Int×Int×Int):Bool:=qOk Q m d&&decide ((1≤id∧id≤1000)∧segOk sg.1 sg.2.1 sg.2.2.1 sg.2.2.2=true∧Q.m<40∧∀i,i<Q.m→Q.I i≠id)
def putL (Q:QD) (m d id:Int) (sg:Int×Int×Int×Int) (j:Nat):List WB:=wrT (putT (insQ Q j id sg) j m (trQ Q d.toNat 0 (-1048576) (-1048576) 2097152) d (-1048576) (-1048576) 2097152) (-1048576) (-1048576) 2097152
def PutS (Q:QD) (m d id a bb cc dd:Int) (w:World) (r:Ending) (w' :World):Prop:=
 Below w.heap.size w w' ∧((putB Q m d id (a,bb,cc,dd)=false∧r= .returned (.tuple #[.agg #[.int .i64 0,.int .i64 0,.slice none 0 0,.slice none 0 0],.bool false]))∨(putB Q m d id (a,bb,cc,dd)=true∧∃j,plcJ Q id j∧((2000<(putL Q m d id (a,bb,cc,dd) j).length∧r= .returned (.tuple #[.agg #[.int .i64 0,.int .i64 0,.slice none 0 0,.slice none 0 0],.bool false]))∨((putL Q m d id (a,bb,cc,dd) j).length≤2000∧∃v u I,r= .returned (.tuple #[.agg #[.int .i64 m,.int .i64 d,v,u],.bool true])∧w'.ownsRow w.heap.size 59 5 v (Q.m+1) (itCs (insQ Q j id (a,bb,cc,dd)) (List.range (Q.m+1)))∧w'.ownsRow w.heap.size 55 5 u (putL Q m d id (a,bb,cc,dd) j).length (wbCs (putL Q m d id (a,bb,cc,dd) j) I)∧IvP (fun b=>w.heap.size≤b∧v.ownBlock≠some b) w' (putL Q m d id (a,bb,cc,dd) j) I))))
theorem set4_blk {W:World} {g:Nat} {u0 u1 u2 u3:Value} (B:Blk W g [u0,u1,u2,u3]) (v0 v1 v2 v3:Value):Hid (Blk ((((W.setCell ⟨g,0,none⟩ v0).setCell ⟨g,1,none⟩ v1).setCell ⟨g,2,none⟩ v2).setCell ⟨g,3,none⟩ v3) g [v0,v1,v2,v3]):=
 (((B.setI 0 (by simp) _).setI 1 (by simp) _).setI 2 (by simp) _).setI 3 (by simp) _
theorem set4_below {w W:World} {B g:Nat} (h:Below B w W) (hg:B≤g) (v0 v1 v2 v3:Value):Below B w ((((W.setCell ⟨g,0,none⟩ v0).setCell ⟨g,1,none⟩ v1).setCell ⟨g,2,none⟩ v2).setCell ⟨g,3,none⟩ v3):=
 (((h.setCell hg _).setCell hg _).setCell hg _).setCell hg _
theorem set4_heap {W:World} {g b:Nat} {v0 v1 v2 v3:Value} (h:b≠g):((((W.setCell ⟨g,0,none⟩ v0).setCell ⟨g,1,none⟩ v1).setCell ⟨g,2,none⟩ v2).setCell ⟨g,3,none⟩ v3).heap[b]? =W.heap[b]? :=
 (Below.heap_setCell _ _ _ _ h).trans ((Below.heap_setCell _ _ _ _ h).trans ((Below.heap_setCell _ _ _ _ h).trans (Below.heap_setCell _ _ _ _ h)))
theorem putL_le {Q:QD} {m d id:Int} {sg:Int×Int×Int×Int} {j:Nat} (hd0:0≤d) (hd8:d≤8):(putL Q m d id sg j).length≤87381:=by
 obtain⟨e,rfl⟩:∃e:Nat,d=(e:Int):=⟨d.toNat,by omega⟩
 have h1:=putT_dp (insQ Q j id sg) j m (trQ Q ((e:Int)).toNat 0 (-1048576) (-1048576) 2097152) e (-1048576) (-1048576) 2097152 (dpT_le _ _ (dp_tr Q e 0 (-1048576) (-1048576) 2097152))
 exact Nat.le_trans (wrT_le 8 _ (-1048576) (-1048576) 2097152 (by omega)) (by decide)
theorem in6_seg {a b c d:Int} (h:segOk a b c d=true):In6 a∧In6 b∧In6 c∧In6 d:=by
 obtain⟨s1,s2⟩:=spots_of_seg h
 obtain⟨a1,a2⟩:=in6_of_spot s1
 obtain⟨a3,a4⟩:=in6_of_spot s2
 exact⟨a1,a2,a3,a4⟩
theorem int5_one (a b c d e:Int):∀u∈[Value.int .i64 a,.int .i64 b,.int .i64 c,.int .i64 d,.int .i64 e],u.oneCell' =true:=by
 intro u hu
 simp only[List.mem_cons,List.not_mem_nil,or_false] at hu
 rcases hu with h | h | h | h | h<;>subst h<;>rfl
theorem specQuadPut_any (w:World) (Q:QD) (ao bo:Option Addr) (cap bcap A off:Nat) (so:Nat→Option Addr×Nat) (m d:Int) (hm:Q.m≤1048576) (hN:Q.N≤1048576) (hL:∀i,i<Q.N→Q.L i≤1048576) (hbo:0<Q.N→bo=some ⟨A,off,none⟩) (hso:∀i,i<Q.N→(so i).1=none→(so i).2=0) (hS:ItIn Q w ao (List.range Q.m)) (hBl:BlIn Q w A off so) (id a bb cc dd:Int):Calls Try.prog 8 #[.agg #[.int .i64 m,.int .i64 d,.slice ao Q.m cap,.slice bo Q.N bcap],.int .i64 id,Sg a bb cc dd] w (PutS Q m d id a bb cc dd w):=by
 have B0:Blk (((w.alloc (.cells #[.int .i64 m,.int .i64 d,.slice ao Q.m cap,.slice bo Q.N bcap] 34)).alloc (.cells #[.int .i64 a,.int .i64 bb,.int .i64 cc,.int .i64 dd] 40)).alloc (.cells #[.int .i64 0,.int .i64 0,.slice none 0 0,.slice none 0 0] 34)) w.heap.size [.int .i64 m,.int .i64 d,.slice ao Q.m cap,.slice bo Q.N bcap]:=((Blk.new w [.int .i64 m,.int .i64 d,.slice ao Q.m cap,.slice bo Q.N bcap] 34 rfl).alloc _).alloc _
 have B1:Blk (((w.alloc (.cells #[.int .i64 m,.int .i64 d,.slice ao Q.m cap,.slice bo Q.N bcap] 34)).alloc (.cells #[.int .i64 a,.int .i64 bb,.int .i64 cc,.int .i64 dd] 40)).alloc (.cells #[.int .i64 0,.int .i64 0,.slice none 0 0,.slice none 0 0] 34)) (w.heap.size+1) [.int .i64 a,.int .i64 bb,.int .i64 cc,.int .i64 dd]:=(Blk.new (w.alloc (.cells #[.int .i64 m,.int .i64 d,.slice ao Q.m cap,.slice bo Q.N bcap] 34)) [.int .i64 a,.int .i64 bb,.int .i64 cc,.int .i64 dd] 40 (by simp)).alloc _
 have B2:Blk (((w.alloc (.cells #[.int .i64 m,.int .i64 d,.slice ao Q.m cap,.slice bo Q.N bcap] 34)).alloc (.cells #[.int .i64 a,.int .i64 bb,.int .i64 cc,.int .i64 dd] 40)).alloc (.cells #[.int .i64 0,.int .i64 0,.slice none 0 0,.slice none 0 0] 34)) (w.heap.size+2) [.int .i64 0,.int .i64 0,.slice none 0 0,.slice none 0 0]:=Blk.new ((w.alloc (.cells #[.int .i64 m,.int .i64 d,.slice ao Q.m cap,.slice bo Q.N bcap] 34)).alloc (.cells #[.int .i64 a,.int .i64 bb,.int .i64 cc,.int .i64 dd] 40)) [.int .i64 0,.int .i64 0,.slice none 0 0,.slice none 0 0] 34 (by simp)
 have HB:Below w.heap.size w (((w.alloc (.cells #[.int .i64 m,.int .i64 d,.slice ao Q.m cap,.slice bo Q.N bcap] 34)).alloc (.cells #[.int .i64 a,.int .i64 bb,.int .i64 cc,.int .i64 dd] 40)).alloc (.cells #[.int .i64 0,.int .i64 0,.slice none 0 0,.slice none 0 0] 34)):=(((Below.refl _ w).alloc (Nat.le_refl _) _).alloc (by simp) _).alloc (by simp;omega) _
 have C:=l13Root_any (((w.alloc (.cells #[.int .i64 m,.int .i64 d,.slice ao Q.m cap,.slice bo Q.N bcap] 34)).alloc (.cells #[.int .i64 a,.int .i64 bb,.int .i64 cc,.int .i64 dd] 40)).alloc (.cells #[.int .i64 0,.int .i64 0,.slice none 0 0,.slice none 0 0] 34)) Q ao bo cap bcap A off so m d hm hN hL hbo hso (hS.step HB) (hBl.below HB)
 have HS:Hid (ItIn Q w ao (List.range Q.m)):=hS
 have hmI:(Q.m:Int)≤1048576:=by omega
 obtain⟨i0,hi,hz0,hz1,hz2⟩:=info_item
 clear hS hBl
 go_enter Try.func8,Try.ntmps8
 go_upto_region 1 with fail
 generalize (((w.alloc (.cells #[.int .i64 m,.int .i64 d,.slice ao Q.m cap,.slice bo Q.N bcap] 34)).alloc (.cells #[.int .i64 a,.int .i64 bb,.int .i64 cc,.int .i64 dd] 40)).alloc (.cells #[.int .i64 0,.int .i64 0,.slice none 0 0,.slice none 0 0] 34))=W1 at *
 have c0:=B0.c 0 rfl;have c1:=B0.c 1 rfl;have c2:=B0.c 2 rfl;have c3:=B0.c 3 rfl
 go_wp2_with fail
 refine C.mono ?_
 rintro r w1 ⟨hB1,hC⟩
 have hP2:w.heap.size+2<W1.heap.size:=B2.lt
 have hW1:=hB1.size
 replace B0:=B0.step hB1
 replace B1:=B1.step hB1
 replace B2:=B2.step hB1
 replace HB:=HB.trans (hB1.mono HB.size)
 clear C c0 c1 c2 c3 hB1
 rcases hC with ⟨hq,rfl⟩ | ⟨hq,kv,ev,rfl,hM⟩
 · have HQ:Hid (putB Q m d id (a,bb,cc,dd)=false):=by show _=_;unfold putB;rw[hq];rfl
   clear hq
   go_upto_region 2 with fail
   replace B2:=B2.alloc (.cells #[.int .i64 0,.int .i64 0,.int .i64 0,.slice none 0 0,.slice none 0 0] 64)
   replace HB:=HB.alloc (show w.heap.size≤w1.heap.size by omega) (.cells #[.int .i64 0,.int .i64 0,.int .i64 0,.slice none 0 0,.slice none 0 0] 64)
   generalize (w1.alloc (.cells #[.int .i64 0,.int .i64 0,.int .i64 0,.slice none 0 0,.slice none 0 0] 64))=W2 at *
   have y0:=B2.f 0 rfl;have y1:=B2.f 1 rfl;have y2:=B2.f 2 rfl;have y3:=B2.f 3 rfl;have z0:=B2.c 0 rfl;have z1:=B2.c 1 rfl;have z2:=B2.c 2 rfl;have z3:=B2.c 3 rfl
   have BF:=set4_blk B2 (.int .i64 0) (.int .i64 0) (.slice none 0 0) (.slice none 0 0)
   have HF:=set4_below HB (show w.heap.size≤w.heap.size+2 by omega) (.int .i64 0) (.int .i64 0) (.slice none 0 0) (.slice none 0 0)
   go_wp2
   have r0:=BF.out.c 0 rfl;have r1:=BF.out.c 1 rfl;have r2:=BF.out.c 2 rfl;have r3:=BF.out.c 3 rfl
   refine bodyPost_ret (v:= .tuple #[.agg #[.int .i64 0,.int .i64 0,.slice none 0 0,.slice none 0 0],.bool false]) (by simp[results,Try.results8,go_sem,r0,r1,r2,r3]) rfl ?_
   exact⟨HF,.inl ⟨HQ.out,rfl⟩⟩
 · obtain ⟨ko, kn,kc,eo,en,ec,rfl,rfl⟩:=hM.vals
   have HQ:Hid (qOk Q m d=true):=hq
   obtain⟨⟨hm1,hm8⟩,⟨hd0,hd8⟩,hits,hrt⟩:=qOk_all hq
   have h6:=its6_of hits
   have hri:=rise_of hits
   clear hq hits
   go_upto_region 2 with fail
   have BT:Blk (w1.alloc (.cells #[.int .i64 (-1048576),.int .i64 (-1048576),.int .i64 2097152,.slice ko kn kc,.slice eo en ec] 64)) w1.heap.size [.int .i64 (-1048576),.int .i64 (-1048576),.int .i64 2097152,.slice ko kn kc,.slice eo en ec]:=Blk.new w1 [.int .i64 (-1048576),.int .i64 (-1048576),.int .i64 2097152,.slice ko kn kc,.slice eo en ec] 64 rfl
   have hM2:MTr (fun b=>w.heap.size+2<b∧b<w1.heap.size) (w1.alloc (.cells #[.int .i64 (-1048576),.int .i64 (-1048576),.int .i64 2097152,.slice ko kn kc,.slice eo en ec] 64)) (trQ Q d.toNat 0 (-1048576) (-1048576) 2097152) (-1048576) (-1048576) 2097152 (.slice ko kn kc) (.slice eo en ec):=MTr.keep (by simp) (fun b _ hb=>((Below.refl w1.heap.size w1).alloc (Nat.le_refl _) _).block b hb) (fun b h h2=>⟨by omega,h2⟩) hM
   replace B0:=B0.alloc (.cells #[.int .i64 (-1048576),.int .i64 (-1048576),.int .i64 2097152,.slice ko kn kc,.slice eo en ec] 64)
   replace B1:=B1.alloc (.cells #[.int .i64 (-1048576),.int .i64 (-1048576),.int .i64 2097152,.slice ko kn kc,.slice eo en ec] 64)
   replace B2:=B2.alloc (.cells #[.int .i64 (-1048576),.int .i64 (-1048576),.int .i64 2097152,.slice ko kn kc,.slice eo en ec] 64)
   replace HB:=HB.alloc (show w.heap.size≤w1.heap.size by omega) (.cells #[.int .i64 (-1048576),.int .i64 (-1048576),.int .i64 2097152,.slice ko kn kc,.slice eo en ec] 64)
   have hW2:w1.heap.size<(w1.alloc (.cells #[.int .i64 (-1048576),.int .i64 (-1048576),.int .i64 2097152,.slice ko kn kc,.slice eo en ec] 64)).heap.size:=BT.lt
   clear hM
   generalize (w1.alloc (.cells #[.int .i64 (-1048576),.int .i64 (-1048576),.int .i64 2097152,.slice ko kn kc,.slice eo en ec] 64))=W2 at *
   go_wp2_with fail
   refine(l1InQ_any id 1 1000 W2).mono ?_
   rintro r w3 ⟨rfl,hB3⟩
   have sw3:=hB3.size
   replace B0:=B0.step hB3
   replace B1:=B1.step hB3
   replace B2:=B2.step hB3
   replace BT:=BT.step hB3
   replace HB:=HB.trans (hB3.mono HB.size)
   replace hM2:=hM2.step hB3
   clear hB3
   by_cases hid:1≤id∧id≤1000
   rotate_left
   · rw[decide_eq_false hid]
     have HP:Hid (putB Q m d id (a,bb,cc,dd)=false):=by show _=_;unfold putB;rw[decide_eq_false (fun h=>hid h.1),Bool.and_false]
     clear hid
     have y0:=B2.f 0 rfl;have y1:=B2.f 1 rfl;have y2:=B2.f 2 rfl;have y3:=B2.f 3 rfl;have z0:=B2.c 0 rfl;have z1:=B2.c 1 rfl;have z2:=B2.c 2 rfl;have z3:=B2.c 3 rfl
     have BF:=set4_blk B2 (.int .i64 0) (.int .i64 0) (.slice none 0 0) (.slice none 0 0)
     have HF:=set4_below HB (show w.heap.size≤w.heap.size+2 by omega) (.int .i64 0) (.int .i64 0) (.slice none 0 0) (.slice none 0 0)
     go_wp2
     have r0:=BF.out.c 0 rfl;have r1:=BF.out.c 1 rfl;have r2:=BF.out.c 2 rfl;have r3:=BF.out.c 3 rfl
     refine bodyPost_ret (v:= .tuple #[.agg #[.int .i64 0,.int .i64 0,.slice none 0 0,.slice none 0 0],.bool false]) (by simp[results,Try.results8,go_sem,r0,r1,r2,r3]) rfl ?_
     exact⟨HF,.inl ⟨HP.out,rfl⟩⟩
   rw[decide_eq_true hid]
   have n0:=B1.c 0 rfl;have n1:=B1.c 1 rfl;have n2:=B1.c 2 rfl;have n3:=B1.c 3 rfl
   go_wp2_with fail
   refine(specSegQ_any a bb cc dd w3).mono ?_
   rintro r w4 ⟨rfl,hB4⟩
   clear n0 n1 n2 n3
   have sw4:=hB4.size
   replace B0:=B0.step hB4
   replace B1:=B1.step hB4
   replace B2:=B2.step hB4
   replace BT:=BT.step hB4
   replace HB:=HB.trans (hB4.mono HB.size)
   replace hM2:=hM2.step hB4
   clear hB4
   cases hsg:segOk a bb cc dd with
   | false=>
     have HP:Hid (putB Q m d id (a,bb,cc,dd)=false):=by show _=_;unfold putB;rw[decide_eq_false (fun h=>by have:=h.2.1;simp only at this;rw[hsg] at this;cases this),Bool.and_false]
     clear hsg hid
     have y0:=B2.f 0 rfl;have y1:=B2.f 1 rfl;have y2:=B2.f 2 rfl;have y3:=B2.f 3 rfl;have z0:=B2.c 0 rfl;have z1:=B2.c 1 rfl;have z2:=B2.c 2 rfl;have z3:=B2.c 3 rfl
     have BF:=set4_blk B2 (.int .i64 0) (.int .i64 0) (.slice none 0 0) (.slice none 0 0)
     have HF:=set4_below HB (show w.heap.size≤w.heap.size+2 by omega) (.int .i64 0) (.int .i64 0) (.slice none 0 0) (.slice none 0 0)
     go_wp2
     have r0:=BF.out.c 0 rfl;have r1:=BF.out.c 1 rfl;have r2:=BF.out.c 2 rfl;have r3:=BF.out.c 3 rfl
     refine bodyPost_ret (v:= .tuple #[.agg #[.int .i64 0,.int .i64 0,.slice none 0 0,.slice none 0 0],.bool false]) (by simp[results,Try.results8,go_sem,r0,r1,r2,r3]) rfl ?_
     exact⟨HF,.inl ⟨HP.out,rfl⟩⟩
   | true=>
     have HSG:Hid (segOk a bb cc dd=true):=hsg
     have HID:Hid (1≤id∧id≤1000):=hid
     clear hsg hid
     have c0:=B0.c 0 rfl;have c1:=B0.c 1 rfl;have c2:=B0.c 2 rfl;have c3:=B0.c 3 rfl
     by_cases h40:Q.m<40
     rotate_left
     · have HP:Hid (putB Q m d id (a,bb,cc,dd)=false):=by show _=_;unfold putB;rw[decide_eq_false (fun h=>h40 h.2.2.1),Bool.and_false]
       have h40I:(40:Int)≤Q.m:=by omega
       clear h40
       have y0:=B2.f 0 rfl;have y1:=B2.f 1 rfl;have y2:=B2.f 2 rfl;have y3:=B2.f 3 rfl;have z0:=B2.c 0 rfl;have z1:=B2.c 1 rfl;have z2:=B2.c 2 rfl;have z3:=B2.c 3 rfl
       have BF:=set4_blk B2 (.int .i64 0) (.int .i64 0) (.slice none 0 0) (.slice none 0 0)
       have HF:=set4_below HB (show w.heap.size≤w.heap.size+2 by omega) (.int .i64 0) (.int .i64 0) (.slice none 0 0) (.slice none 0 0)
       go_wp2
       have r0:=BF.out.c 0 rfl;have r1:=BF.out.c 1 rfl;have r2:=BF.out.c 2 rfl;have r3:=BF.out.c 3 rfl
       refine bodyPost_ret (v:= .tuple #[.agg #[.int .i64 0,.int .i64 0,.slice none 0 0,.slice none 0 0],.bool false]) (by simp[results,Try.results8,go_sem,r0,r1,r2,r3]) rfl ?_
       exact⟨HF,.inl ⟨HP.out,rfl⟩⟩
     have h40I:(Q.m:Int)<40:=by omega
     go_upto_region 5 with fail
     have hG1:w1.heap.size<w4.heap.size:=by omega
     have HO0:(w4.alloc (.cells #[] 59)).ownsRow w4.heap.size 59 5 (.slice (some ⟨w4.heap.size,0,none⟩) 0 0) 0 []:=World.ownsRow_made w4 #[] 0 (Nat.le_refl _) (by decide) rfl
     replace B0:=B0.alloc (.cells #[] 59)
     replace B1:=B1.alloc (.cells #[] 59)
     replace B2:=B2.alloc (.cells #[] 59)
     replace BT:=BT.alloc (.cells #[] 59)
     replace HB:=HB.alloc (by omega) (.cells #[] 59)
     replace hM2:=hM2.step ((Below.refl _ w4).alloc (Nat.le_refl _) (.cells #[] 59))
     have hG0:w4.heap.size≤(w4.alloc (.cells #[] 59)).heap.size:=by simp
     clear c0 c1 c2 c3
     generalize (w4.alloc (.cells #[] 59))=W5 at *
     go_wp2_with fail
     go_loopw [10,11,12] (fun v pb ic wr=>∃(c:Nat) (vv:Value),vv=v∧c≤Q.m∧ic= .int .i64 c∧(Blk wr w.heap.size [.int .i64 m,.int .i64 d,.slice ao Q.m cap,.slice bo Q.N bcap]∧Blk wr (w.heap.size+1) [.int .i64 a,.int .i64 bb,.int .i64 cc,.int .i64 dd]∧Blk wr (w.heap.size+2) [.int .i64 0,.int .i64 0,.slice none 0 0,.slice none 0 0]∧Blk wr w1.heap.size [.int .i64 (-1048576),.int .i64 (-1048576),.int .i64 2097152,.slice ko kn kc,.slice eo en ec]∧MTr (fun b=>w.heap.size+2<b∧b<w1.heap.size) wr (trQ Q d.toNat 0 (-1048576) (-1048576) 2097152) (-1048576) (-1048576) 2097152 (.slice ko kn kc) (.slice eo en ec)∧Below w.heap.size w wr∧w4.heap.size≤wr.heap.size)∧((pb= .bool false∧(∀i,i<c→Q.I i<id)∧wr.ownsRow w4.heap.size 59 5 vv c (itCs Q (List.range c)))∨(∃j,j<c∧pb= .bool true∧(∀i,i<j→Q.I i<id)∧id<Q.I j∧wr.ownsRow w4.heap.size 59 5 vv (c+1) (itCs (insQ Q j id (a,bb,cc,dd)) (List.range (c+1)))))) (fun _ _ i _=>Q.m-(intOf i).toNat)
     case atStart=>exact⟨0,_,rfl,by omega,rfl,⟨B0,B1,B2,BT,hM2,HB,hG0⟩,.inl ⟨rfl,fun i hi=>absurd hi (by omega),HO0⟩⟩
     case round=>
       clear B0 B1 B2 BT hM2 HB hG0 HO0
       obtain⟨c,vv,rfl,hc,rfl,⟨B0,B1,B2,BT,hM2,HB,hGr⟩,hCase⟩:=hrel
       have q2:=B0.c 2 rfl
       by_cases hcm:c<Q.m
       · have hcI:(c:Int)<Q.m:=by omega
         obtain⟨A1,off1,rfl,hA1,c0,c1,c2,c3,c4⟩:=HS.out.step HB c c (by simp[hcm])
         by_cases heq:Q.I c=id
         · have HP:Hid (putB Q m d id (a,bb,cc,dd)=false):=by show _=_;unfold putB;rw[decide_eq_false (fun h=>h.2.2.2 c hcm heq),Bool.and_false]
           have hxe:(Q.I c==id)=true:=by simp[heq]
           clear heq hCase
           have y0:=B2.f 0 rfl;have y1:=B2.f 1 rfl;have y2:=B2.f 2 rfl;have y3:=B2.f 3 rfl;have z0:=B2.c 0 rfl;have z1:=B2.c 1 rfl;have z2:=B2.c 2 rfl;have z3:=B2.c 3 rfl
           have BF:=set4_blk B2 (.int .i64 0) (.int .i64 0) (.slice none 0 0) (.slice none 0 0)
           have HF:=set4_below HB (show w.heap.size≤w.heap.size+2 by omega) (.int .i64 0) (.int .i64 0) (.slice none 0 0) (.slice none 0 0)
           go_wp2
           have r0:=BF.out.c 0 rfl;have r1:=BF.out.c 1 rfl;have r2:=BF.out.c 2 rfl;have r3:=BF.out.c 3 rfl
           refine bodyPost_ret (v:= .tuple #[.agg #[.int .i64 0,.int .i64 0,.slice none 0 0,.slice none 0 0],.bool false]) (by simp[results,Try.results8,go_sem,r0,r1,r2,r3]) rfl ?_
           exact⟨HF,.inl ⟨HP.out,rfl⟩⟩
         · have hxe:(Q.I c==id)=false:=by simpa using heq
           have HNE:Hid (Q.I c≠id):=heq
           clear heq
           rcases hCase with ⟨rfl,hlt,HO⟩ | ⟨j,hjc,rfl,hlt,hjI,HO⟩
           · have HLT:Hid (∀i,i<c→Q.I i<id):=hlt
             clear hlt
             by_cases hgt:id<Q.I c
             · have n0:=B1.c 0 rfl;have n1:=B1.c 1 rfl;have n2:=B1.c 2 rfl;have n3:=B1.c 3 rfl
               have HO6:=ownA_step HO ((Below.refl _ _).alloc (Nat.le_refl _) (.cells #[.int .i64 id,.int .i64 a,.int .i64 bb,.int .i64 cc,.int .i64 dd] 59))
               have hs6:Hid ((wr.alloc (.cells #[.int .i64 id,.int .i64 a,.int .i64 bb,.int .i64 cc,.int .i64 dd] 59)).heap.size=wr.heap.size+1):=by show(wr.alloc _).heap.size=_;simp
               go_wp2_with (at_builtin;go_loud (refine wpList_append_own_at _ rfl _ _ 31 rfl w4.heap.size 59 i0 (.agg #[.int .i64 0,.int .i64 0,.int .i64 0,.int .i64 0,.int .i64 0]) 5 40 Try.underlying31 hi hz0 hz1 hz2 rfl (by decide) _ _ _ rfl HO6 ⟨wr.heap.size,0,none⟩ 1 1 [.int .i64 id,.int .i64 a,.int .i64 bb,.int .i64 cc,.int .i64 dd] rfl rfl (new_cells _ _ _) (int5_one _ _ _ _ _) (by unfold maxLen;omega) (by omega) (by have:=hs6.out;omega) ?_))
               intro v9 wa hown hgrow _ hob
               replace B0:=(B0.alloc (.cells #[.int .i64 id,.int .i64 a,.int .i64 bb,.int .i64 cc,.int .i64 dd] 59)).grown hgrow (fun e3=>by have:=(HO6.lt _ e3.symm).1;omega)
               replace B1:=(B1.alloc (.cells #[.int .i64 id,.int .i64 a,.int .i64 bb,.int .i64 cc,.int .i64 dd] 59)).grown hgrow (fun e3=>by have:=(HO6.lt _ e3.symm).1;omega)
               replace B2:=(B2.alloc (.cells #[.int .i64 id,.int .i64 a,.int .i64 bb,.int .i64 cc,.int .i64 dd] 59)).grown hgrow (fun e3=>by have:=(HO6.lt _ e3.symm).1;omega)
               replace BT:=(BT.alloc (.cells #[.int .i64 id,.int .i64 a,.int .i64 bb,.int .i64 cc,.int .i64 dd] 59)).grown hgrow (fun e3=>by have:=(HO6.lt _ e3.symm).1;omega)
               replace HB:=(HB.alloc (by omega) (.cells #[.int .i64 id,.int .i64 a,.int .i64 bb,.int .i64 cc,.int .i64 dd] 59)).grown hgrow (by have:=hs6.out;omega) (fun b hb=>by have:=(HO6.lt b hb).1;omega)
               replace hM2:=MTr.keep (ok' :=(fun b=>w.heap.size+2<b∧b<w1.heap.size)) hgrow.size (fun b hb hb2=>hgrow.block b hb2 (fun e3=>by have:=(HO6.lt b e3.symm).1;omega)) (fun _ h _=>h) (hM2.step ((Below.refl _ _).alloc (Nat.le_refl _) (.cells #[.int .i64 id,.int .i64 a,.int .i64 bb,.int .i64 cc,.int .i64 dd] 59)))
               have hGwa:w4.heap.size≤wa.heap.size:=by have h:=hgrow.size;have:=hs6.out;omega
               clear HO6 hs6 hgrow hob
               have hown2:wa.ownsRow w4.heap.size 59 5 v9 (c+1) (itCs (insQ Q c id (a,bb,cc,dd)) (List.range (c+1))):=by rw[itCs_put];exact hown
               obtain⟨ao9,cap9,rfl⟩:=ownQ_slice hown2
               clear hown n0 n1 n2 n3 q2 c0 c1 c2 c3 c4 HO
               obtain⟨A2,off2,e2,hA2,c0,c1,c2,c3,c4⟩:=HS.out.step HB c c (by simp[hcm])
               cases e2
               have q2:=B0.c 2 rfl
               have HO6:=ownA_step hown2 ((Below.refl _ _).alloc (Nat.le_refl _) (.cells #[.int .i64 (Q.I c),.int .i64 (Q.S c).1,.int .i64 (Q.S c).2.1,.int .i64 (Q.S c).2.2.1,.int .i64 (Q.S c).2.2.2] 59))
               have hs6:Hid ((wa.alloc (.cells #[.int .i64 (Q.I c),.int .i64 (Q.S c).1,.int .i64 (Q.S c).2.1,.int .i64 (Q.S c).2.2.1,.int .i64 (Q.S c).2.2.2] 59)).heap.size=wa.heap.size+1):=by show(wa.alloc _).heap.size=_;simp
               go_wp2_with (at_builtin;go_loud (refine wpList_append_own_at _ rfl _ _ 31 rfl w4.heap.size 59 i0 (.agg #[.int .i64 0,.int .i64 0,.int .i64 0,.int .i64 0,.int .i64 0]) 5 40 Try.underlying31 hi hz0 hz1 hz2 rfl (by decide) _ _ _ rfl HO6 ⟨wa.heap.size,0,none⟩ 1 1 [.int .i64 (Q.I c),.int .i64 (Q.S c).1,.int .i64 (Q.S c).2.1,.int .i64 (Q.S c).2.2.1,.int .i64 (Q.S c).2.2.2] rfl rfl (new_cells _ _ _) (int5_one _ _ _ _ _) (by unfold maxLen;omega) (by omega) (by have:=hs6.out;omega) ?_))
               intro v9 wb hown hgrow _ hob
               replace B0:=(B0.alloc (.cells #[.int .i64 (Q.I c),.int .i64 (Q.S c).1,.int .i64 (Q.S c).2.1,.int .i64 (Q.S c).2.2.1,.int .i64 (Q.S c).2.2.2] 59)).grown hgrow (fun e3=>by have:=(HO6.lt _ e3.symm).1;omega)
               replace B1:=(B1.alloc (.cells #[.int .i64 (Q.I c),.int .i64 (Q.S c).1,.int .i64 (Q.S c).2.1,.int .i64 (Q.S c).2.2.1,.int .i64 (Q.S c).2.2.2] 59)).grown hgrow (fun e3=>by have:=(HO6.lt _ e3.symm).1;omega)
               replace B2:=(B2.alloc (.cells #[.int .i64 (Q.I c),.int .i64 (Q.S c).1,.int .i64 (Q.S c).2.1,.int .i64 (Q.S c).2.2.1,.int .i64 (Q.S c).2.2.2] 59)).grown hgrow (fun e3=>by have:=(HO6.lt _ e3.symm).1;omega)
               replace BT:=(BT.alloc (.cells #[.int .i64 (Q.I c),.int .i64 (Q.S c).1,.int .i64 (Q.S c).2.1,.int .i64 (Q.S c).2.2.1,.int .i64 (Q.S c).2.2.2] 59)).grown hgrow (fun e3=>by have:=(HO6.lt _ e3.symm).1;omega)
               replace HB:=(HB.alloc (by omega) (.cells #[.int .i64 (Q.I c),.int .i64 (Q.S c).1,.int .i64 (Q.S c).2.1,.int .i64 (Q.S c).2.2.1,.int .i64 (Q.S c).2.2.2] 59)).grown hgrow (by have:=hs6.out;omega) (fun b hb=>by have:=(HO6.lt b hb).1;omega)
               replace hM2:=MTr.keep (ok' :=(fun b=>w.heap.size+2<b∧b<w1.heap.size)) hgrow.size (fun b hb hb2=>hgrow.block b hb2 (fun e3=>by have:=(HO6.lt b e3.symm).1;omega)) (fun _ h _=>h) (hM2.step ((Below.refl _ _).alloc (Nat.le_refl _) (.cells #[.int .i64 (Q.I c),.int .i64 (Q.S c).1,.int .i64 (Q.S c).2.1,.int .i64 (Q.S c).2.2.1,.int .i64 (Q.S c).2.2.2] 59)))
               have hGwb:w4.heap.size≤wb.heap.size:=by have h:=hgrow.size;have:=hs6.out;omega
               clear HO6 hs6 hgrow hob
               have hown3:wb.ownsRow w4.heap.size 59 5 v9 (c+1+1) (itCs (insQ Q c id (a,bb,cc,dd)) (List.range (c+1+1))):=by rw[itCs_gt (Nat.le_refl _),List.range_succ];exact hown
               clear hown hown2 q2 c0 c1 c2 c3 c4
               go_wp2
               go_roundw
               case rel=>exact⟨c+1,_,rfl,by omega,by go_num,⟨B0,B1,B2,BT,hM2,HB,hGwb⟩,.inr ⟨c,by omega,rfl,HLT.out,hgt,hown3⟩⟩
               case measure=>simp[intOf];omega
             · have HGT:Hid (¬id<Q.I c):=hgt
               have HO6:=ownA_step HO ((Below.refl _ _).alloc (Nat.le_refl _) (.cells #[.int .i64 (Q.I c),.int .i64 (Q.S c).1,.int .i64 (Q.S c).2.1,.int .i64 (Q.S c).2.2.1,.int .i64 (Q.S c).2.2.2] 59))
               have hs6:Hid ((wr.alloc (.cells #[.int .i64 (Q.I c),.int .i64 (Q.S c).1,.int .i64 (Q.S c).2.1,.int .i64 (Q.S c).2.2.1,.int .i64 (Q.S c).2.2.2] 59)).heap.size=wr.heap.size+1):=by show(wr.alloc _).heap.size=_;simp
               go_wp2_with (at_builtin;go_loud (refine wpList_append_own_at _ rfl _ _ 31 rfl w4.heap.size 59 i0 (.agg #[.int .i64 0,.int .i64 0,.int .i64 0,.int .i64 0,.int .i64 0]) 5 40 Try.underlying31 hi hz0 hz1 hz2 rfl (by decide) _ _ _ rfl HO6 ⟨wr.heap.size,0,none⟩ 1 1 [.int .i64 (Q.I c),.int .i64 (Q.S c).1,.int .i64 (Q.S c).2.1,.int .i64 (Q.S c).2.2.1,.int .i64 (Q.S c).2.2.2] rfl rfl (new_cells _ _ _) (int5_one _ _ _ _ _) (by unfold maxLen;omega) (by omega) (by have:=hs6.out;omega) ?_))
               intro v9 wa hown hgrow _ hob
               replace B0:=(B0.alloc (.cells #[.int .i64 (Q.I c),.int .i64 (Q.S c).1,.int .i64 (Q.S c).2.1,.int .i64 (Q.S c).2.2.1,.int .i64 (Q.S c).2.2.2] 59)).grown hgrow (fun e3=>by have:=(HO6.lt _ e3.symm).1;omega)
               replace B1:=(B1.alloc (.cells #[.int .i64 (Q.I c),.int .i64 (Q.S c).1,.int .i64 (Q.S c).2.1,.int .i64 (Q.S c).2.2.1,.int .i64 (Q.S c).2.2.2] 59)).grown hgrow (fun e3=>by have:=(HO6.lt _ e3.symm).1;omega)
               replace B2:=(B2.alloc (.cells #[.int .i64 (Q.I c),.int .i64 (Q.S c).1,.int .i64 (Q.S c).2.1,.int .i64 (Q.S c).2.2.1,.int .i64 (Q.S c).2.2.2] 59)).grown hgrow (fun e3=>by have:=(HO6.lt _ e3.symm).1;omega)
               replace BT:=(BT.alloc (.cells #[.int .i64 (Q.I c),.int .i64 (Q.S c).1,.int .i64 (Q.S c).2.1,.int .i64 (Q.S c).2.2.1,.int .i64 (Q.S c).2.2.2] 59)).grown hgrow (fun e3=>by have:=(HO6.lt _ e3.symm).1;omega)
               replace HB:=(HB.alloc (by omega) (.cells #[.int .i64 (Q.I c),.int .i64 (Q.S c).1,.int .i64 (Q.S c).2.1,.int .i64 (Q.S c).2.2.1,.int .i64 (Q.S c).2.2.2] 59)).grown hgrow (by have:=hs6.out;omega) (fun b hb=>by have:=(HO6.lt b hb).1;omega)
               replace hM2:=MTr.keep (ok' :=(fun b=>w.heap.size+2<b∧b<w1.heap.size)) hgrow.size (fun b hb hb2=>hgrow.block b hb2 (fun e3=>by have:=(HO6.lt b e3.symm).1;omega)) (fun _ h _=>h) (hM2.step ((Below.refl _ _).alloc (Nat.le_refl _) (.cells #[.int .i64 (Q.I c),.int .i64 (Q.S c).1,.int .i64 (Q.S c).2.1,.int .i64 (Q.S c).2.2.1,.int .i64 (Q.S c).2.2.2] 59)))
               have hGwa:w4.heap.size≤wa.heap.size:=by have h:=hgrow.size;have:=hs6.out;omega
               clear HO6 hs6 hgrow hob
               have hown2:wa.ownsRow w4.heap.size 59 5 v9 (c+1) (itCs Q (List.range (c+1))):=by rw[itCs_more];exact hown
               clear hown q2 c0 c1 c2 c3 c4 HO
               go_wp2
               go_roundw
               case rel=>exact⟨c+1,_,rfl,by omega,by go_num,⟨B0,B1,B2,BT,hM2,HB,hGwa⟩,.inl ⟨rfl,fun i hi=>by
                 by_cases e:i=c
                 · subst e;have:=HNE.out;have:=HGT.out;omega
                 · exact HLT.out i (by omega),hown2⟩⟩
               case measure=>simp[intOf];omega
           · have HLT:Hid (∀i,i<j→Q.I i<id):=hlt
             have HJI:Hid (id<Q.I j):=hjI
             clear hlt hjI
             have HO6:=ownA_step HO ((Below.refl _ _).alloc (Nat.le_refl _) (.cells #[.int .i64 (Q.I c),.int .i64 (Q.S c).1,.int .i64 (Q.S c).2.1,.int .i64 (Q.S c).2.2.1,.int .i64 (Q.S c).2.2.2] 59))
             have hs6:Hid ((wr.alloc (.cells #[.int .i64 (Q.I c),.int .i64 (Q.S c).1,.int .i64 (Q.S c).2.1,.int .i64 (Q.S c).2.2.1,.int .i64 (Q.S c).2.2.2] 59)).heap.size=wr.heap.size+1):=by show(wr.alloc _).heap.size=_;simp
             go_wp2_with (at_builtin;go_loud (refine wpList_append_own_at _ rfl _ _ 31 rfl w4.heap.size 59 i0 (.agg #[.int .i64 0,.int .i64 0,.int .i64 0,.int .i64 0,.int .i64 0]) 5 40 Try.underlying31 hi hz0 hz1 hz2 rfl (by decide) _ _ _ rfl HO6 ⟨wr.heap.size,0,none⟩ 1 1 [.int .i64 (Q.I c),.int .i64 (Q.S c).1,.int .i64 (Q.S c).2.1,.int .i64 (Q.S c).2.2.1,.int .i64 (Q.S c).2.2.2] rfl rfl (new_cells _ _ _) (int5_one _ _ _ _ _) (by unfold maxLen;omega) (by omega) (by have:=hs6.out;omega) ?_))
             intro v9 wa hown hgrow _ hob
             replace B0:=(B0.alloc (.cells #[.int .i64 (Q.I c),.int .i64 (Q.S c).1,.int .i64 (Q.S c).2.1,.int .i64 (Q.S c).2.2.1,.int .i64 (Q.S c).2.2.2] 59)).grown hgrow (fun e3=>by have:=(HO6.lt _ e3.symm).1;omega)
             replace B1:=(B1.alloc (.cells #[.int .i64 (Q.I c),.int .i64 (Q.S c).1,.int .i64 (Q.S c).2.1,.int .i64 (Q.S c).2.2.1,.int .i64 (Q.S c).2.2.2] 59)).grown hgrow (fun e3=>by have:=(HO6.lt _ e3.symm).1;omega)
             replace B2:=(B2.alloc (.cells #[.int .i64 (Q.I c),.int .i64 (Q.S c).1,.int .i64 (Q.S c).2.1,.int .i64 (Q.S c).2.2.1,.int .i64 (Q.S c).2.2.2] 59)).grown hgrow (fun e3=>by have:=(HO6.lt _ e3.symm).1;omega)
             replace BT:=(BT.alloc (.cells #[.int .i64 (Q.I c),.int .i64 (Q.S c).1,.int .i64 (Q.S c).2.1,.int .i64 (Q.S c).2.2.1,.int .i64 (Q.S c).2.2.2] 59)).grown hgrow (fun e3=>by have:=(HO6.lt _ e3.symm).1;omega)
             replace HB:=(HB.alloc (by omega) (.cells #[.int .i64 (Q.I c),.int .i64 (Q.S c).1,.int .i64 (Q.S c).2.1,.int .i64 (Q.S c).2.2.1,.int .i64 (Q.S c).2.2.2] 59)).grown hgrow (by have:=hs6.out;omega) (fun b hb=>by have:=(HO6.lt b hb).1;omega)
             replace hM2:=MTr.keep (ok' :=(fun b=>w.heap.size+2<b∧b<w1.heap.size)) hgrow.size (fun b hb hb2=>hgrow.block b hb2 (fun e3=>by have:=(HO6.lt b e3.symm).1;omega)) (fun _ h _=>h) (hM2.step ((Below.refl _ _).alloc (Nat.le_refl _) (.cells #[.int .i64 (Q.I c),.int .i64 (Q.S c).1,.int .i64 (Q.S c).2.1,.int .i64 (Q.S c).2.2.1,.int .i64 (Q.S c).2.2.2] 59)))
             have hGwa:w4.heap.size≤wa.heap.size:=by have h:=hgrow.size;have:=hs6.out;omega
             clear HO6 hs6 hgrow hob
             have hown2:wa.ownsRow w4.heap.size 59 5 v9 (c+1+1) (itCs (insQ Q j id (a,bb,cc,dd)) (List.range (c+1+1))):=by rw[itCs_gt (Nat.le_of_lt hjc),List.range_succ];exact hown
             clear hown q2 c0 c1 c2 c3 c4 HO
             go_wp2
             go_roundw
             case rel=>exact⟨c+1,_,rfl,by omega,by go_num,⟨B0,B1,B2,BT,hM2,HB,hGwa⟩,.inr ⟨j,by omega,rfl,HLT.out,HJI.out,hown2⟩⟩
             case measure=>simp[intOf];omega
       · obtain rfl:c=Q.m:=by omega
         rcases hCase with ⟨rfl,hlt,HO⟩ | ⟨j,hjc,rfl,hlt,hjI,HO⟩
         · have HPL:Hid (plcJ Q id Q.m):=⟨Nat.le_refl _,hlt,fun i h1 h2=>absurd h1 (by omega)⟩
           clear hlt
           have n0:=B1.c 0 rfl;have n1:=B1.c 1 rfl;have n2:=B1.c 2 rfl;have n3:=B1.c 3 rfl
           have HO6:=ownA_step HO ((Below.refl _ _).alloc (Nat.le_refl _) (.cells #[.int .i64 id,.int .i64 a,.int .i64 bb,.int .i64 cc,.int .i64 dd] 59))
           have hs6:Hid ((wr.alloc (.cells #[.int .i64 id,.int .i64 a,.int .i64 bb,.int .i64 cc,.int .i64 dd] 59)).heap.size=wr.heap.size+1):=by show(wr.alloc _).heap.size=_;simp
           go_wp2_with (at_builtin;go_loud (refine wpList_append_own_at _ rfl _ _ 31 rfl w4.heap.size 59 i0 (.agg #[.int .i64 0,.int .i64 0,.int .i64 0,.int .i64 0,.int .i64 0]) 5 40 Try.underlying31 hi hz0 hz1 hz2 rfl (by decide) _ _ _ rfl HO6 ⟨wr.heap.size,0,none⟩ 1 1 [.int .i64 id,.int .i64 a,.int .i64 bb,.int .i64 cc,.int .i64 dd] rfl rfl (new_cells _ _ _) (int5_one _ _ _ _ _) (by unfold maxLen;omega) (by omega) (by have:=hs6.out;omega) ?_))
           intro v9 wa hown hgrow _ hob
           replace B0:=(B0.alloc (.cells #[.int .i64 id,.int .i64 a,.int .i64 bb,.int .i64 cc,.int .i64 dd] 59)).grown hgrow (fun e3=>by have:=(HO6.lt _ e3.symm).1;omega)
           replace B1:=(B1.alloc (.cells #[.int .i64 id,.int .i64 a,.int .i64 bb,.int .i64 cc,.int .i64 dd] 59)).grown hgrow (fun e3=>by have:=(HO6.lt _ e3.symm).1;omega)
           replace B2:=(B2.alloc (.cells #[.int .i64 id,.int .i64 a,.int .i64 bb,.int .i64 cc,.int .i64 dd] 59)).grown hgrow (fun e3=>by have:=(HO6.lt _ e3.symm).1;omega)
           replace BT:=(BT.alloc (.cells #[.int .i64 id,.int .i64 a,.int .i64 bb,.int .i64 cc,.int .i64 dd] 59)).grown hgrow (fun e3=>by have:=(HO6.lt _ e3.symm).1;omega)
           replace HB:=(HB.alloc (by omega) (.cells #[.int .i64 id,.int .i64 a,.int .i64 bb,.int .i64 cc,.int .i64 dd] 59)).grown hgrow (by have:=hs6.out;omega) (fun b hb=>by have:=(HO6.lt b hb).1;omega)
           replace hM2:=MTr.keep (ok' :=(fun b=>w.heap.size+2<b∧b<w1.heap.size)) hgrow.size (fun b hb hb2=>hgrow.block b hb2 (fun e3=>by have:=(HO6.lt b e3.symm).1;omega)) (fun _ h _=>h) (hM2.step ((Below.refl _ _).alloc (Nat.le_refl _) (.cells #[.int .i64 id,.int .i64 a,.int .i64 bb,.int .i64 cc,.int .i64 dd] 59)))
           have hGwa:w4.heap.size≤wa.heap.size:=by have h:=hgrow.size;have:=hs6.out;omega
           clear HO6 hs6 hgrow hob
           have hown2:wa.ownsRow w4.heap.size 59 5 v9 (Q.m+1) (itCs (insQ Q Q.m id (a,bb,cc,dd)) (List.range (Q.m+1))):=by rw[itCs_put];exact hown
           clear hown n0 n1 n2 n3 q2 HO
           obtain⟨aoF,capF,hv9,hItF⟩:=ItIn.of (Q:=(insQ Q Q.m id (a,bb,cc,dd))) (l:=List.range (Q.m+1)) (by rw[List.length_range];exact hown2)
           rw[List.length_range] at hv9
           subst hv9
           have hne:∀i,i<Q.m→Q.I i≠id:=fun i hi e=>by
             rcases Nat.lt_or_ge i (Q.m) with h | h
             · have:=HPL.out.2.1 i h;omega
             · have:=HPL.out.2.2 i h hi;omega
           have HP:Hid (putB Q m d id (a,bb,cc,dd)=true):=by
             show _=_
             unfold putB
             rw[HQ.out,decide_eq_true ⟨HID.out,HSG.out,h40,hne⟩]
             rfl
           clear hne
           have hPJ:=HPL.out.1
           have CP:Calls Try.prog 30 #[.agg #[.int .i64 (-1048576),.int .i64 (-1048576),.int .i64 2097152,.slice ko kn kc,.slice eo en ec],.slice aoF (Q.m+1) capF,.int .i64 id,Sg a bb cc dd,.int .i64 m,.int .i64 d] wa (PuM (fun b=>w.heap.size+2<b∧b<w1.heap.size) (putT (insQ Q Q.m id (a,bb,cc,dd)) Q.m m (trQ Q d.toNat 0 (-1048576) (-1048576) 2097152) d (-1048576) (-1048576) 2097152) (-1048576) (-1048576) 2097152 wa):=by
             have C:=l13Put_any Q (insQ Q Q.m id (a,bb,cc,dd)) (Q.m) m aoF capF (show Q.m<Q.m+1 by omega) (show Q.m+1≤1048576 by omega) (insQ_its6 h6 (in6_seg HSG.out) hPJ) (insQ_rise hri HPL.out) (fun x y s hh=>insQ_can HPL.out x y s hh) (trQ Q d.toNat 0 (-1048576) (-1048576) 2097152) d (-1048576) (-1048576) 2097152 (fun b=>w.heap.size+2<b∧b<w1.heap.size) _ _ wa root_sq (by have:=dpT_le _ _ (dp_tr Q d.toNat 0 (-1048576) (-1048576) 2097152);omega) hd8 hrt hM2 hItF
             rw[(insQ_at Q (Q.m) id (a,bb,cc,dd)).1,(insQ_at Q (Q.m) id (a,bb,cc,dd)).2] at C
             exact C
           have hown4:wa.ownsRow w4.heap.size 59 5 (.slice aoF (Q.m+1) capF) (Q.m+1) (itCs (insQ Q Q.m id (a,bb,cc,dd)) (List.range (Q.m+1))):=hown2
           have HI4:Hid (∀k,(Value.slice aoF (Q.m+1) capF).ownBlock=some k→w4.heap.size≤k∧k<wa.heap.size):=fun k hk=>World.ownsRow.lt hown4 k hk
           clear hown2 hM2 hItF
           have t0:=BT.c 0 rfl;have t1:=BT.c 1 rfl;have t2:=BT.c 2 rfl;have t3:=BT.c 3 rfl;have t4:=BT.c 4 rfl;have n0:=B1.c 0 rfl;have n1:=B1.c 1 rfl;have n2:=B1.c 2 rfl;have n3:=B1.c 3 rfl;have c0:=B0.c 0 rfl;have c1:=B0.c 1 rfl;have c2:=B0.c 2 rfl
           go_wp2_with fail
           refine CP.mono ?_
           rintro r wp ⟨ko1,kn1,kc1,eo1,en1,ec1,rfl,hMp,hBp⟩
           clear CP t0 t1 t2 t3 t4 n0 n1 n2 n3 c0 c1 c2
           have hPLl:(putL Q m d id (a,bb,cc,dd) Q.m).length≤87381:=putL_le hd0 hd8
           have CW:=l13Write_any (putT (insQ Q Q.m id (a,bb,cc,dd)) Q.m m (trQ Q d.toNat 0 (-1048576) (-1048576) 2097152) d (-1048576) (-1048576) 2097152) _ (-1048576) (-1048576) 2097152 _ _ wp (by have:=hPLl;unfold putL at this;omega) hMp
           replace B0:=B0.step hBp
           replace B2:=B2.step hBp
           replace HB:=HB.trans (hBp.mono HB.size)
           have hown5:=ownA_step hown4 hBp
           have hszp:=hBp.size
           clear hown4 hBp B1 BT hMp
           go_wp2_with fail
           refine CW.mono ?_
           rintro r wq ⟨u,I,rfl,hOU,hIv,hBq⟩
           clear CW
           change wq.ownsRow wp.heap.size 55 5 u (putL Q m d id (a,bb,cc,dd) Q.m).length (wbCs (putL Q m d id (a,bb,cc,dd) Q.m) I) at hOU
           change IvP _ wp (putL Q m d id (a,bb,cc,dd) Q.m) I at hIv
           replace B0:=B0.step hBq
           replace B2:=B2.step hBq
           replace HB:=HB.trans (hBq.mono HB.size)
           have hown6:=ownA_step hown5 hBq
           have hszq:=hBq.size
           clear hown5
           have hP2q:w.heap.size+2<w1.heap.size:=by omega
           obtain⟨nL,hnL⟩:∃nL,(putL Q m d id (a,bb,cc,dd) Q.m).length=nL:=⟨_,rfl⟩
           have HNL:Hid ((putL Q m d id (a,bb,cc,dd) Q.m).length=nL):=hnL
           have hOU2:=hOU
           rw[hnL] at hOU2 hPLl
           obtain⟨uo,uc,rfl⟩:=ownQ_slice hOU2
           clear hOU2 hnL
           have hnLI:(nL:Int)≤87381:=by omega
           by_cases h2000:2000<nL
           · have h2I:(2000:Int)<nL:=by omega
             have y0:=B2.f 0 rfl;have y1:=B2.f 1 rfl;have y2:=B2.f 2 rfl;have y3:=B2.f 3 rfl;have z0:=B2.c 0 rfl;have z1:=B2.c 1 rfl;have z2:=B2.c 2 rfl;have z3:=B2.c 3 rfl
             have BF:=set4_blk B2 (.int .i64 0) (.int .i64 0) (.slice none 0 0) (.slice none 0 0)
             have HF:=set4_below HB (show w.heap.size≤w.heap.size+2 by omega) (.int .i64 0) (.int .i64 0) (.slice none 0 0) (.slice none 0 0)
             go_wp2
             have r0:=BF.out.c 0 rfl;have r1:=BF.out.c 1 rfl;have r2:=BF.out.c 2 rfl;have r3:=BF.out.c 3 rfl
             refine bodyPost_ret (v:= .tuple #[.agg #[.int .i64 0,.int .i64 0,.slice none 0 0,.slice none 0 0],.bool false]) (by simp[results,Try.results8,go_sem,r0,r1,r2,r3]) rfl ?_
             exact⟨HF,.inr ⟨HP.out,Q.m,HPL.out,.inl ⟨by rw[HNL.out];exact h2000,rfl⟩⟩⟩
           · have h2I:(nL:Int)≤2000:=by omega
             have y0:=B2.f 0 rfl;have y1:=B2.f 1 rfl;have y2:=B2.f 2 rfl;have y3:=B2.f 3 rfl;have z0:=B2.c 0 rfl;have z1:=B2.c 1 rfl;have z2:=B2.c 2 rfl;have z3:=B2.c 3 rfl;have c0:=B0.c 0 rfl;have c1:=B0.c 1 rfl
             have BF:=set4_blk B2 (.int .i64 m) (.int .i64 d) (.slice aoF (Q.m+1) capF) (.slice uo nL uc)
             have HF:=set4_below HB (show w.heap.size≤w.heap.size+2 by omega) (.int .i64 m) (.int .i64 d) (.slice aoF (Q.m+1) capF) (.slice uo nL uc)
             have HR1:Hid (((((wq.setCell ⟨w.heap.size+2,0,none⟩ (.int .i64 m)).setCell ⟨w.heap.size+2,1,none⟩ (.int .i64 d)).setCell ⟨w.heap.size+2,2,none⟩ (.slice aoF (Q.m+1) capF)).setCell ⟨w.heap.size+2,3,none⟩ (.slice uo nL uc)).ownsRow w.heap.size 59 5 (.slice aoF (Q.m+1) capF) (Q.m+1) (itCs (insQ Q Q.m id (a,bb,cc,dd)) (List.range (Q.m+1)))):=ownQ_mono2 (ownQ_heap hown6 (fun b hb=>set4_heap (by have:=(hown6.lt b hb).1;omega))) (by omega)
             have HR2:Hid (((((wq.setCell ⟨w.heap.size+2,0,none⟩ (.int .i64 m)).setCell ⟨w.heap.size+2,1,none⟩ (.int .i64 d)).setCell ⟨w.heap.size+2,2,none⟩ (.slice aoF (Q.m+1) capF)).setCell ⟨w.heap.size+2,3,none⟩ (.slice uo nL uc)).ownsRow w.heap.size 55 5 (.slice uo nL uc) (putL Q m d id (a,bb,cc,dd) Q.m).length (wbCs (putL Q m d id (a,bb,cc,dd) Q.m) I)):=ownQ_mono2 (ownQ_heap (v:= .slice uo nL uc) (by exact hOU) (fun b hb=>set4_heap (by have:=(hOU.lt b hb).1;omega))) (by omega)
             have HR3:Hid (IvP (fun b=>w.heap.size≤b∧(Value.slice aoF (Q.m+1) capF).ownBlock≠some b) ((((wq.setCell ⟨w.heap.size+2,0,none⟩ (.int .i64 m)).setCell ⟨w.heap.size+2,1,none⟩ (.int .i64 d)).setCell ⟨w.heap.size+2,2,none⟩ (.slice aoF (Q.m+1) capF)).setCell ⟨w.heap.size+2,3,none⟩ (.slice uo nL uc)) (putL Q m d id (a,bb,cc,dd) Q.m) I):=IvP.keep (by simp[World.setCell];omega) (fun b hb hb2=>(set4_heap (by rcases hb with hb | hb<;>omega)).trans (hBq.block b hb2)) (fun b hb _=>⟨by rcases hb with hb | hb<;>omega,fun e=>by have:=HI4.out b e;rcases hb with hb | hb<;>omega⟩) hIv
             clear hown6 hOU hIv hBq
             go_wp2
             have r0:=BF.out.c 0 rfl;have r1:=BF.out.c 1 rfl;have r2:=BF.out.c 2 rfl;have r3:=BF.out.c 3 rfl
             refine bodyPost_ret (v:= .tuple #[.agg #[.int .i64 m,.int .i64 d,.slice aoF (Q.m+1) capF,.slice uo nL uc],.bool true]) (by simp[results,Try.results8,go_sem,r0,r1,r2,r3]) rfl ?_
             exact⟨HF,.inr ⟨HP.out,Q.m,HPL.out,.inr ⟨by rw[HNL.out];omega,_,_,I,rfl,HR1.out,HR2.out,HR3.out⟩⟩⟩
         · have HPL:Hid (plcJ Q id j):=⟨by omega,hlt,fun i h1 h2=>by
             rcases(show i=j∨j<i by omega) with e | e
             · subst e;exact hjI
             · have:=rise_lt hri (i-j-1) j (by omega)
               rw[show j+(i-j-1)+1=i by omega] at this
               omega⟩
           have hown2:=HO
           have hGwr:=hGr
           clear hlt hjI HO
           obtain⟨aoF,capF,hv9,hItF⟩:=ItIn.of (Q:=(insQ Q j id (a,bb,cc,dd))) (l:=List.range (Q.m+1)) (by rw[List.length_range];exact hown2)
           rw[List.length_range] at hv9
           subst hv9
           have hne:∀i,i<Q.m→Q.I i≠id:=fun i hi e=>by
             rcases Nat.lt_or_ge i (j) with h | h
             · have:=HPL.out.2.1 i h;omega
             · have:=HPL.out.2.2 i h hi;omega
           have HP:Hid (putB Q m d id (a,bb,cc,dd)=true):=by
             show _=_
             unfold putB
             rw[HQ.out,decide_eq_true ⟨HID.out,HSG.out,h40,hne⟩]
             rfl
           clear hne
           have hPJ:=HPL.out.1
           have CP:Calls Try.prog 30 #[.agg #[.int .i64 (-1048576),.int .i64 (-1048576),.int .i64 2097152,.slice ko kn kc,.slice eo en ec],.slice aoF (Q.m+1) capF,.int .i64 id,Sg a bb cc dd,.int .i64 m,.int .i64 d] wr (PuM (fun b=>w.heap.size+2<b∧b<w1.heap.size) (putT (insQ Q j id (a,bb,cc,dd)) j m (trQ Q d.toNat 0 (-1048576) (-1048576) 2097152) d (-1048576) (-1048576) 2097152) (-1048576) (-1048576) 2097152 wr):=by
             have C:=l13Put_any Q (insQ Q j id (a,bb,cc,dd)) (j) m aoF capF (show j<Q.m+1 by omega) (show Q.m+1≤1048576 by omega) (insQ_its6 h6 (in6_seg HSG.out) hPJ) (insQ_rise hri HPL.out) (fun x y s hh=>insQ_can HPL.out x y s hh) (trQ Q d.toNat 0 (-1048576) (-1048576) 2097152) d (-1048576) (-1048576) 2097152 (fun b=>w.heap.size+2<b∧b<w1.heap.size) _ _ wr root_sq (by have:=dpT_le _ _ (dp_tr Q d.toNat 0 (-1048576) (-1048576) 2097152);omega) hd8 hrt hM2 hItF
             rw[(insQ_at Q (j) id (a,bb,cc,dd)).1,(insQ_at Q (j) id (a,bb,cc,dd)).2] at C
             exact C
           have hown4:wr.ownsRow w4.heap.size 59 5 (.slice aoF (Q.m+1) capF) (Q.m+1) (itCs (insQ Q j id (a,bb,cc,dd)) (List.range (Q.m+1))):=hown2
           have HI4:Hid (∀k,(Value.slice aoF (Q.m+1) capF).ownBlock=some k→w4.heap.size≤k∧k<wr.heap.size):=fun k hk=>World.ownsRow.lt hown4 k hk
           clear hown2 hM2 hItF
           have t0:=BT.c 0 rfl;have t1:=BT.c 1 rfl;have t2:=BT.c 2 rfl;have t3:=BT.c 3 rfl;have t4:=BT.c 4 rfl;have n0:=B1.c 0 rfl;have n1:=B1.c 1 rfl;have n2:=B1.c 2 rfl;have n3:=B1.c 3 rfl;have c0:=B0.c 0 rfl;have c1:=B0.c 1 rfl;have c2:=B0.c 2 rfl
           go_wp2_with fail
           refine CP.mono ?_
           rintro r wp ⟨ko1,kn1,kc1,eo1,en1,ec1,rfl,hMp,hBp⟩
           clear CP t0 t1 t2 t3 t4 n0 n1 n2 n3 c0 c1 c2
           have hPLl:(putL Q m d id (a,bb,cc,dd) j).length≤87381:=putL_le hd0 hd8
           have CW:=l13Write_any (putT (insQ Q j id (a,bb,cc,dd)) j m (trQ Q d.toNat 0 (-1048576) (-1048576) 2097152) d (-1048576) (-1048576) 2097152) _ (-1048576) (-1048576) 2097152 _ _ wp (by have:=hPLl;unfold putL at this;omega) hMp
           replace B0:=B0.step hBp
           replace B2:=B2.step hBp
           replace HB:=HB.trans (hBp.mono HB.size)
           have hown5:=ownA_step hown4 hBp
           have hszp:=hBp.size
           clear hown4 hBp B1 BT hMp
           go_wp2_with fail
           refine CW.mono ?_
           rintro r wq ⟨u,I,rfl,hOU,hIv,hBq⟩
           clear CW
           change wq.ownsRow wp.heap.size 55 5 u (putL Q m d id (a,bb,cc,dd) j).length (wbCs (putL Q m d id (a,bb,cc,dd) j) I) at hOU
           change IvP _ wp (putL Q m d id (a,bb,cc,dd) j) I at hIv
           replace B0:=B0.step hBq
           replace B2:=B2.step hBq
           replace HB:=HB.trans (hBq.mono HB.size)
           have hown6:=ownA_step hown5 hBq
           have hszq:=hBq.size
           clear hown5
           have hP2q:w.heap.size+2<w1.heap.size:=by omega
           obtain⟨nL,hnL⟩:∃nL,(putL Q m d id (a,bb,cc,dd) j).length=nL:=⟨_,rfl⟩
           have HNL:Hid ((putL Q m d id (a,bb,cc,dd) j).length=nL):=hnL
           have hOU2:=hOU
           rw[hnL] at hOU2 hPLl
           obtain⟨uo,uc,rfl⟩:=ownQ_slice hOU2
           clear hOU2 hnL
           have hnLI:(nL:Int)≤87381:=by omega
           by_cases h2000:2000<nL
           · have h2I:(2000:Int)<nL:=by omega
             have y0:=B2.f 0 rfl;have y1:=B2.f 1 rfl;have y2:=B2.f 2 rfl;have y3:=B2.f 3 rfl;have z0:=B2.c 0 rfl;have z1:=B2.c 1 rfl;have z2:=B2.c 2 rfl;have z3:=B2.c 3 rfl
             have BF:=set4_blk B2 (.int .i64 0) (.int .i64 0) (.slice none 0 0) (.slice none 0 0)
             have HF:=set4_below HB (show w.heap.size≤w.heap.size+2 by omega) (.int .i64 0) (.int .i64 0) (.slice none 0 0) (.slice none 0 0)
             go_wp2
             have r0:=BF.out.c 0 rfl;have r1:=BF.out.c 1 rfl;have r2:=BF.out.c 2 rfl;have r3:=BF.out.c 3 rfl
             refine bodyPost_ret (v:= .tuple #[.agg #[.int .i64 0,.int .i64 0,.slice none 0 0,.slice none 0 0],.bool false]) (by simp[results,Try.results8,go_sem,r0,r1,r2,r3]) rfl ?_
             exact⟨HF,.inr ⟨HP.out,j,HPL.out,.inl ⟨by rw[HNL.out];exact h2000,rfl⟩⟩⟩
           · have h2I:(nL:Int)≤2000:=by omega
             have y0:=B2.f 0 rfl;have y1:=B2.f 1 rfl;have y2:=B2.f 2 rfl;have y3:=B2.f 3 rfl;have z0:=B2.c 0 rfl;have z1:=B2.c 1 rfl;have z2:=B2.c 2 rfl;have z3:=B2.c 3 rfl;have c0:=B0.c 0 rfl;have c1:=B0.c 1 rfl
             have BF:=set4_blk B2 (.int .i64 m) (.int .i64 d) (.slice aoF (Q.m+1) capF) (.slice uo nL uc)
             have HF:=set4_below HB (show w.heap.size≤w.heap.size+2 by omega) (.int .i64 m) (.int .i64 d) (.slice aoF (Q.m+1) capF) (.slice uo nL uc)
             have HR1:Hid (((((wq.setCell ⟨w.heap.size+2,0,none⟩ (.int .i64 m)).setCell ⟨w.heap.size+2,1,none⟩ (.int .i64 d)).setCell ⟨w.heap.size+2,2,none⟩ (.slice aoF (Q.m+1) capF)).setCell ⟨w.heap.size+2,3,none⟩ (.slice uo nL uc)).ownsRow w.heap.size 59 5 (.slice aoF (Q.m+1) capF) (Q.m+1) (itCs (insQ Q j id (a,bb,cc,dd)) (List.range (Q.m+1)))):=ownQ_mono2 (ownQ_heap hown6 (fun b hb=>set4_heap (by have:=(hown6.lt b hb).1;omega))) (by omega)
             have HR2:Hid (((((wq.setCell ⟨w.heap.size+2,0,none⟩ (.int .i64 m)).setCell ⟨w.heap.size+2,1,none⟩ (.int .i64 d)).setCell ⟨w.heap.size+2,2,none⟩ (.slice aoF (Q.m+1) capF)).setCell ⟨w.heap.size+2,3,none⟩ (.slice uo nL uc)).ownsRow w.heap.size 55 5 (.slice uo nL uc) (putL Q m d id (a,bb,cc,dd) j).length (wbCs (putL Q m d id (a,bb,cc,dd) j) I)):=ownQ_mono2 (ownQ_heap (v:= .slice uo nL uc) (by exact hOU) (fun b hb=>set4_heap (by have:=(hOU.lt b hb).1;omega))) (by omega)
             have HR3:Hid (IvP (fun b=>w.heap.size≤b∧(Value.slice aoF (Q.m+1) capF).ownBlock≠some b) ((((wq.setCell ⟨w.heap.size+2,0,none⟩ (.int .i64 m)).setCell ⟨w.heap.size+2,1,none⟩ (.int .i64 d)).setCell ⟨w.heap.size+2,2,none⟩ (.slice aoF (Q.m+1) capF)).setCell ⟨w.heap.size+2,3,none⟩ (.slice uo nL uc)) (putL Q m d id (a,bb,cc,dd) j) I):=IvP.keep (by simp[World.setCell];omega) (fun b hb hb2=>(set4_heap (by rcases hb with hb | hb<;>omega)).trans (hBq.block b hb2)) (fun b hb _=>⟨by rcases hb with hb | hb<;>omega,fun e=>by have:=HI4.out b e;rcases hb with hb | hb<;>omega⟩) hIv
             clear hown6 hOU hIv hBq
             go_wp2
             have r0:=BF.out.c 0 rfl;have r1:=BF.out.c 1 rfl;have r2:=BF.out.c 2 rfl;have r3:=BF.out.c 3 rfl
             refine bodyPost_ret (v:= .tuple #[.agg #[.int .i64 m,.int .i64 d,.slice aoF (Q.m+1) capF,.slice uo nL uc],.bool true]) (by simp[results,Try.results8,go_sem,r0,r1,r2,r3]) rfl ?_
             exact⟨HF,.inr ⟨HP.out,j,HPL.out,.inr ⟨by rw[HNL.out];omega,_,_,I,rfl,HR1.out,HR2.out,HR3.out⟩⟩⟩
end Go.Proofs.Ytjhapeidafbncaa
