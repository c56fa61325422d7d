/- Part 11 of the walks that the proof leans on. -/
import Derived.Test.YtbogliojkabbjaaGreatEr10
import Derived.Test.YtbogliojkabbjaaGreatEr8
import Derived.Maps.AppendAt
set_option maxRecDepth 100000
set_option maxHeartbeats 16000000
namespace Go.Proofs.YtbogliojkabbjaaGreat
open Go.RowKit
def EvIn (w:World) (ao:Option Addr) (n:Nat) (q:Nat→Int×Int×Int) (S:Nat→Option Addr×Nat) (L:Nat→Nat) (E:Nat→Nat→Int):Prop:=
 ∀i,i<n→∃A off,ao=some ⟨A,off,none⟩∧A<w.heap.size∧w.cell? ⟨A,off+i*13,none⟩=some (.int .u64 (ww3 (q i).1))∧w.cell? ⟨A,off+i*13+1,none⟩=some (.int .u64 (ww2 (q i).1))∧w.cell? ⟨A,off+i*13+2,none⟩=some (.int .u64 (ww1 (q i).1))∧w.cell? ⟨A,off+i*13+3,none⟩=some (.int .u64 (ww0 (q i).1))∧w.cell? ⟨A,off+i*13+4,none⟩=some (.int .u64 (ww3 (q i).2.1))∧w.cell? ⟨A,off+i*13+5,none⟩=some (.int .u64 (ww2 (q i).2.1))∧w.cell? ⟨A,off+i*13+6,none⟩=some (.int .u64 (ww1 (q i).2.1))∧w.cell? ⟨A,off+i*13+7,none⟩=some (.int .u64 (ww0 (q i).2.1))∧w.cell? ⟨A,off+i*13+8,none⟩=some (.int .u64 (ww3 (q i).2.2))∧w.cell? ⟨A,off+i*13+9,none⟩=some (.int .u64 (ww2 (q i).2.2))∧w.cell? ⟨A,off+i*13+10,none⟩=some (.int .u64 (ww1 (q i).2.2))∧w.cell? ⟨A,off+i*13+11,none⟩=some (.int .u64 (ww0 (q i).2.2))∧w.cell? ⟨A,off+i*13+12,none⟩=some (.slice (S i).1 (L i) (S i).2)∧NoIn w (S i).1 (L i) (E i)
theorem EvIn.step {w w' :World} {ao:Option Addr} {n:Nat} {q:Nat→Int×Int×Int} {S:Nat→Option Addr×Nat} {L:Nat→Nat} {E:Nat→Nat→Int} (h:EvIn w ao n q S L E) (hB:Below w.heap.size w w'):EvIn w' ao n q S L E:=fun i hi=>by
 obtain⟨A,off,e,hA,c0,c1,c2,c3,c4,c5,c6,c7,c8,c9,c10,c11,c12,hp⟩:=h i hi;exact⟨A,off,e,Nat.lt_of_lt_of_le hA hB.size,(hB.cell (p:=⟨A,_,none⟩) hA).trans c0,(hB.cell (p:=⟨A,_,none⟩) hA).trans c1,(hB.cell (p:=⟨A,_,none⟩) hA).trans c2,(hB.cell (p:=⟨A,_,none⟩) hA).trans c3,(hB.cell (p:=⟨A,_,none⟩) hA).trans c4,(hB.cell (p:=⟨A,_,none⟩) hA).trans c5,(hB.cell (p:=⟨A,_,none⟩) hA).trans c6,(hB.cell (p:=⟨A,_,none⟩) hA).trans c7,(hB.cell (p:=⟨A,_,none⟩) hA).trans c8,(hB.cell (p:=⟨A,_,none⟩) hA).trans c9,(hB.cell (p:=⟨A,_,none⟩) hA).trans c10,(hB.cell (p:=⟨A,_,none⟩) hA).trans c11,(hB.cell (p:=⟨A,_,none⟩) hA).trans c12,hp.step hB⟩
def enB (e:Nat→Int) (k:Nat):Bool:=decide ((0≤e k∧e k≤39)∧(0<k→e (k-1)<e k))
def endB (m:Nat) (e:Nat→Int):Bool:=decide (∀k,k<m→enB e k=true)
theorem endB_no {m:Nat} {e:Nat→Int} {k:Nat} (hk:k<m) (h:enB e k=false):endB m e=false:=by
 unfold endB;exact decide_eq_false (fun hh=>by rw[hh k hk] at h;cases h)
theorem endB_yes {m:Nat} {e:Nat→Int} (h:∀k,k<m→enB e k=true):endB m e=true:=decide_eq_true h
def evH (q:Nat→Int×Int×Int) (L:Nat→Nat) (i:Nat):Bool:=decide (ptB (q i).1 (q i).2.1 (q i).2.2=true∧1≤L i∧(0<i→ordI (q (i-1)).1 (q (i-1)).2.1 (q (i-1)).2.2 (q i).1 (q i).2.1 (q i).2.2<0))
def evB (n:Nat) (q:Nat→Int×Int×Int) (L:Nat→Nat) (E:Nat→Nat→Int):Bool:=decide (n≤200∧∀i,i<n→evH q L i=true∧endB (L i) (E i)=true)
theorem evB_no {n:Nat} {q:Nat→Int×Int×Int} {L:Nat→Nat} {E:Nat→Nat→Int} {i:Nat} (hi:i<n) (h:evH q L i=false∨endB (L i) (E i)=false):evB n q L E=false:=by
 unfold evB;exact decide_eq_false (fun hh=>by
  have:=hh.2 i hi
  rcases h with h | h
  · rw[this.1] at h;cases h
  · rw[this.2] at h;cases h)
theorem isNumber_any (x:Int) (w:World):Calls Tryz.prog 20 #[.int .i64 x] w (VP (.bool (decide (0≤x∧x≤39))) w):=by
 by_cases h1:0≤x
 · by_cases h2:x≤39
   · rw[decide_eq_true (show 0≤x∧x≤39 from⟨h1,h2⟩)];have h3:x<40:=by omega
     go_enter Tryz.func20,Tryz.ntmps20
     go_wp2;go_ret;exact⟨rfl,Below.refl _ _⟩
   · rw[decide_eq_false (show ¬(0≤x∧x≤39) from fun h=>h2 h.2)];have h3:40≤x:=by omega
     go_enter Tryz.func20,Tryz.ntmps20
     go_wp2;go_ret;exact⟨by show Ending.returned (.bool (decide (x<40)))=_;rw[decide_eq_false (by omega)],Below.refl _ _⟩
 · rw[decide_eq_false (show ¬(0≤x∧x≤39) from fun h=>h1 h.1)];have h3:x<0:=by omega
   go_enter Tryz.func20,Tryz.ntmps20
   go_wp2;go_ret;exact⟨rfl,Below.refl _ _⟩
theorem rightEnds_any (ao:Option Addr) (m cap:Nat) (e:Nat→Int) (hm:m≤1048576) (w:World) (hS:NoIn w ao m e):Calls Tryz.prog 34 #[.slice ao m cap] w (VP (.bool (decide (1≤m)&&endB m e)) w):=by
 have HS:Hid (NoIn w ao m e):=hS;have hmI:(m:Int)≤1048576:=by omega
 clear hS
 go_enter Tryz.func34,Tryz.ntmps34
 go_wp2_with fail
 go_loopw [7] (fun i wr=>∃c:Nat,c≤m∧i= .int .i64 c∧(∀j,j<c→enB e j=true)∧Below w.heap.size w wr) (fun i _=>m-(intOf i).toNat)
 case atStart=>exact⟨0,by omega,rfl,fun j hj=>by omega,Below.refl _ _⟩
 case round=>
  obtain⟨c,hc,rfl,hall,HB⟩:=hrel;have HA:Hid (∀j,j<c→enB e j=true):=hall;clear hall
  by_cases hcn:c<m
  · obtain ⟨A,off,rfl,hA,q0⟩:=HS.out.step HB c hcn;have hcI:(c:Int)<m:=by omega
    have IN:=isNumber_any (e c);cases hz:enB e c
    · have HO:Hid ((decide (1≤m)&&endB m e)=false):=by show _=_;rw[endB_no hcn hz,Bool.and_false]
      by_cases h1:0≤e c∧e c≤39
      · rw[decide_eq_true h1] at IN;have h0:0<c:=by
         rcases Nat.eq_zero_or_pos c with h | h
         · exact absurd hz (by unfold enB;rw[decide_eq_true (show _∧_ from⟨h1,fun h' =>by omega⟩)];simp)
         · exact h
        obtain⟨d,hd⟩:∃d,c=d+1:=⟨c-1,by omega⟩;subst hd;have h2:e (d+1)≤e d:=by
         apply Classical.byContradiction
         intro h;exact absurd hz (by unfold enB;rw[decide_eq_true (show _∧_ from⟨h1,fun _=>by show e (d+1-1)<_;rw[Nat.add_sub_cancel];omega⟩)];simp)
        obtain⟨A',off',hao,hA',q1⟩:=HS.out.step HB d (by omega);obtain⟨rfl,rfl⟩:A=A' ∧off=off' :=by simpa using hao
        have hdI:(d:Int)+1<m:=by omega
        clear hao h1 hz HS HA h0;go_wp2_with fail;refine(IN _).mono ?_;rintro e1 w1 ⟨rfl,hB⟩;have k1:=(hB.cell (p:=⟨A,off+d,none⟩) hA').trans q1;replace HB:=HB.trans (hB.mono HB.size);clear hB IN q0 q1;go_wp2;go_ret;exact⟨by rw[HO.out];rfl,HB⟩
      · rw[decide_eq_false h1] at IN;clear h1 hz HS HA;go_wp2_with fail;refine(IN _).mono ?_;rintro e1 w1 ⟨rfl,hB⟩;replace HB:=HB.trans (hB.mono HB.size);clear hB IN q0;go_wp2;go_ret;exact⟨by rw[HO.out];rfl,HB⟩
    · have HK:Hid (enB e c=true):=hz;obtain⟨h1,h2⟩:=of_decide_eq_true (show decide ((0≤e c∧e c≤39)∧(0<c→e (c-1)<e c))=true from hz);rw[decide_eq_true h1] at IN;clear hz h1
      rcases Nat.eq_zero_or_pos c with h0 | h0
      · subst h0;clear h2;rw[Nat.add_zero] at q0;go_wp2_with fail;refine(IN _).mono ?_;rintro e1 w1 ⟨rfl,hB⟩;replace HB:=HB.trans (hB.mono HB.size);clear hB IN q0;go_wp2;go_roundw
        case rel=>exact⟨1,by omega,by go_num,fun j hj=>by
         obtain rfl:j=0:=by omega
         exact HK.out,HB⟩
        case measure=>simp[intOf];omega
      · obtain⟨d,hd⟩:∃d,c=d+1:=⟨c-1,by omega⟩;subst hd;replace h2:e d<e (d+1):=h2 h0;obtain⟨A',off',hao,hA',q1⟩:=HS.out.step HB d (by omega);obtain⟨rfl,rfl⟩:A=A' ∧off=off' :=by simpa using hao
        have hdI:(d:Int)+1<m:=by omega
        clear hao h0;go_wp2_with fail;refine(IN _).mono ?_;rintro e1 w1 ⟨rfl,hB⟩;have k1:=(hB.cell (p:=⟨A,off+d,none⟩) hA').trans q1;replace HB:=HB.trans (hB.mono HB.size);clear hB IN q0 q1;go_wp2;go_roundw
        case rel=>exact⟨d+1+1,by omega,by go_num,fun j hj=>by
         rcases Nat.lt_or_ge j (d+1) with h | h
         · exact HA.out j h
         · obtain rfl:j=d+1:=by omega
           exact HK.out,HB⟩
        case measure=>simp[intOf];omega
  · obtain rfl:c=m:=by omega
    have HO:Hid ((decide (1≤c)&&endB c e)=decide (1≤c)):=by show _=_;rw[endB_yes HA.out,Bool.and_true]
    clear HS HA;go_wp2;go_ret;exact⟨by rw[HO.out];rfl,HB⟩
theorem specEventsOk_any (ao:Option Addr) (n cap:Nat) (q:Nat→Int×Int×Int) (S:Nat→Option Addr×Nat) (L:Nat→Nat) (E:Nat→Nat→Int) (w:World) (hS:EvIn w ao n q S L E) (hT:∀i,i<n→told (q i).1=true∧told (q i).2.1=true∧told (q i).2.2=true) (hL:∀i,i<n→L i≤1048576):Calls Tryz.prog 27 #[.slice ao n cap] w (VP (.bool (evB n q L E)) w):=by
 by_cases hn:200<n
 · have HO:Hid (evB n q L E=false):=by show _=_;unfold evB;exact decide_eq_false (fun h=>by omega)
   go_enter Tryz.func27,Tryz.ntmps27
   have hn' :(200:Int)<n:=by omega
   clear hS hT hL;go_wp2;go_ret;exact⟨by rw[HO.out];rfl,Below.refl _ _⟩
 · go_enter Tryz.func27,Tryz.ntmps27
   have hn' :(n:Int)≤200:=by omega
   have hn6:n≤200:=by omega
   have HS:Hid (EvIn w ao n q S L E):=hS;have HT:Hid (∀i,i<n→told (q i).1=true∧told (q i).2.1=true∧told (q i).2.2=true):=hT;have HL:Hid (∀i,i<n→L i≤1048576):=hL;clear hS hT hL;go_wp2_with fail
   go_loopw [3] (fun i wr=>∃c:Nat,c≤n∧i= .int .i64 c∧(∀j,j<c→evH q L j=true∧endB (L j) (E j)=true)∧Below w.heap.size w wr) (fun i _=>n-(intOf i).toNat)
   case atStart=>exact⟨0,by omega,rfl,fun j hj=>by omega,Below.refl _ _⟩
   case round=>
    obtain⟨c,hc,rfl,hall,HB⟩:=hrel;have HA:Hid (∀j,j<c→evH q L j=true∧endB (L j) (E j)=true):=hall;clear hall
    by_cases hcn:c<n
    · obtain ⟨A, off,rfl,hA,q0,q1,q2,q3,q4,q5,q6,q7,q8,q9,q10,q11,q12,hrow⟩:=HS.out.step HB c hcn;have hLc:=HL.out c hcn;obtain⟨t1,t2,t3⟩:=HT.out c hcn;have HR:Hid (NoIn wr (S c).1 (L c) (E c)):=hrow;have hcI:(c:Int)<n:=by omega
      have hLI:(L c:Int)≤1048576:=by omega
      clear hrow;go_upto_region 6 with fail
      go_cut [50] (fun zv wx=>zv= .bool (!evH q L c)∧Below wr.heap.size wr wx)
      case first=>
       by_cases h1:ptB (q c).1 (q c).2.1 (q c).2.2=true
       · by_cases h2:L c<1
         · have hv:Hid (true= !evH q L c):=by show _=_;rw[show evH q L c=false from decide_eq_false (fun h=>by omega)];rfl
           refine evM_B (n:=n) (cap:=cap) (A:=A) (off:=off) (c:=c) (m:=L c) (mc:=(S c).2) (eo:=(S c).1) (x:=(q c).1) (y:=(q c).2.1) (z:=(q c).2.2) hcn hn6 t1 t2 t3 h1 h2 rfl rfl q0 hA q1 hA q2 hA q3 hA q4 hA q5 hA q6 hA q7 hA q8 hA q9 hA q10 hA q11 hA q12 hA rfl ?_;rintro⟨tm,df⟩ Wz hz hdf hoff hx hBz;simp only at hz hdf hoff hx;change tm.getD 50 undef= .bool true at hx;subst hdf;have htm:=tmps_fold [14,15,16,17,18,19,20,21,22,23,24,25,26,27,28,29,30,31,32,33,34,35,36,37,38,39,40,41,42,43,44,45,46,47,48,49,50] tm _ hz hoff;simp only[List.foldl,List.setIfInBounds_toArray,List.set_cons_zero,List.set_cons_succ,hx] at htm;clear hz hoff;generalize tm.getD 14 undef=u0,tm.getD 15 undef=u1,tm.getD 16 undef=u2,tm.getD 17 undef=u3,tm.getD 18 undef=u4,tm.getD 19 undef=u5,tm.getD 20 undef=u6,tm.getD 21 undef=u7,tm.getD 22 undef=u8,tm.getD 23 undef=u9,tm.getD 24 undef=u10,tm.getD 25 undef=u11,tm.getD 26 undef=u12,tm.getD 27 undef=u13,tm.getD 28 undef=u14,tm.getD 29 undef=u15,tm.getD 30 undef=u16,tm.getD 31 undef=u17,tm.getD 32 undef=u18,tm.getD 33 undef=u19,tm.getD 34 undef=u20,tm.getD 35 undef=u21,tm.getD 36 undef=u22,tm.getD 37 undef=u23,tm.getD 38 undef=u24,tm.getD 39 undef=u25,tm.getD 40 undef=u26,tm.getD 41 undef=u27,tm.getD 42 undef=u28,tm.getD 43 undef=u29,tm.getD 44 undef=u30,tm.getD 45 undef=u31,tm.getD 46 undef=u32,tm.getD 47 undef=u33,tm.getD 48 undef=u34,tm.getD 49 undef=u35 at htm;clear hx;subst htm;go_wp2_with fail;go_meet;exact⟨congrArg Value.bool hv.out,hBz⟩
         · rcases Nat.eq_zero_or_pos c with h0 | h0
           · have hv:Hid (false= !evH q L c):=by show _=_;rw[show evH q L c=true from decide_eq_true ⟨h1,by omega,fun h=>by omega⟩];rfl
             refine evM_C (n:=n) (cap:=cap) (A:=A) (off:=off) (c:=c) (m:=L c) (mc:=(S c).2) (eo:=(S c).1) (x:=(q c).1) (y:=(q c).2.1) (z:=(q c).2.2) hcn hn6 t1 t2 t3 h1 (by omega) hLc h0 rfl rfl q0 hA q1 hA q2 hA q3 hA q4 hA q5 hA q6 hA q7 hA q8 hA q9 hA q10 hA q11 hA q12 hA rfl ?_;rintro⟨tm,df⟩ Wz hz hdf hoff hx hBz;simp only at hz hdf hoff hx;change tm.getD 50 undef= .bool false at hx;subst hdf;have htm:=tmps_fold [14,15,16,17,18,19,20,21,22,23,24,25,26,27,28,29,30,31,32,33,34,35,36,37,38,39,40,41,42,43,44,45,46,47,48,49,50] tm _ hz hoff;simp only[List.foldl,List.setIfInBounds_toArray,List.set_cons_zero,List.set_cons_succ,hx] at htm;clear hz hoff;generalize tm.getD 14 undef=u0,tm.getD 15 undef=u1,tm.getD 16 undef=u2,tm.getD 17 undef=u3,tm.getD 18 undef=u4,tm.getD 19 undef=u5,tm.getD 20 undef=u6,tm.getD 21 undef=u7,tm.getD 22 undef=u8,tm.getD 23 undef=u9,tm.getD 24 undef=u10,tm.getD 25 undef=u11,tm.getD 26 undef=u12,tm.getD 27 undef=u13,tm.getD 28 undef=u14,tm.getD 29 undef=u15,tm.getD 30 undef=u16,tm.getD 31 undef=u17,tm.getD 32 undef=u18,tm.getD 33 undef=u19,tm.getD 34 undef=u20,tm.getD 35 undef=u21,tm.getD 36 undef=u22,tm.getD 37 undef=u23,tm.getD 38 undef=u24,tm.getD 39 undef=u25,tm.getD 40 undef=u26,tm.getD 41 undef=u27,tm.getD 42 undef=u28,tm.getD 43 undef=u29,tm.getD 44 undef=u30,tm.getD 45 undef=u31,tm.getD 46 undef=u32,tm.getD 47 undef=u33,tm.getD 48 undef=u34,tm.getD 49 undef=u35 at htm;clear hx;subst htm;go_wp2_with fail;go_meet;exact⟨congrArg Value.bool hv.out,hBz⟩
           · obtain⟨d,hd⟩:∃d,c=d+1:=⟨c-1,by omega⟩;obtain⟨A',off',hao,-,r0,r1,r2,r3,r4,r5,r6,r7,r8,r9,r10,r11,-,-⟩:=HS.out.step HB d (by omega);obtain⟨rfl,rfl⟩:A=A' ∧off=off' :=by simpa using hao
             have hv:Hid (decide (0≤ordI (q d).1 (q d).2.1 (q d).2.2 (q c).1 (q c).2.1 (q c).2.2)= !evH q L c):=by show _=_;rw[show evH q L c=decide (ordI (q d).1 (q d).2.1 (q d).2.2 (q c).1 (q c).2.1 (q c).2.2<0) from by unfold evH;rw[hd];rw[hd] at h1 h2;rw[Nat.add_sub_cancel];exact decide_eq_decide.2 ⟨fun h=>h.2.2 (by omega),fun h=>⟨h1,by omega,fun _=>h⟩⟩,←decide_not];exact decide_eq_decide.2 (by omega)
             obtain⟨u1,u2,u3⟩:=HT.out d (by omega);have HD:Hid (c=d+1):=hd;clear hd;refine evM_D (n:=n) (cap:=cap) (A:=A) (off:=off) (c:=c) (m:=L c) (mc:=(S c).2) (eo:=(S c).1) (x:=(q c).1) (y:=(q c).2.1) (z:=(q c).2.2) (d:=d) (u:=(q d).1) (vv:=(q d).2.1) (t:=(q d).2.2) hcn hn6 t1 t2 t3 u1 u2 u3 h1 (by omega) hLc HD rfl rfl q0 hA q1 hA q2 hA q3 hA q4 hA q5 hA q6 hA q7 hA q8 hA q9 hA q10 hA q11 hA q12 hA r0 hA r1 hA r2 hA r3 hA r4 hA r5 hA r6 hA r7 hA r8 hA r9 hA r10 hA r11 hA rfl ?_;rintro⟨tm,df⟩ Wz hz hdf hoff hx hBz;simp only at hz hdf hoff hx;change tm.getD 50 undef= .bool (decide (0≤ordI (q d).1 (q d).2.1 (q d).2.2 (q c).1 (q c).2.1 (q c).2.2)) at hx;subst hdf;have htm:=tmps_fold [14,15,16,17,18,19,20,21,22,23,24,25,26,27,28,29,30,31,32,33,34,35,36,37,38,39,40,41,42,43,44,45,46,47,48,49,50] tm _ hz hoff;simp only[List.foldl,List.setIfInBounds_toArray,List.set_cons_zero,List.set_cons_succ,hx] at htm;clear hz hoff;generalize tm.getD 14 undef=u0,tm.getD 15 undef=u1,tm.getD 16 undef=u2,tm.getD 17 undef=u3,tm.getD 18 undef=u4,tm.getD 19 undef=u5,tm.getD 20 undef=u6,tm.getD 21 undef=u7,tm.getD 22 undef=u8,tm.getD 23 undef=u9,tm.getD 24 undef=u10,tm.getD 25 undef=u11,tm.getD 26 undef=u12,tm.getD 27 undef=u13,tm.getD 28 undef=u14,tm.getD 29 undef=u15,tm.getD 30 undef=u16,tm.getD 31 undef=u17,tm.getD 32 undef=u18,tm.getD 33 undef=u19,tm.getD 34 undef=u20,tm.getD 35 undef=u21,tm.getD 36 undef=u22,tm.getD 37 undef=u23,tm.getD 38 undef=u24,tm.getD 39 undef=u25,tm.getD 40 undef=u26,tm.getD 41 undef=u27,tm.getD 42 undef=u28,tm.getD 43 undef=u29,tm.getD 44 undef=u30,tm.getD 45 undef=u31,tm.getD 46 undef=u32,tm.getD 47 undef=u33,tm.getD 48 undef=u34,tm.getD 49 undef=u35 at htm;clear hx;subst htm;go_wp2_with fail;go_meet;exact⟨congrArg Value.bool hv.out,hBz⟩
       · have hv:Hid (true= !evH q L c):=by show _=_;rw[show evH q L c=false from decide_eq_false (fun h=>h1 h.1)];rfl
         refine evM_A (n:=n) (cap:=cap) (A:=A) (off:=off) (c:=c) (m:=L c) (mc:=(S c).2) (eo:=(S c).1) (x:=(q c).1) (y:=(q c).2.1) (z:=(q c).2.2) hcn hn6 t1 t2 t3 (Bool.eq_false_iff.2 h1) rfl rfl q0 hA q1 hA q2 hA q3 hA q4 hA q5 hA q6 hA q7 hA q8 hA q9 hA q10 hA q11 hA q12 hA rfl ?_;rintro⟨tm,df⟩ Wz hz hdf hoff hx hBz;simp only at hz hdf hoff hx;change tm.getD 50 undef= .bool true at hx;subst hdf;have htm:=tmps_fold [14,15,16,17,18,19,20,21,22,23,24,25,26,27,28,29,30,31,32,33,34,35,36,37,38,39,40,41,42,43,44,45,46,47,48,49,50] tm _ hz hoff;simp only[List.foldl,List.setIfInBounds_toArray,List.set_cons_zero,List.set_cons_succ,hx] at htm;clear hz hoff;generalize tm.getD 14 undef=u0,tm.getD 15 undef=u1,tm.getD 16 undef=u2,tm.getD 17 undef=u3,tm.getD 18 undef=u4,tm.getD 19 undef=u5,tm.getD 20 undef=u6,tm.getD 21 undef=u7,tm.getD 22 undef=u8,tm.getD 23 undef=u9,tm.getD 24 undef=u10,tm.getD 25 undef=u11,tm.getD 26 undef=u12,tm.getD 27 undef=u13,tm.getD 28 undef=u14,tm.getD 29 undef=u15,tm.getD 30 undef=u16,tm.getD 31 undef=u17,tm.getD 32 undef=u18,tm.getD 33 undef=u19,tm.getD 34 undef=u20,tm.getD 35 undef=u21,tm.getD 36 undef=u22,tm.getD 37 undef=u23,tm.getD 38 undef=u24,tm.getD 39 undef=u25,tm.getD 40 undef=u26,tm.getD 41 undef=u27,tm.getD 42 undef=u28,tm.getD 43 undef=u29,tm.getD 44 undef=u30,tm.getD 45 undef=u31,tm.getD 46 undef=u32,tm.getD 47 undef=u33,tm.getD 48 undef=u34,tm.getD 49 undef=u35 at htm;clear hx;subst htm;go_wp2_with fail;go_meet;exact⟨congrArg Value.bool hv.out,hBz⟩
      case rest =>
       obtain⟨hq2,hBc⟩:=hcut;subst hq2;have HBN:=HB.trans (hBc.mono HB.size);have q12' :=(hBc.cell (p:=⟨A,_,none⟩) hA).trans q12;have hA2:=Nat.lt_of_lt_of_le hA hBc.size;have HR2:Hid (NoIn wc (S c).1 (L c) (E c)):=HR.out.step hBc;clear hBc HB HR q0 q1 q2 q3 q4 q5 q6 q7 q8 q9 q10 q11 q12 t1 t2 t3 hA;cases hz:evH q L c
       · have HO:Hid (evB n q L E=false):=evB_no hcn (.inl hz);clear hz HS HT HL HA HR2 q12';go_wp2;go_ret;exact⟨by rw[HO.out];rfl,HBN⟩
       · have HZ :Hid (evH q L c=true):=hz;clear hz;go_wp2_with fail
         go_loopw [4] (fun k wk=>∃d:Nat,d≤L c∧k= .int .i64 d∧(∀j,j<d→enB (E c) j=true)∧Below wc.heap.size wc wk) (fun k _=>L c-(intOf k).toNat)
         case atStart=>exact⟨0,by omega,rfl,fun j hj=>by omega,Below.refl _ _⟩
         case round=>
          rename_i hrel
          obtain⟨d,hd,rfl,hp,HB2⟩:=hrel;have HP:Hid (∀j,j<d→enB (E c) j=true):=hp;clear hp;have q12:=(HB2.cell (p:=⟨A,_,none⟩) hA2).trans q12';have hA:=Nat.lt_of_lt_of_le hA2 HB2.size
          by_cases hdn:d<L c
          · obtain⟨G,ob,hsc,hG,e0⟩:=HR2.out.step HB2 d hdn;rw[hsc] at q12;have hdI:(d:Int)<L c:=by omega
            go_upto_region 11 with fail
            go_cut [94] (fun zv wx=>zv= .bool (!enB (E c) d)∧Below wr.heap.size wr wx)
            case first=>
             by_cases h1:0≤E c d∧E c d≤39
             · rcases Nat.eq_zero_or_pos d with h0 | h0
               · have hv:Hid (false= !enB (E c) d):=by show _=_;rw[show enB (E c) d=true from decide_eq_true ⟨h1,fun h=>by omega⟩];rfl
                 refine evN_C (n:=n) (cap:=cap) (A:=A) (off:=off) (c:=c) (m:=L c) (mc:=(S c).2) (G:=G) (ob:=ob) (k:=d) (x:=E c d) hcn hn6 hdn hLc (decide_eq_true h1) h0 rfl rfl rfl q12 hA e0 hG rfl ?_;rintro⟨tm,df⟩ Wz hz hdf hoff hx hBz;simp only at hz hdf hoff hx;change tm.getD 94 undef= .bool false at hx;subst hdf;have htm:=tmps_fold [61,62,63,64,65,66,67,68,69,70,71,72,73,74,75,76,77,78,79,80,81,82,83,84,85,86,87,88,89,90,91,92,93,94] tm _ hz hoff;simp only[List.foldl,List.setIfInBounds_toArray,List.set_cons_zero,List.set_cons_succ,hx] at htm;clear hz hoff;generalize tm.getD 61 undef=u0,tm.getD 62 undef=u1,tm.getD 63 undef=u2,tm.getD 64 undef=u3,tm.getD 65 undef=u4,tm.getD 66 undef=u5,tm.getD 67 undef=u6,tm.getD 68 undef=u7,tm.getD 69 undef=u8,tm.getD 70 undef=u9,tm.getD 71 undef=u10,tm.getD 72 undef=u11,tm.getD 73 undef=u12,tm.getD 74 undef=u13,tm.getD 75 undef=u14,tm.getD 76 undef=u15,tm.getD 77 undef=u16,tm.getD 78 undef=u17,tm.getD 79 undef=u18,tm.getD 80 undef=u19,tm.getD 81 undef=u20,tm.getD 82 undef=u21,tm.getD 83 undef=u22,tm.getD 84 undef=u23,tm.getD 85 undef=u24,tm.getD 86 undef=u25,tm.getD 87 undef=u26,tm.getD 88 undef=u27,tm.getD 89 undef=u28,tm.getD 90 undef=u29,tm.getD 91 undef=u30,tm.getD 92 undef=u31,tm.getD 93 undef=u32 at htm;clear hx;subst htm;go_wp2_with fail;go_meet;exact⟨congrArg Value.bool hv.out,hBz⟩
               · obtain⟨j,hj⟩:∃j,d=j+1:=⟨d-1,by omega⟩;obtain⟨G',ob',hao,-,e1⟩:=HR2.out.step HB2 j (by omega);obtain⟨rfl,rfl⟩:G=G' ∧ob=ob' :=by rw[hsc] at hao;simpa using hao
                 have hv:Hid (decide (E c d≤E c j)= !enB (E c) d):=by
                  show _=_;rw[show enB (E c) d=decide (E c j<E c d) from by unfold enB;rw[hj];rw[hj] at h1;rw[Nat.add_sub_cancel];exact decide_eq_decide.2 ⟨fun h=>h.2 (by omega),fun h=>⟨h1,fun _=>h⟩⟩,←decide_not];exact decide_eq_decide.2 (by omega)
                 refine evN_D (n:=n) (cap:=cap) (A:=A) (off:=off) (c:=c) (m:=L c) (mc:=(S c).2) (G:=G) (ob:=ob) (k:=d) (x:=E c d) (jj:=j) (y:=E c j) hcn hn6 hdn hLc (decide_eq_true h1) hj rfl rfl rfl q12 hA e0 hG e1 hG rfl ?_;rintro⟨tm,df⟩ Wz hz hdf hoff hx hBz;simp only at hz hdf hoff hx;change tm.getD 94 undef= .bool (decide (E c d≤E c j)) at hx;subst hdf;have htm:=tmps_fold [61,62,63,64,65,66,67,68,69,70,71,72,73,74,75,76,77,78,79,80,81,82,83,84,85,86,87,88,89,90,91,92,93,94] tm _ hz hoff;simp only[List.foldl,List.setIfInBounds_toArray,List.set_cons_zero,List.set_cons_succ,hx] at htm;clear hz hoff;generalize tm.getD 61 undef=u0,tm.getD 62 undef=u1,tm.getD 63 undef=u2,tm.getD 64 undef=u3,tm.getD 65 undef=u4,tm.getD 66 undef=u5,tm.getD 67 undef=u6,tm.getD 68 undef=u7,tm.getD 69 undef=u8,tm.getD 70 undef=u9,tm.getD 71 undef=u10,tm.getD 72 undef=u11,tm.getD 73 undef=u12,tm.getD 74 undef=u13,tm.getD 75 undef=u14,tm.getD 76 undef=u15,tm.getD 77 undef=u16,tm.getD 78 undef=u17,tm.getD 79 undef=u18,tm.getD 80 undef=u19,tm.getD 81 undef=u20,tm.getD 82 undef=u21,tm.getD 83 undef=u22,tm.getD 84 undef=u23,tm.getD 85 undef=u24,tm.getD 86 undef=u25,tm.getD 87 undef=u26,tm.getD 88 undef=u27,tm.getD 89 undef=u28,tm.getD 90 undef=u29,tm.getD 91 undef=u30,tm.getD 92 undef=u31,tm.getD 93 undef=u32 at htm;clear hx;subst htm;go_wp2_with fail;go_meet;exact⟨congrArg Value.bool hv.out,hBz⟩
             · have hv:Hid (true= !enB (E c) d):=by show _=_;rw[show enB (E c) d=false from decide_eq_false (fun h=>h1 h.1)];rfl
               refine evN_A (n:=n) (cap:=cap) (A:=A) (off:=off) (c:=c) (m:=L c) (mc:=(S c).2) (G:=G) (ob:=ob) (k:=d) (x:=E c d) hcn hn6 hdn hLc (decide_eq_false h1) rfl rfl rfl q12 hA e0 hG rfl ?_;rintro⟨tm,df⟩ Wz hz hdf hoff hx hBz;simp only at hz hdf hoff hx;change tm.getD 94 undef= .bool true at hx;subst hdf;have htm:=tmps_fold [61,62,63,64,65,66,67,68,69,70,71,72,73,74,75,76,77,78,79,80,81,82,83,84,85,86,87,88,89,90,91,92,93,94] tm _ hz hoff;simp only[List.foldl,List.setIfInBounds_toArray,List.set_cons_zero,List.set_cons_succ,hx] at htm;clear hz hoff;generalize tm.getD 61 undef=u0,tm.getD 62 undef=u1,tm.getD 63 undef=u2,tm.getD 64 undef=u3,tm.getD 65 undef=u4,tm.getD 66 undef=u5,tm.getD 67 undef=u6,tm.getD 68 undef=u7,tm.getD 69 undef=u8,tm.getD 70 undef=u9,tm.getD 71 undef=u10,tm.getD 72 undef=u11,tm.getD 73 undef=u12,tm.getD 74 undef=u13,tm.getD 75 undef=u14,tm.getD 76 undef=u15,tm.getD 77 undef=u16,tm.getD 78 undef=u17,tm.getD 79 undef=u18,tm.getD 80 undef=u19,tm.getD 81 undef=u20,tm.getD 82 undef=u21,tm.getD 83 undef=u22,tm.getD 84 undef=u23,tm.getD 85 undef=u24,tm.getD 86 undef=u25,tm.getD 87 undef=u26,tm.getD 88 undef=u27,tm.getD 89 undef=u28,tm.getD 90 undef=u29,tm.getD 91 undef=u30,tm.getD 92 undef=u31,tm.getD 93 undef=u32 at htm;clear hx;subst htm;go_wp2_with fail;go_meet;exact⟨congrArg Value.bool hv.out,hBz⟩
            case rest=>
             obtain⟨hq2,hBc⟩:=hcut;subst hq2;have HBM:=HB2.trans (hBc.mono HB2.size);have HBF:=HBN.trans (HBM.mono HBN.size);clear hBc HB2 q12 hA hG e0 hsc;cases hz:enB (E c) d
             · have HO:Hid (evB n q L E=false):=evB_no hcn (.inr (endB_no hdn hz));clear hz HS HT HL HA HR2 q12' HP HBM HBN;go_wp2;go_ret;exact⟨by rw[HO.out];rfl,HBF⟩
             · have HY:Hid (enB (E c) d=true):=hz;clear hz;go_wp2;go_roundw
               case rel=>exact⟨d+1,by omega,by go_num,fun j hj=>by
                rcases Nat.lt_or_ge j d with h | h
                · exact HP.out j h
                · obtain rfl:j=d:=by omega
                  exact HY.out,HBM⟩
               case measure=>simp[intOf];omega
          · obtain rfl:d=L c:=by omega
            have HQ:Hid (endB (L c) (E c)=true):=endB_yes HP.out;have HBF:=HBN.trans (HB2.mono HBN.size);clear HP;go_wp2;go_roundw
            case rel=>exact⟨c+1,by omega,by go_num,fun j hj=>by
             rcases Nat.lt_or_ge j c with h | h
             · exact HA.out j h
             · obtain rfl:j=c:=by omega
               exact⟨HZ.out,HQ.out⟩,HBF⟩
            case measure=>simp[intOf];omega
    · obtain rfl:c=n:=by omega
      have HO:Hid (evB c q L E=true):=decide_eq_true ⟨hn6,HA.out⟩;clear HS HT HL HA;go_wp2;go_ret;exact⟨by rw[HO.out];rfl,HB⟩
theorem implEventsOk_any (ao:Option Addr) (n cap:Nat) (q:Nat→Int×Int×Int) (S:Nat→Option Addr×Nat) (L:Nat→Nat) (E:Nat→Nat→Int) (w:World) (hS:EvIn w ao n q S L E) (hT:∀i,i<n→told (q i).1=true∧told (q i).2.1=true∧told (q i).2.2=true) (hL:∀i,i<n→L i≤1048576):Calls Tryz.prog 8 #[.slice ao n cap] w (VP (.bool (evB n q L E)) w):=by
 by_cases hn:200<n
 · have HO:Hid (evB n q L E=false):=by show _=_;unfold evB;exact decide_eq_false (fun h=>by omega)
   go_enter Tryz.func8,Tryz.ntmps8
   have hn' :(200:Int)<n:=by omega
   clear hS hT hL;go_wp2;go_ret;exact⟨by rw[HO.out];rfl,Below.refl _ _⟩
 · go_enter Tryz.func8,Tryz.ntmps8
   have hn' :(n:Int)≤200:=by omega
   have hn6:n≤200:=by omega
   have HS:Hid (EvIn w ao n q S L E):=hS;have HT:Hid (∀i,i<n→told (q i).1=true∧told (q i).2.1=true∧told (q i).2.2=true):=hT;have HL:Hid (∀i,i<n→L i≤1048576):=hL;clear hS hT hL;go_wp2_with fail
   go_loopw [10] (fun i wr=>∃c:Nat,c≤n∧i= .int .i64 c∧(∀j,j<c→evH q L j=true∧endB (L j) (E j)=true)∧Below w.heap.size w wr) (fun i _=>n-(intOf i).toNat)
   case atStart=>exact⟨0,by omega,rfl,fun j hj=>by omega,Below.refl _ _⟩
   case round=>
    obtain⟨c,hc,rfl,hall,HB⟩:=hrel;have HA:Hid (∀j,j<c→evH q L j=true∧endB (L j) (E j)=true):=hall;clear hall
    by_cases hcn:c<n
    · obtain ⟨A,off,rfl,hA0,q0,q1,q2,q3,q4,q5,q6,q7,q8,q9,q10,q11,q12,hrow0⟩:=HS.out.step HB c hcn;have hLc:=HL.out c hcn;obtain⟨t1,t2,t3⟩:=HT.out c hcn;have hcI:(c:Int)<n:=by omega
      have RE:=fun W h=>rightEnds_any (S c).1 (L c) (S c).2 (E c) hLc W h;have hB1:=(Below.refl wr.heap.size wr).alloc (Nat.le_refl _) (.cells #[.int .u64 (ww3 (q c).1),.int .u64 (ww2 (q c).1),.int .u64 (ww1 (q c).1),.int .u64 (ww0 (q c).1),.int .u64 (ww3 (q c).2.1),.int .u64 (ww2 (q c).2.1),.int .u64 (ww1 (q c).2.1),.int .u64 (ww0 (q c).2.1),.int .u64 (ww3 (q c).2.2),.int .u64 (ww2 (q c).2.2),.int .u64 (ww1 (q c).2.2),.int .u64 (ww0 (q c).2.2),.slice (S c).1 (L c) (S c).2] 37);have B1:=Blk.new wr [.int .u64 (ww3 (q c).1),.int .u64 (ww2 (q c).1),.int .u64 (ww1 (q c).1),.int .u64 (ww0 (q c).1),.int .u64 (ww3 (q c).2.1),.int .u64 (ww2 (q c).2.1),.int .u64 (ww1 (q c).2.1),.int .u64 (ww0 (q c).2.1),.int .u64 (ww3 (q c).2.2),.int .u64 (ww2 (q c).2.2),.int .u64 (ww1 (q c).2.2),.int .u64 (ww0 (q c).2.2),.slice (S c).1 (L c) (S c).2] 37 rfl;have hrow:=hrow0.step hB1;have hA:=Nat.lt_of_lt_of_le hA0 hB1.size;clear hrow0 hA0;go_upto_region 6 with fail;have HB5:=HB.trans (hB1.mono HB.size);clear q0 q1 q2 q3 q4 q5 q6 q7 q8 q9 q10 q11 q12 hB1 HB;generalize wr.alloc (.cells #[.int .u64 (ww3 (q c).1),.int .u64 (ww2 (q c).1),.int .u64 (ww1 (q c).1),.int .u64 (ww0 (q c).1),.int .u64 (ww3 (q c).2.1),.int .u64 (ww2 (q c).2.1),.int .u64 (ww1 (q c).2.1),.int .u64 (ww0 (q c).2.1),.int .u64 (ww3 (q c).2.2),.int .u64 (ww2 (q c).2.2),.int .u64 (ww1 (q c).2.2),.int .u64 (ww0 (q c).2.2),.slice (S c).1 (L c) (S c).2] 37)=W5 at *;generalize wr.heap.size=gr at *
      go_cut [40] (fun zv wx=>zv= .bool (!(evH q L c&&endB (L c) (E c)))∧Below W5.heap.size W5 wx)
      case first=>
       by_cases h1:ptB (q c).1 (q c).2.1 (q c).2.2=true
       · by_cases h2:(decide (1≤L c)&&endB (L c) (E c))=false
         · have hv:Hid (true= !(evH q L c&&endB (L c) (E c))):=by show _=_;rw[show(evH q L c&&endB (L c) (E c))=false from by rw[Bool.and_eq_false_iff] at h2⊢;rcases h2 with h2 | h2;exact .inl (decide_eq_false (fun h=>of_decide_eq_false h2 h.2.1));exact .inr h2];rfl
           refine evI_B (m:=L c) (mc:=(S c).2) (Be:=gr) (eo:=(S c).1) (x:=(q c).1) (y:=(q c).2.1) (z:=(q c).2.2) (c:=c) (xs:=E c) t1 t2 t3 h1 hrow (fun W h=>by have:=RE W h;rw[h2] at this;exact this) rfl rfl (B1.c 0 rfl) B1.lt (B1.c 1 rfl) B1.lt (B1.c 2 rfl) B1.lt (B1.c 3 rfl) B1.lt (B1.c 4 rfl) B1.lt (B1.c 5 rfl) B1.lt (B1.c 6 rfl) B1.lt (B1.c 7 rfl) B1.lt (B1.c 8 rfl) B1.lt (B1.c 9 rfl) B1.lt (B1.c 10 rfl) B1.lt (B1.c 11 rfl) B1.lt (B1.c 12 rfl) B1.lt rfl ?_;rintro⟨tm,df⟩ Wz hz hdf hoff hx hBz;simp only at hz hdf hoff hx;change tm.getD 40 undef= .bool true at hx;subst hdf;have htm:=tmps_fold [15,16,17,18,19,20,21,22,23,24,25,26,27,28,29,30,31,32,33,34,35,36,37,38,39,40] tm _ hz hoff;simp only[List.foldl,List.setIfInBounds_toArray,List.set_cons_zero,List.set_cons_succ,hx] at htm;clear hz hoff;generalize tm.getD 15 undef=u0,tm.getD 16 undef=u1,tm.getD 17 undef=u2,tm.getD 18 undef=u3,tm.getD 19 undef=u4,tm.getD 20 undef=u5,tm.getD 21 undef=u6,tm.getD 22 undef=u7,tm.getD 23 undef=u8,tm.getD 24 undef=u9,tm.getD 25 undef=u10,tm.getD 26 undef=u11,tm.getD 27 undef=u12,tm.getD 28 undef=u13,tm.getD 29 undef=u14,tm.getD 30 undef=u15,tm.getD 31 undef=u16,tm.getD 32 undef=u17,tm.getD 33 undef=u18,tm.getD 34 undef=u19,tm.getD 35 undef=u20,tm.getD 36 undef=u21,tm.getD 37 undef=u22,tm.getD 38 undef=u23,tm.getD 39 undef=u24 at htm;clear hx;subst htm;go_wp2_with fail;go_meet;exact⟨congrArg Value.bool hv.out,hBz⟩
         · rcases Nat.eq_zero_or_pos c with h0 | h0
           · have hv:Hid (false= !(evH q L c&&endB (L c) (E c))):=by show _=_;rw[Bool.not_eq_false,Bool.and_eq_true] at h2;rw[show evH q L c=true from decide_eq_true ⟨h1,of_decide_eq_true h2.1,fun h=>by omega⟩,h2.2];rfl
             refine evI_C (m:=L c) (mc:=(S c).2) (Be:=gr) (eo:=(S c).1) (x:=(q c).1) (y:=(q c).2.1) (z:=(q c).2.2) (c:=c) (xs:=E c) t1 t2 t3 h1 hrow (fun W h=>by have:=RE W h;rw[eq_true_of_ne_false h2] at this;exact this) h0 rfl rfl (B1.c 0 rfl) B1.lt (B1.c 1 rfl) B1.lt (B1.c 2 rfl) B1.lt (B1.c 3 rfl) B1.lt (B1.c 4 rfl) B1.lt (B1.c 5 rfl) B1.lt (B1.c 6 rfl) B1.lt (B1.c 7 rfl) B1.lt (B1.c 8 rfl) B1.lt (B1.c 9 rfl) B1.lt (B1.c 10 rfl) B1.lt (B1.c 11 rfl) B1.lt (B1.c 12 rfl) B1.lt rfl ?_;rintro⟨tm,df⟩ Wz hz hdf hoff hx hBz;simp only at hz hdf hoff hx;change tm.getD 40 undef= .bool false at hx;subst hdf;have htm:=tmps_fold [15,16,17,18,19,20,21,22,23,24,25,26,27,28,29,30,31,32,33,34,35,36,37,38,39,40] tm _ hz hoff;simp only[List.foldl,List.setIfInBounds_toArray,List.set_cons_zero,List.set_cons_succ,hx] at htm;clear hz hoff;generalize tm.getD 15 undef=u0,tm.getD 16 undef=u1,tm.getD 17 undef=u2,tm.getD 18 undef=u3,tm.getD 19 undef=u4,tm.getD 20 undef=u5,tm.getD 21 undef=u6,tm.getD 22 undef=u7,tm.getD 23 undef=u8,tm.getD 24 undef=u9,tm.getD 25 undef=u10,tm.getD 26 undef=u11,tm.getD 27 undef=u12,tm.getD 28 undef=u13,tm.getD 29 undef=u14,tm.getD 30 undef=u15,tm.getD 31 undef=u16,tm.getD 32 undef=u17,tm.getD 33 undef=u18,tm.getD 34 undef=u19,tm.getD 35 undef=u20,tm.getD 36 undef=u21,tm.getD 37 undef=u22,tm.getD 38 undef=u23,tm.getD 39 undef=u24 at htm;clear hx;subst htm;go_wp2_with fail;go_meet;exact⟨congrArg Value.bool hv.out,hBz⟩
           · obtain⟨d,hd⟩:∃d,c=d+1:=⟨c-1,by omega⟩;obtain⟨A',off',hao,-,r0,r1,r2,r3,r4,r5,r6,r7,r8,r9,r10,r11,-,-⟩:=HS.out.step HB5 d (by omega);obtain⟨rfl,rfl⟩:A=A' ∧off=off' :=by simpa using hao
             have hv:Hid (decide (0≤ordI (q d).1 (q d).2.1 (q d).2.2 (q c).1 (q c).2.1 (q c).2.2)= !(evH q L c&&endB (L c) (E c))):=by show _=_;rw[Bool.not_eq_false,Bool.and_eq_true] at h2;rw[h2.2,Bool.and_true,show evH q L c=decide (ordI (q d).1 (q d).2.1 (q d).2.2 (q c).1 (q c).2.1 (q c).2.2<0) from by unfold evH;rw[hd];rw[hd] at h1 h2;rw[Nat.add_sub_cancel];exact decide_eq_decide.2 ⟨fun h=>h.2.2 (by omega),fun h=>⟨h1,of_decide_eq_true h2.1,fun _=>h⟩⟩,←decide_not];exact decide_eq_decide.2 (by omega)
             obtain⟨u1,u2,u3⟩:=HT.out d (by omega);have hpu:=(of_decide_eq_true (show decide (ptB (q d).1 (q d).2.1 (q d).2.2=true∧1≤L d∧(0<d→ordI (q (d-1)).1 (q (d-1)).2.1 (q (d-1)).2.2 (q d).1 (q d).2.1 (q d).2.2<0))=true from(HA.out d (by omega)).1)).1;have HD:Hid (c=d+1):=hd;clear hd;refine evI_D (m:=L c) (mc:=(S c).2) (Be:=gr) (eo:=(S c).1) (x:=(q c).1) (y:=(q c).2.1) (z:=(q c).2.2) (n:=n) (cap:=cap) (A:=A) (off:=off) (c:=c) (d:=d) (u:=(q d).1) (vv:=(q d).2.1) (t:=(q d).2.2) (xs:=E c) t1 t2 t3 h1 hpu hrow (fun W h=>by have:=RE W h;rw[eq_true_of_ne_false h2] at this;exact this) HD hcn hn6 rfl rfl rfl (B1.c 0 rfl) B1.lt (B1.c 1 rfl) B1.lt (B1.c 2 rfl) B1.lt (B1.c 3 rfl) B1.lt (B1.c 4 rfl) B1.lt (B1.c 5 rfl) B1.lt (B1.c 6 rfl) B1.lt (B1.c 7 rfl) B1.lt (B1.c 8 rfl) B1.lt (B1.c 9 rfl) B1.lt (B1.c 10 rfl) B1.lt (B1.c 11 rfl) B1.lt (B1.c 12 rfl) B1.lt r0 hA r1 hA r2 hA r3 hA r4 hA r5 hA r6 hA r7 hA r8 hA r9 hA r10 hA r11 hA rfl ?_;rintro⟨tm,df⟩ Wz hz hdf hoff hx hBz;simp only at hz hdf hoff hx;change tm.getD 40 undef= .bool (decide (0≤ordI (q d).1 (q d).2.1 (q d).2.2 (q c).1 (q c).2.1 (q c).2.2)) at hx;subst hdf;have htm:=tmps_fold [15,16,17,18,19,20,21,22,23,24,25,26,27,28,29,30,31,32,33,34,35,36,37,38,39,40] tm _ hz hoff;simp only[List.foldl,List.setIfInBounds_toArray,List.set_cons_zero,List.set_cons_succ,hx] at htm;clear hz hoff;generalize tm.getD 15 undef=u0,tm.getD 16 undef=u1,tm.getD 17 undef=u2,tm.getD 18 undef=u3,tm.getD 19 undef=u4,tm.getD 20 undef=u5,tm.getD 21 undef=u6,tm.getD 22 undef=u7,tm.getD 23 undef=u8,tm.getD 24 undef=u9,tm.getD 25 undef=u10,tm.getD 26 undef=u11,tm.getD 27 undef=u12,tm.getD 28 undef=u13,tm.getD 29 undef=u14,tm.getD 30 undef=u15,tm.getD 31 undef=u16,tm.getD 32 undef=u17,tm.getD 33 undef=u18,tm.getD 34 undef=u19,tm.getD 35 undef=u20,tm.getD 36 undef=u21,tm.getD 37 undef=u22,tm.getD 38 undef=u23,tm.getD 39 undef=u24 at htm;clear hx;subst htm;go_wp2_with fail;go_meet;exact⟨congrArg Value.bool hv.out,hBz⟩
       · have hv:Hid (true= !(evH q L c&&endB (L c) (E c))):=by show _=_;rw[show evH q L c=false from decide_eq_false (fun h=>h1 h.1)];rfl
         refine evI_A (m:=L c) (mc:=(S c).2) (Be:=gr) (eo:=(S c).1) (x:=(q c).1) (y:=(q c).2.1) (z:=(q c).2.2) (c:=c) t1 t2 t3 (Bool.eq_false_iff.2 h1) rfl rfl (B1.c 0 rfl) B1.lt (B1.c 1 rfl) B1.lt (B1.c 2 rfl) B1.lt (B1.c 3 rfl) B1.lt (B1.c 4 rfl) B1.lt (B1.c 5 rfl) B1.lt (B1.c 6 rfl) B1.lt (B1.c 7 rfl) B1.lt (B1.c 8 rfl) B1.lt (B1.c 9 rfl) B1.lt (B1.c 10 rfl) B1.lt (B1.c 11 rfl) B1.lt (B1.c 12 rfl) B1.lt rfl ?_;rintro⟨tm,df⟩ Wz hz hdf hoff hx hBz;simp only at hz hdf hoff hx;change tm.getD 40 undef= .bool true at hx;subst hdf;have htm:=tmps_fold [15,16,17,18,19,20,21,22,23,24,25,26,27,28,29,30,31,32,33,34,35,36,37,38,39,40] tm _ hz hoff;simp only[List.foldl,List.setIfInBounds_toArray,List.set_cons_zero,List.set_cons_succ,hx] at htm;clear hz hoff;generalize tm.getD 15 undef=u0,tm.getD 16 undef=u1,tm.getD 17 undef=u2,tm.getD 18 undef=u3,tm.getD 19 undef=u4,tm.getD 20 undef=u5,tm.getD 21 undef=u6,tm.getD 22 undef=u7,tm.getD 23 undef=u8,tm.getD 24 undef=u9,tm.getD 25 undef=u10,tm.getD 26 undef=u11,tm.getD 27 undef=u12,tm.getD 28 undef=u13,tm.getD 29 undef=u14,tm.getD 30 undef=u15,tm.getD 31 undef=u16,tm.getD 32 undef=u17,tm.getD 33 undef=u18,tm.getD 34 undef=u19,tm.getD 35 undef=u20,tm.getD 36 undef=u21,tm.getD 37 undef=u22,tm.getD 38 undef=u23,tm.getD 39 undef=u24 at htm;clear hx;subst htm;go_wp2_with fail;go_meet;exact⟨congrArg Value.bool hv.out,hBz⟩
      case rest=>
       obtain⟨hq2,hBc⟩:=hcut;subst hq2;have HBN:=HB5.trans (hBc.mono HB5.size);clear hBc HB5 B1 hrow hA RE t1 t2 t3;cases hz:(evH q L c&&endB (L c) (E c))
       · have HO:Hid (evB n q L E=false):=evB_no hcn (by rw[Bool.and_eq_false_iff] at hz;exact hz);clear hz HS HT HL HA;go_wp2;go_ret;exact⟨by rw[HO.out];rfl,HBN⟩
       · rw [Bool.and_eq_true] at hz;have HZ:Hid (evH q L c=true∧endB (L c) (E c)=true):=hz;clear hz;go_wp2;go_roundw
         case rel=>exact⟨c+1,by omega,by go_num,fun j hj=>by
          rcases Nat.lt_or_ge j c with h | h
          · exact HA.out j h
          · obtain rfl:j=c:=by omega
            exact HZ.out,HBN⟩
         case measure=>simp[intOf];omega
    · obtain rfl:c=n:=by omega
      have HO:Hid (evB c q L E=true):=decide_eq_true ⟨hn6,HA.out⟩;clear HS HT HL HA;go_wp2;go_ret;exact⟨by rw[HO.out];rfl,HB⟩
theorem Tryz.infoEvent:(Tryz.prog.info? 37).map (fun i=>(i.zero,i.size,i.bytes))=some (some (.agg #[.int .u64 0,.int .u64 0,.int .u64 0,.int .u64 0,.int .u64 0,.int .u64 0,.int .u64 0,.int .u64 0,.int .u64 0,.int .u64 0,.int .u64 0,.int .u64 0,.slice none 0 0]),13,120):=by kernel_rfl
theorem getD_tf {l:Array Bool} {i:Nat} (h:l.getD i true=false):l.getD i false=false:=by
 rw[Array.getD_eq_getD_getElem?] at *;cases hh:l[i]? with
 | none=>rw[hh] at h;cases h
 | some b=>rw[hh] at h;exact h
theorem getD_set_neq {l:Array Bool} {i j:Nat} (h:i≠j):(l.setIfInBounds i true).getD j false=l.getD j false:=by
 simp[Array.getD_eq_getD_getElem?,Array.getElem?_setIfInBounds_ne h]
theorem gn {l:Array Bool} (i j:Nat) (h:i≠j:=by decide):(l.setIfInBounds i true).getD j false=l.getD j false:=getD_set_neq h
theorem getD_set_eq {l:Array Bool} {i:Nat} (h:l.getD i true=false):(l.setIfInBounds i true).getD i false=true:=by
 rw[Array.getD_eq_getD_getElem?] at *;cases hh:l[i]? with
 | none=>rw[hh] at h;cases h
 | some b=>simp[(Array.getElem?_eq_some_iff.1 hh).1]
theorem ownA_step {w w' :World} {base n:Nat} {e:TypeId} {size:Nat} {v:Value} {xs:List Value} (h:w.ownsRow base e size v n xs) (hB:Below w.heap.size w w'):w'.ownsRow base e size v n xs:=by
 rcases h with ⟨h0,h1 | ⟨g,cap,cur,h1,h2,h3,h4⟩⟩
 · exact⟨h0,.inl h1⟩
 · refine⟨h0,.inr ⟨g,cap,cur,h1,h2,?_,h4⟩⟩;rw[hB.block g (Array.getElem?_eq_some_iff.1 h3).1];exact h3
theorem replD (n j:Nat):(Array.replicate n false).getD j false=false:=by
 rw[Array.getD_eq_getD_getElem?,Array.getElem?_replicate]
 split<;>rfl
def setAll (w:World) (g:Nat):Nat→List Value→World
 | _,[]=>w
 | i,v::vs=>setAll (w.setCell ⟨g,i,none⟩ v) g (i+1) vs
def setL:List Value→Nat→List Value→List Value
 | os,_,[]=>os
 | os,i,v::vs=>setL (os.set i v) (i+1) vs
theorem setAll_blk {g:Nat}:∀(vs:List Value) {w:World} {os:List Value} (i:Nat),Blk w g os→i+vs.length≤os.length→Blk (setAll w g i vs) g (setL os i vs)
 | [],_,_,_,h,_=>h
 | v::vs,_,os,i,h,hl=>setAll_blk vs (i+1) (h.setI i (by simp at hl;omega) v) (by simp at hl⊢;omega)
theorem setAll_below {g B:Nat} {w0:World} (hg:B≤g):∀(vs:List Value) {w:World} (i:Nat),Below B w0 w→Below B w0 (setAll w g i vs)
 | [],_,_,h=>h
 | v::vs,_,i,h=>setAll_below hg vs (i+1) (h.setCell (p:=⟨g,i,none⟩) hg v)
theorem setAll_heap {g b:Nat} (hb:b≠g):∀(vs:List Value) {w:World} (i:Nat),(setAll w g i vs).heap[b]? =w.heap[b]?
 | [],_,_=>rfl
 | _::vs,_,i=>(setAll_heap hb vs (i+1)).trans (Below.heap_setCell _ _ _ _ hb)
theorem ownN_heap {w w' :World} {base n:Nat} {e:TypeId} {size:Nat} {v:Value} {xs:List Value} (h:w.ownsRow base e size v n xs) (hh:∀k,v.ownBlock=some k→w'.heap[k]? =w.heap[k]?):w'.ownsRow base e size v n xs:=by
 rcases h with ⟨h0,h1 | ⟨g,cap,cur,h1,h2,h3,h4⟩⟩
 · exact⟨h0,.inl h1⟩
 · refine⟨h0,.inr ⟨g,cap,cur,h1,h2,?_,h4⟩⟩;rw[hh g (by subst h1;rfl)];exact h3
theorem ownN_mono {w:World} {b b' n:Nat} {e:TypeId} {size:Nat} {v:Value} {xs:List Value} (h:w.ownsRow b' e size v n xs) (hb:b≤b'):w.ownsRow b e size v n xs:=by
 rcases h with ⟨h0,h1 | ⟨g,cap,cur,h1,h2,h3⟩⟩
 · exact⟨h0,.inl h1⟩
 · exact⟨h0,.inr ⟨g,cap,cur,h1,by omega,h3⟩⟩
theorem ownN_form {w:World} {base n:Nat} {e:TypeId} {size:Nat} {v:Value} {xs:List Value} (h:w.ownsRow base e size v n xs) (hn:0<n):∃g cap,v= .slice (some ⟨g,0,none⟩) n cap∧base≤g∧g<w.heap.size∧n≤cap∧cap≤maxLen:=by
 rcases h.2 with ⟨h1,h0⟩ | ⟨g,cap,cur,h1,h2,h3,h4,h5,_⟩
 · omega
 · exact⟨g,cap,h1,h2,(Array.getElem?_eq_some_iff.1 h3).1,h4,h5⟩
def noL (m:Nat) (e:Nat→Int):List Value:=(List.range m).map fun(i:Nat)=>Value.int .i64 (e i)
theorem noL_len (m:Nat) (e:Nat→Int):(noL m e).length=m:=by simp[noL]
theorem noL_at {m:Nat} {e:Nat→Int} {i:Nat} (h:i<m):(noL m e)[i]? =some (.int .i64 (e i)):=by simp[noL,h]
theorem noL_one (m:Nat) (e:Nat→Int):∀u∈noL m e,u.oneCell' =true:=by
 intro u hu;obtain⟨i,_,rfl⟩:=List.mem_map.1 hu
 rfl
theorem noL_cell {w:World} {A off m:Nat} {e:Nat→Int} (h:NoIn w (some ⟨A,off,none⟩) m e):∀j u,(noL m e)[j]? =some u→w.cell? ((⟨A,off,none⟩:Addr).add j)=some u:=by
 intro j u hj;have hjl:j<m:=by have:=(List.getElem?_eq_some_iff.1 hj).1;rw[noL_len] at this;exact this
 rw[noL_at hjl] at hj;cases hj;obtain⟨A',off',e',_,hc⟩:=h j hjl;cases e';rw[Addr.add_lit];exact hc
theorem cloneNo_any (A off m cap:Nat) (e:Nat→Int) (hm:m≤1048576) (w:World) (R:NoIn w (some ⟨A,off,none⟩) m e) :
 Calls Tryz.prog 64 #[.slice (some ⟨A,off,none⟩) m cap] w (fun r w' =>∃v,r= .returned v∧w'.ownsRow w.heap.size 2 1 v m (noL m e)∧Below w.heap.size w w'):=by
 obtain⟨i0,hi,hz0,hz1,hz2⟩:=info_parts Tryz.infoNo;have q:=fun(w:World) (a:Option Addr) (n c n' c' :Nat)=>Lib.run_eql_slice_nil (P:=Tryz.prog) w _ _ a n c n' c' Tryz.underlying35;have HR:Hid (NoIn w (some ⟨A,off,none⟩) m e):=R;clear R
 go_enter Tryz.func64,Tryz.ntmps64
 go_wp2_with (at_builtin;refine wpList_append_own _ rfl _ _ 35 rfl w.heap.size 2 i0 (.int .i64 0) 1 8 Tryz.underlying35 hi hz0 hz1 hz2 rfl (by decide) _ _ _ rfl (World.ownsRow_made w #[] 0 (Nat.le_refl _) (by decide) rfl) ⟨A,off,none⟩ m cap (noL m e) rfl ?c1 ?c2 ?c3 ?c4 ?c5 ?c6 ?_)
 case c1=>rw[noL_len];omega
 case c2=>exact noL_cell (HR.out.step ((Below.refl _ _).alloc (Nat.le_refl _) _))
 case c3=>exact noL_one m e
 case c4=>unfold maxLen;omega
 case c5=>omega
 case c6=>simp
 intro v w1 hown hgrow hne;have HB:Below w.heap.size w w1:=((Below.refl _ _).alloc (Nat.le_refl _) _).grown hgrow (by simp) (fun k hk=>by cases hk;exact Nat.le_refl _);clear hgrow;go_wp2;go_ret;exact⟨_,rfl,hown,HB⟩
theorem noIn_below {w w' :World} {B A off m:Nat} {e:Nat→Int} (h:NoIn w (some ⟨A,off,none⟩) m e) (hB:Below B w w') (hA:A<B):NoIn w' (some ⟨A,off,none⟩) m e:=fun i hi=>by
 obtain⟨A',off',e',hl,hc⟩:=h i hi;cases e';exact⟨A,off,rfl,Nat.lt_of_lt_of_le hl hB.size,(hB.cell (p:=⟨A,off+i,none⟩) hA).trans hc⟩
def StV (n iz A:Nat) (os:List Value) (G D:World→Prop) (lz:Array Bool) (W:World):Prop:=
 (lz.getD iz false=true→∀j,j<n→lz.getD j false=true)∧(lz.getD iz false=false→Blk W A os∧G W)∧(lz.getD iz false=true→D W)
theorem StV.start {n m iz A:Nat} {os:List Value} {G D:World→Prop} {W:World} (h:Blk W A os∧G W):StV n iz A os G D (Array.replicate m false) W:=
 ⟨(fun h=>by rw[replD] at h;cases h),fun _=>h,(fun h=>by rw[replD] at h;cases h)⟩
theorem StV.off {n iz A:Nat} {os:List Value} {G D:World→Prop} {lz:Array Bool} {W:World} (h:StV n iz A os G D lz W) {i:Nat} (hi:i<n) (hl:lz.getD i true=false):lz.getD iz false=false:=by
 cases hh:lz.getD iz false with
 | false=>rfl
 | true=>have:=h.1 hh i hi;rw[getD_tf hl] at this;cases this
theorem StV.quiet {n iz A:Nat} {os:List Value} {G D:World→Prop} {lz:Array Bool} {W W2:World} (h:StV n iz A os G D lz W) (i:Nat) (hi:i<n) (hl:lz.getD i true=false) (h3:i≠iz) (hw:Blk W A os→G W→Blk W2 A os∧G W2):StV n iz A os G D (lz.setIfInBounds i true) W2:=by
 have hz:=h.off hi hl;obtain⟨a1,a2,a3⟩:=h;unfold StV;rw[getD_set_neq h3];exact⟨(fun h=>by rw[hz] at h;cases h),fun h=>hw (a2 h).1 (a2 h).2,(fun h=>by rw[hz] at h;cases h)⟩
theorem StV.stored {n iz A:Nat} {os:List Value} {G D:World→Prop} {lz:Array Bool} {W2:World} (hl:lz.getD iz true=false) (hall:∀j,j<n→j≠iz→lz.getD j false=true) (hD:D W2):StV n iz A os G D (lz.setIfInBounds iz true) W2:=by
 unfold StV;rw[getD_set_eq hl];refine⟨fun _ j hj=>?_,(fun h=>by cases h),fun _=>hD⟩
 by_cases hji:j=iz
 · subst hji;exact getD_set_eq hl
 · rw[getD_set_neq (Ne.symm hji)];exact hall j hj hji
def VewC (A1 _R Ab off m mc:Nat) (x y z:Int) (en:Nat→Int) (B4:Nat) (_B:Nat):Nat→Value→World→Prop
 | 0,v,_=>v= .pointer (some ⟨A1,0,none⟩)
 | 1,v,_=>v= .agg #[.int .u64 (ww3 x),.int .u64 (ww2 x),.int .u64 (ww1 x),.int .u64 (ww0 x),.int .u64 (ww3 y),.int .u64 (ww2 y),.int .u64 (ww1 y),.int .u64 (ww0 y),.int .u64 (ww3 z),.int .u64 (ww2 z),.int .u64 (ww1 z),.int .u64 (ww0 z)]
 | 2,v,_=>v= .pointer (some ⟨A1,12,none⟩)
 | 3,v,_=>v= .slice (some ⟨Ab,off,none⟩) m mc
 | 4,v,W=>∃gs cs,v= .slice (some ⟨gs,0,none⟩) m cs∧W.ownsRow B4 2 1 (.slice (some ⟨gs,0,none⟩) m cs) m (noL m en)
 | 5,v,W=>∃gs cs,v= .agg #[.int .u64 (ww3 x),.int .u64 (ww2 x),.int .u64 (ww1 x),.int .u64 (ww0 x),.int .u64 (ww3 y),.int .u64 (ww2 y),.int .u64 (ww1 y),.int .u64 (ww0 y),.int .u64 (ww3 z),.int .u64 (ww2 z),.int .u64 (ww1 z),.int .u64 (ww0 z),.slice (some ⟨gs,0,none⟩) m cs]∧W.ownsRow B4 2 1 (.slice (some ⟨gs,0,none⟩) m cs) m (noL m en)
 | _,_,_=>True
theorem VewC.mono {A1 R Ab off m mc:Nat} {x y z:Int} {en:Nat→Int} {B4:Nat} {B j:Nat} {v:Value} {W W2:World} (hB:Below W.heap.size W W2) (h:VewC A1 R Ab off m mc x y z en B4 B j v W):VewC A1 R Ab off m mc x y z en B4 B j v W2:=by
 unfold VewC at *
 split<;>simp only at h<;>first | exact h | (obtain⟨a,b,h1,h2⟩:=h;exact⟨a,b,h1,ownA_step h2 hB⟩) | trivial
theorem VewC.set {A1 R Ab off m mc:Nat} {x y z:Int} {en:Nat→Int} {B4:Nat} {B j:Nat} {v:Value} {W W2:World} (hh:∀k,B4≤k→W2.heap[k]? =W.heap[k]?) (h:VewC A1 R Ab off m mc x y z en B4 B j v W):VewC A1 R Ab off m mc x y z en B4 B j v W2:=by
 unfold VewC at *
 split<;>simp only at h<;>first | exact h | (obtain⟨a,b,h1,h2⟩:=h;exact⟨a,b,h1,ownN_heap h2 (fun k hk=>hh k (h2.lt k hk).1)⟩) | trivial
def SewC (_A1 R _Ab _off m _mc:Nat) (x y z:Int) (en:Nat→Int) (B4:Nat) (lz:Array Bool) (_az:Act) (W:World):Prop:=StV 7 6 R [.int .u64 0,.int .u64 0,.int .u64 0,.int .u64 0,.int .u64 0,.int .u64 0,.int .u64 0,.int .u64 0,.int .u64 0,.int .u64 0,.int .u64 0,.int .u64 0,.slice none 0 0] (fun _=>True) (fun W=>∃s,W.ownsRow B4 2 1 s m (noL m en)∧Blk W R [.int .u64 (ww3 x),.int .u64 (ww2 x),.int .u64 (ww1 x),.int .u64 (ww0 x),.int .u64 (ww3 y),.int .u64 (ww2 y),.int .u64 (ww1 y),.int .u64 (ww0 y),.int .u64 (ww3 z),.int .u64 (ww2 z),.int .u64 (ww1 z),.int .u64 (ww0 z),s]) lz W
def JewC (A1 R Ab off m mc:Nat) (x y z:Int) (en:Nat→Int) (B4:Nat) (w0:World) (a0:Act) (lz:Array Bool) (az:Act) (W:World):Prop:=InvQ (R) [some 3,some 4,some 5,some 6,some 7,some 8,none] (VewC A1 R Ab off m mc x y z en B4 (R)) w0 a0 lz az W∧SewC A1 R Ab off m mc x y z en B4 lz az W
theorem ewC {Q:Exit→Act→World→Prop} {A1 R Ab off m mc:Nat} {x y z:Int} {en:Nat→Int} {B4:Nat} {w0:World} {a0:Act} {idq:Nat} {t0 t1 t2 t3 t4 t5 t6:TypeId} {q0 q1 q2 q3 q4 q5 q6:String}
 (hm1:0<m) (hB4:B4≤w0.heap.size) (hRB:R<B4) (hN:NoIn w0 (some ⟨Ab,off,none⟩) m en) (hAb:Ab<R) (hC:∀w,NoIn w (some ⟨Ab,off,none⟩) m en→Calls Tryz.prog 64 #[.slice (some ⟨Ab,off,none⟩) m mc] w (fun r w' =>∃v,r= .returned v∧w'.ownsRow w.heap.size 2 1 v m (noL m en)∧Below w.heap.size w w')) (s0:Blk w0.drew R [.int .u64 0,.int .u64 0,.int .u64 0,.int .u64 0,.int .u64 0,.int .u64 0,.int .u64 0,.int .u64 0,.int .u64 0,.int .u64 0,.int .u64 0,.int .u64 0,.slice none 0 0]) (h1:a0.tmps[1]? =some (.pointer (some ⟨A1,0,none⟩))) (h2:a0.tmps[2]? =some (.pointer (some ⟨R,0,none⟩))) (k0:w0.cell? ⟨A1,0,none⟩=some (.int .u64 (ww3 x))) (l0:(⟨A1,0,none⟩:Addr).block<R) (k1:w0.cell? ⟨A1,1,none⟩=some (.int .u64 (ww2 x))) (l1:(⟨A1,1,none⟩:Addr).block<R) (k2:w0.cell? ⟨A1,2,none⟩=some (.int .u64 (ww1 x))) (l2:(⟨A1,2,none⟩:Addr).block<R) (k3:w0.cell? ⟨A1,3,none⟩=some (.int .u64 (ww0 x))) (l3:(⟨A1,3,none⟩:Addr).block<R) (k4:w0.cell? ⟨A1,4,none⟩=some (.int .u64 (ww3 y))) (l4:(⟨A1,4,none⟩:Addr).block<R) (k5:w0.cell? ⟨A1,5,none⟩=some (.int .u64 (ww2 y))) (l5:(⟨A1,5,none⟩:Addr).block<R) (k6:w0.cell? ⟨A1,6,none⟩=some (.int .u64 (ww1 y))) (l6:(⟨A1,6,none⟩:Addr).block<R) (k7:w0.cell? ⟨A1,7,none⟩=some (.int .u64 (ww0 y))) (l7:(⟨A1,7,none⟩:Addr).block<R) (k8:w0.cell? ⟨A1,8,none⟩=some (.int .u64 (ww3 z))) (l8:(⟨A1,8,none⟩:Addr).block<R) (k9:w0.cell? ⟨A1,9,none⟩=some (.int .u64 (ww2 z))) (l9:(⟨A1,9,none⟩:Addr).block<R) (k10:w0.cell? ⟨A1,10,none⟩=some (.int .u64 (ww1 z))) (l10:(⟨A1,10,none⟩:Addr).block<R) (k11:w0.cell? ⟨A1,11,none⟩=some (.int .u64 (ww0 z))) (l11:(⟨A1,11,none⟩:Addr).block<R) (k12:w0.cell? ⟨A1,12,none⟩=some (.slice (some ⟨Ab,off,none⟩) m mc)) (l12:(⟨A1,12,none⟩:Addr).block<R) (hz:a0.tmps.size=9)
 (hQ:∀aq W,aq.tmps.size=a0.tmps.size→aq.defers=a0.defers→(∀e,e∉([3,4,5,6,7,8]:List Nat)→aq.tmps[e]? =a0.tmps[e]?)→VewC A1 R Ab off m mc x y z en B4 (R) 6 undef W→Below (R) w0 W→(∃s,W.ownsRow B4 2 1 s m (noL m en)∧Blk W R [.int .u64 (ww3 x),.int .u64 (ww2 x),.int .u64 (ww1 x),.int .u64 (ww0 x),.int .u64 (ww3 y),.int .u64 (ww2 y),.int .u64 (ww1 y),.int .u64 (ww0 y),.int .u64 (ww3 z),.int .u64 (ww2 z),.int .u64 (ww1 z),.int .u64 (ww0 z),s])→Q .normal aq W) :
 (Code.region idq #[⟨some 3,.fieldAddr 37 (.tmp 1) 0,t0,q0,#[],none⟩,
 ⟨some 4,.load 29 (.tmp 3),t1,q1,#[⟨0,.data⟩],none⟩,
 ⟨some 5,.fieldAddr 37 (.tmp 1) 1,t2,q2,#[],none⟩,
 ⟨some 6,.load 35 (.tmp 5),t3,q3,#[⟨2,.data⟩],none⟩,
 ⟨some 7,.call {callee:= .value (.func 64),args:=#[.tmp 6],argTypes:=#[35]},t4,q4,#[⟨3,.data⟩],none⟩,
 ⟨some 8,.build 37 #[(0,.tmp 4),(1,.tmp 7)],t5,q5,#[⟨1,.data⟩,⟨4,.data⟩],none⟩,
 ⟨none,.store 37 (.tmp 2) (.tmp 8),t6,q6,#[⟨5,.data⟩,⟨4,.chain⟩,⟨0,.phase⟩,⟨1,.phase⟩,⟨2,.phase⟩,⟨3,.phase⟩,⟨4,.phase⟩,⟨5,.phase⟩],none⟩] true).wp Tryz.prog Q a0 w0:=by
 have hS:distS [some 3,some 4,some 5,some 6,some 7,some 8,none]=true:=rfl;refine wp_region_inv (by kernel_rfl) (JewC A1 R Ab off m mc x y z en B4 w0 a0) ⟨⟨rfl,rfl,rfl,fun _ _=>rfl,(Below.refl _ w0).drew,fun j d hj=>?_,fun j hj=>?_⟩,StV.start ⟨s0,trivial⟩⟩ ?_ ?_
 · exfalso
   rw[Array.getD_eq_getD_getElem?,Array.getElem?_replicate] at hj
   split at hj<;>simp at hj
 · exfalso
   rw[Array.getD_eq_getD_getElem?,Array.getElem?_replicate] at hj
   split at hj<;>simp at hj
 · intro lq aq W iq oq ⟨hJ2,hs⟩ hl ho hall;have z5:=hJ2.b;have g1:=hJ2.a h1
   have g2:=hJ2.a h2
   have c0:=hJ2.c k0 l0;have c1:=hJ2.c k1 l1;have c2:=hJ2.c k2 l2;have c3:=hJ2.c k3 l3;have c4:=hJ2.c k4 l4;have c5:=hJ2.c k5 l5;have c6:=hJ2.c k6 l6;have c7:=hJ2.c k7 l7;have c8:=hJ2.c k8 l8;have c9:=hJ2.c k9 l9;have c10:=hJ2.c k10 l10;have c11:=hJ2.c k11 l11;have c12:=hJ2.c k12 l12
   have HK:=fun i d h1 h2 v W2 hW hT hv hs=>show JewC A1 R Ab off m mc x y z en B4 w0 a0 (lq.setIfInBounds i true) (aq.put (some d) v) W2 from⟨hJ2.put hS i d h1 h2 hW hT v hv,hs⟩
   have HW:=fun i h1 W2 hW hT hv hs=>show JewC A1 R Ab off m mc x y z en B4 w0 a0 (lq.setIfInBounds i true) aq W2 from⟨hJ2.world i h1 (W' :=W2) hW hT hv,hs⟩
   generalize JewC A1 R Ab off m mc x y z en B4 w0 a0=JJ at HK HW⊢
   clear hQ
   match iq,ho with
   | 0,ho=>
    cases ho;refine wpOp_of rfl rfl ?_;have hq:=fun(W2:World)=>hs.quiet (W2:=W2) 0 (by decide) hl (by decide);have xR:=(hs.2.1 (hs.off (by decide) hl)).1;have hK:=HK 0 3 rfl (by omega);generalize JJ _=K at hK⊢;clear ho hall hl HK HW hJ2 hS;go_simp;exact hK _ _ z5 (fun _ _ h=>h) rfl (hq _ (fun a b=>⟨a,b⟩))
   | 1,ho=>
    cases ho;refine wpOp_of rfl rfl ?_;have f0:_=Value.pointer (some ⟨A1,0,none⟩):=hJ2.v hall 0 3;have hq:=fun(W2:World)=>hs.quiet (W2:=W2) 1 (by decide) hl (by decide);have xR:=(hs.2.1 (hs.off (by decide) hl)).1;have hK:=HK 1 4 rfl (by omega);generalize JJ _=K at hK⊢;clear ho hall hl HK HW hJ2 hS;go_simp;exact hK _ _ z5 (fun _ _ h=>h) rfl (hq _ (fun a b=>⟨a,b⟩))
   | 2,ho=>
    cases ho;refine wpOp_of rfl rfl ?_;have hq:=fun(W2:World)=>hs.quiet (W2:=W2) 2 (by decide) hl (by decide);have xR:=(hs.2.1 (hs.off (by decide) hl)).1;have hK:=HK 2 5 rfl (by omega);generalize JJ _=K at hK⊢;clear ho hall hl HK HW hJ2 hS;go_simp;exact hK _ _ z5 (fun _ _ h=>h) rfl (hq _ (fun a b=>⟨a,b⟩))
   | 3,ho=>
    cases ho;refine wpOp_of rfl rfl ?_;have f2:_=Value.pointer (some ⟨A1,12,none⟩):=hJ2.v hall 2 5;have hq:=fun(W2:World)=>hs.quiet (W2:=W2) 3 (by decide) hl (by decide);have xR:=(hs.2.1 (hs.off (by decide) hl)).1;have hK:=HK 3 6 rfl (by omega);generalize JJ _=K at hK⊢;clear ho hall hl HK HW hJ2 hS;go_simp;exact hK _ _ z5 (fun _ _ h=>h) rfl (hq _ (fun a b=>⟨a,b⟩))
   | 4,ho=>
    cases ho;refine wpOp_of rfl rfl ?_;have f3:_=Value.slice (some ⟨Ab,off,none⟩) m mc:=hJ2.v hall 3 6;have hq:=fun(W2:World)=>hs.quiet (W2:=W2) 4 (by decide) hl (by decide);have xR:=(hs.2.1 (hs.off (by decide) hl)).1;have hK:=HK 4 7 rfl (by omega);generalize JJ _=K at hK⊢;clear ho hall hl HK HW hJ2 hS;have zs:=z5.size;go_simp;refine(hC W (noIn_below hN z5 hAb)).mono ?_;rintro r v1 ⟨v,rfl,hO,hBv⟩;obtain⟨gs,cs,rfl,_⟩:=ownN_form hO hm1;exact hK _ _ (z5.trans (hBv.mono (by omega))) (fun _ _ h=>h.mono hBv) ⟨gs,cs,rfl,ownN_mono hO (by omega)⟩ (hq _ (fun a b=>⟨a.step hBv,b⟩))
   | 5,ho=>
    cases ho;refine wpOp_of rfl rfl ?_;have f1:_=Value.agg #[.int .u64 (ww3 x),.int .u64 (ww2 x),.int .u64 (ww1 x),.int .u64 (ww0 x),.int .u64 (ww3 y),.int .u64 (ww2 y),.int .u64 (ww1 y),.int .u64 (ww0 y),.int .u64 (ww3 z),.int .u64 (ww2 z),.int .u64 (ww1 z),.int .u64 (ww0 z)]:=hJ2.v hall 1 4;have f4:∃gs cs,(aq.tmps.getD 7 undef)= .slice (some ⟨gs,0,none⟩) m cs∧W.ownsRow B4 2 1 (.slice (some ⟨gs,0,none⟩) m cs) m (noL m en):=hJ2.v hall 4 7;obtain⟨gs,cs,f4,hO⟩:=f4;have hq:=fun(W2:World)=>hs.quiet (W2:=W2) 5 (by decide) hl (by decide);have xR:=(hs.2.1 (hs.off (by decide) hl)).1;rw[Array.getD_eq_getD_getElem?] at f4 f1;have hK:=HK 5 8 rfl (by omega);generalize JJ _=K at hK⊢;clear ho hall hl HK HW hJ2 hS;go_simp;exact hK _ _ z5 (fun _ _ h=>h) ⟨gs,cs,rfl,hO⟩ (hq _ (fun a b=>⟨a,b⟩))
   | 6,ho=>
    cases ho;refine wpOp_of rfl rfl ?_;have f5:∃gs cs,(aq.tmps.getD 8 undef)= .agg #[.int .u64 (ww3 x),.int .u64 (ww2 x),.int .u64 (ww1 x),.int .u64 (ww0 x),.int .u64 (ww3 y),.int .u64 (ww2 y),.int .u64 (ww1 y),.int .u64 (ww0 y),.int .u64 (ww3 z),.int .u64 (ww2 z),.int .u64 (ww1 z),.int .u64 (ww0 z),.slice (some ⟨gs,0,none⟩) m cs]∧W.ownsRow B4 2 1 (.slice (some ⟨gs,0,none⟩) m cs) m (noL m en):=hJ2.v hall 5 8;obtain⟨gs,cs,f5,hO⟩:=f5;have hq:=fun(W2:World) hD=>StV.stored (n:=7) (iz:=6) (A:=R) (os:=[.int .u64 0,.int .u64 0,.int .u64 0,.int .u64 0,.int .u64 0,.int .u64 0,.int .u64 0,.int .u64 0,.int .u64 0,.int .u64 0,.int .u64 0,.int .u64 0,.slice none 0 0]) (G:=fun _=>True) (D:=(fun W=>∃s,W.ownsRow B4 2 1 s m (noL m en)∧Blk W R [.int .u64 (ww3 x),.int .u64 (ww2 x),.int .u64 (ww1 x),.int .u64 (ww0 x),.int .u64 (ww3 y),.int .u64 (ww2 y),.int .u64 (ww1 y),.int .u64 (ww0 y),.int .u64 (ww3 z),.int .u64 (ww2 z),.int .u64 (ww1 z),.int .u64 (ww0 z),s])) (W2:=W2) hl (fun j hj hn=>match j,hj,hn with | 0,_,_=>hall ⟨0,.phase⟩ (by simp) rfl | 1,_,_=>hall ⟨1,.phase⟩ (by simp) rfl | 2,_,_=>hall ⟨2,.phase⟩ (by simp) rfl | 3,_,_=>hall ⟨3,.phase⟩ (by simp) rfl | 4,_,_=>hall ⟨4,.chain⟩ (by simp) rfl | 5,_,_=>hall ⟨5,.data⟩ (by simp) rfl | 6,_,hn=>absurd rfl hn | j+7,hj,_=>absurd hj (by omega)) hD;have xR:=(hs.2.1 (getD_tf hl)).1;have rl:=xR.lt;have y0:=xR.c 0 rfl;have g0z:=xR.f 0 rfl;have y1:=xR.c 1 rfl;have g1z:=xR.f 1 rfl;have y2:=xR.c 2 rfl;have g2z:=xR.f 2 rfl;have y3:=xR.c 3 rfl;have g3z:=xR.f 3 rfl;have y4:=xR.c 4 rfl;have g4z:=xR.f 4 rfl;have y5:=xR.c 5 rfl;have g5z:=xR.f 5 rfl;have y6:=xR.c 6 rfl;have g6z:=xR.f 6 rfl;have y7:=xR.c 7 rfl;have g7z:=xR.f 7 rfl;have y8:=xR.c 8 rfl;have g8z:=xR.f 8 rfl;have y9:=xR.c 9 rfl;have g9z:=xR.f 9 rfl;have y10:=xR.c 10 rfl;have g10z:=xR.f 10 rfl;have y11:=xR.c 11 rfl;have g11z:=xR.f 11 rfl;have y12:=xR.c 12 rfl;have g12z:=xR.f 12 rfl;have hK:=HW 6 rfl;generalize JJ _=K at hK⊢;clear ho hall hl HK HW hJ2 hS;have NB:Blk (((((((((((((W.setCell ⟨R,0,none⟩ (.int .u64 (ww3 x))).setCell ⟨R,1,none⟩ (.int .u64 (ww2 x))).setCell ⟨R,2,none⟩ (.int .u64 (ww1 x))).setCell ⟨R,3,none⟩ (.int .u64 (ww0 x))).setCell ⟨R,4,none⟩ (.int .u64 (ww3 y))).setCell ⟨R,5,none⟩ (.int .u64 (ww2 y))).setCell ⟨R,6,none⟩ (.int .u64 (ww1 y))).setCell ⟨R,7,none⟩ (.int .u64 (ww0 y))).setCell ⟨R,8,none⟩ (.int .u64 (ww3 z))).setCell ⟨R,9,none⟩ (.int .u64 (ww2 z))).setCell ⟨R,10,none⟩ (.int .u64 (ww1 z))).setCell ⟨R,11,none⟩ (.int .u64 (ww0 z))).setCell ⟨R,12,none⟩ (.slice (some ⟨gs,0,none⟩) m cs)) R [.int .u64 (ww3 x),.int .u64 (ww2 x),.int .u64 (ww1 x),.int .u64 (ww0 x),.int .u64 (ww3 y),.int .u64 (ww2 y),.int .u64 (ww1 y),.int .u64 (ww0 y),.int .u64 (ww3 z),.int .u64 (ww2 z),.int .u64 (ww1 z),.int .u64 (ww0 z),.slice (some ⟨gs,0,none⟩) m cs]:=setAll_blk [.int .u64 (ww3 x),.int .u64 (ww2 x),.int .u64 (ww1 x),.int .u64 (ww0 x),.int .u64 (ww3 y),.int .u64 (ww2 y),.int .u64 (ww1 y),.int .u64 (ww0 y),.int .u64 (ww3 z),.int .u64 (ww2 z),.int .u64 (ww1 z),.int .u64 (ww0 z),.slice (some ⟨gs,0,none⟩) m cs] 0 xR (by simp);have NL:Below R w0 (((((((((((((W.setCell ⟨R,0,none⟩ (.int .u64 (ww3 x))).setCell ⟨R,1,none⟩ (.int .u64 (ww2 x))).setCell ⟨R,2,none⟩ (.int .u64 (ww1 x))).setCell ⟨R,3,none⟩ (.int .u64 (ww0 x))).setCell ⟨R,4,none⟩ (.int .u64 (ww3 y))).setCell ⟨R,5,none⟩ (.int .u64 (ww2 y))).setCell ⟨R,6,none⟩ (.int .u64 (ww1 y))).setCell ⟨R,7,none⟩ (.int .u64 (ww0 y))).setCell ⟨R,8,none⟩ (.int .u64 (ww3 z))).setCell ⟨R,9,none⟩ (.int .u64 (ww2 z))).setCell ⟨R,10,none⟩ (.int .u64 (ww1 z))).setCell ⟨R,11,none⟩ (.int .u64 (ww0 z))).setCell ⟨R,12,none⟩ (.slice (some ⟨gs,0,none⟩) m cs)):=setAll_below (Nat.le_refl R) [.int .u64 (ww3 x),.int .u64 (ww2 x),.int .u64 (ww1 x),.int .u64 (ww0 x),.int .u64 (ww3 y),.int .u64 (ww2 y),.int .u64 (ww1 y),.int .u64 (ww0 y),.int .u64 (ww3 z),.int .u64 (ww2 z),.int .u64 (ww1 z),.int .u64 (ww0 z),.slice (some ⟨gs,0,none⟩) m cs] 0 z5;have NO:((((((((((((((W.setCell ⟨R,0,none⟩ (.int .u64 (ww3 x))).setCell ⟨R,1,none⟩ (.int .u64 (ww2 x))).setCell ⟨R,2,none⟩ (.int .u64 (ww1 x))).setCell ⟨R,3,none⟩ (.int .u64 (ww0 x))).setCell ⟨R,4,none⟩ (.int .u64 (ww3 y))).setCell ⟨R,5,none⟩ (.int .u64 (ww2 y))).setCell ⟨R,6,none⟩ (.int .u64 (ww1 y))).setCell ⟨R,7,none⟩ (.int .u64 (ww0 y))).setCell ⟨R,8,none⟩ (.int .u64 (ww3 z))).setCell ⟨R,9,none⟩ (.int .u64 (ww2 z))).setCell ⟨R,10,none⟩ (.int .u64 (ww1 z))).setCell ⟨R,11,none⟩ (.int .u64 (ww0 z))).setCell ⟨R,12,none⟩ (.slice (some ⟨gs,0,none⟩) m cs))).ownsRow B4 2 1 (.slice (some ⟨gs,0,none⟩) m cs) m (noL m en):=ownN_heap hO (fun k hk=>setAll_heap (by have:=(hO.lt k hk).1;omega) [.int .u64 (ww3 x),.int .u64 (ww2 x),.int .u64 (ww1 x),.int .u64 (ww0 x),.int .u64 (ww3 y),.int .u64 (ww2 y),.int .u64 (ww1 y),.int .u64 (ww0 y),.int .u64 (ww3 z),.int .u64 (ww2 z),.int .u64 (ww1 z),.int .u64 (ww0 z),.slice (some ⟨gs,0,none⟩) m cs] 0);clear xR hO;go_simp;exact hK _ NL (fun _ _ h=>VewC.set (fun k hk=>setAll_heap (by omega) [.int .u64 (ww3 x),.int .u64 (ww2 x),.int .u64 (ww1 x),.int .u64 (ww0 x),.int .u64 (ww3 y),.int .u64 (ww2 y),.int .u64 (ww1 y),.int .u64 (ww0 y),.int .u64 (ww3 z),.int .u64 (ww2 z),.int .u64 (ww1 z),.int .u64 (ww0 z),.slice (some ⟨gs,0,none⟩) m cs] 0) h) trivial (hq _ ⟨_,NO,NB⟩)
   | iq+7,ho=>simp at ho
 · intro lq aq W ⟨hJ,hs⟩ hr;obtain⟨z1,z2,z3,z4,z5,z6,z7⟩:=hJ;have hl:=listed_of hr [0,1,2,3,4,5,6] [] (by simp) (by kernel_rfl) (by rw[z1];decide);exact hQ aq W z2 z3 (fun e he=>z4 e (by simpa using he)) (z7 6 (hl 6 (by simp)) rfl) z5 (hs.2.2 (hl 6 (by simp)))
def NoRow (w:World) (b t:Nat) (v:Value) (m:Nat) (e:Nat→Int):Prop:=
 (v= .slice none 0 0∧m=0)∨∃g cap f,v= .slice (some ⟨g,0,none⟩) m cap∧b≤g∧g<t∧m≤cap∧w.rowIs g 2 cap f∧∀i,i<m→f i= .int .i64 (e i)
theorem NoRow.heap {w w' :World} {b t:Nat} {v:Value} {m:Nat} {e:Nat→Int} (h:NoRow w b t v m e) (hh:∀k,v.ownBlock=some k→w'.heap[k]? =w.heap[k]?):NoRow w' b t v m e:=by
 rcases h with h | ⟨g,cap,f,h1,h2,h3,h4,h5,h6⟩
 · exact .inl h
 · exact .inr ⟨g,cap,f,h1,h2,h3,h4,h5.of_block (hh g (by subst h1;rfl)),h6⟩
theorem NoRow.lt {w:World} {b t:Nat} {v:Value} {m:Nat} {e:Nat→Int} (h:NoRow w b t v m e) {k:Nat} (hk:v.ownBlock=some k):b≤k∧k<t∧k<w.heap.size:=by
 rcases h with ⟨rfl,_⟩ | ⟨g,cap,f,rfl,h2,h3,h4,h5,h6⟩
 · cases hk
 · cases hk;exact⟨h2,h3,h5.lt⟩
theorem NoRow.mono {w:World} {b t b' t' :Nat} {v:Value} {m:Nat} {e:Nat→Int} (h:NoRow w b t v m e) (hb:b' ≤b) (ht:t≤t'):NoRow w b' t' v m e:=by
 rcases h with h | ⟨g,cap,f,h1,h2,h3,h4,h5,h6⟩
 · exact .inl h
 · exact .inr ⟨g,cap,f,h1,by omega,by omega,h4,h5,h6⟩
theorem NoRow.step {w w' :World} {b t:Nat} {v:Value} {m:Nat} {e:Nat→Int} (h:NoRow w b t v m e) (hB:Below w.heap.size w w'):NoRow w' b t v m e:=
 h.heap fun k hk=>hB.block k (h.lt hk).2.2
theorem NoRow.in {w:World} {b t:Nat} {v:Value} {m:Nat} {e:Nat→Int} (h:NoRow w b t v m e):∃ao cap,v= .slice ao m cap∧NoIn w ao m e:=by
 rcases h with ⟨h1,rfl⟩ | ⟨g,cap,f,h1,h2,h3,h4,h5,h6⟩
 · exact⟨none,0,h1,fun i hi=>absurd hi (by omega)⟩
 · exact⟨some ⟨g,0,none⟩,cap,h1,fun i hi=>⟨g,0,rfl,h5.lt,by rw[Nat.zero_add,h5.cell (by omega),h6 i hi]⟩⟩
theorem NoRow.of {w:World} {b:Nat} {v:Value} {m:Nat} {e:Nat→Int} (h:w.ownsRow b 2 1 v m (noL m e)):NoRow w b w.heap.size v m e:=by
 rcases h.2 with ⟨h1,h2⟩ | ⟨g,cap,cur,h1,h2,h3,h4,h5,h6,h7⟩
 · exact .inl ⟨h1,h2⟩
 · refine .inr ⟨g,cap,fun i=>cur.getD i undef,h1,h2,(Array.getElem?_eq_some_iff.1 h3).1,h4,⟨cur,h3,by omega,fun i hi=>?_⟩,fun i hi=>?_⟩
   · simp[Array.getD_eq_getD_getElem?,show i<cur.size by omega]
   · have e1:(cur.toList.take (m*1))[i]? =(noL m e)[i]? :=by rw[h7]
     rw[List.getElem?_take_of_lt (by omega),noL_at hi] at e1;simp only[Array.getElem?_toList] at e1;show cur.getD i undef=_;rw[Array.getD_eq_getD_getElem?,e1]
     rfl
def w12 (p:Int×Int×Int):Nat→Int
 | 0=>ww3 p.1 | 1=>ww2 p.1 | 2=>ww1 p.1 | 3=>ww0 p.1
 | 4=>ww3 p.2.1 | 5=>ww2 p.2.1 | 6=>ww1 p.2.1 | 7=>ww0 p.2.1
 | 8=>ww3 p.2.2 | 9=>ww2 p.2.2 | 10=>ww1 p.2.2 | 11=>ww0 p.2.2
 | _=>0
def wq (q:Nat→Int×Int×Int) (k:Nat):Int:=w12 (q (k / 13)) (k%13)
theorem wq_at (q:Nat→Int×Int×Int) (c j:Nat) (hj:j<13):wq q (c*13+j)=w12 (q c) j:=by
 unfold wq;rw[show(c*13+j) / 13=c by omega,show(c*13+j)%13=j by omega]
def evC (x:Nat→Int) (s:Nat→Value) (k:Nat):Value:=if k%13=12 then s (k / 13) else .int .u64 (x k)
theorem evC_at (x:Nat→Int) (s:Nat→Value) (c j:Nat) (hj:j<12):evC x s (c*13+j)= .int .u64 (x (c*13+j)):=by
 unfold evC;rw[if_neg (by omega)]
theorem evC_12 (x:Nat→Int) (s:Nat→Value) (c:Nat):evC x s (c*13+12)=s c:=by
 unfold evC;rw[if_pos (by omega),show(c*13+12) / 13=c by omega]
def EvRow (w:World) (b t:Nat) (v:Value) (n:Nat) (x:Nat→Int) (s:Nat→Value) (L:Nat→Nat) (E:Nat→Nat→Int):Prop:=
 (v= .slice none 0 0∧n=0)∨∃g cap f,v= .slice (some ⟨g,0,none⟩) n cap∧b≤g∧g<t∧n≤cap∧w.rowIs g 37 (cap*13) f∧(∀k,k<n*13→f k=evC x s k)∧
  (∀i,i<n→NoRow w b t (s i) (L i) (E i))∧(∀i,i<n→(s i).ownBlock≠some g)∧∀i j,i<n→j<n→i≠j→∀h,(s i).ownBlock=some h→(s j).ownBlock≠some h
theorem EvRow.heap {w w' :World} {b t:Nat} {v:Value} {n:Nat} {x:Nat→Int} {s:Nat→Value} {L:Nat→Nat} {E:Nat→Nat→Int} (h:EvRow w b t v n x s L E) (hh:∀k,b≤k→k<t→k<w.heap.size→w'.heap[k]? =w.heap[k]?):EvRow w' b t v n x s L E:=by
 rcases h with h | ⟨g,cap,f,h1,h2,h3,h4,h5,h6,h7,h8,h9⟩
 · exact .inl h
 · exact .inr ⟨g,cap,f,h1,h2,h3,h4,h5.of_block (hh g h2 h3 h5.lt),h6,fun i hi=>(h7 i hi).heap fun k hk=>hh k ((h7 i hi).lt hk).1 ((h7 i hi).lt hk).2.1 ((h7 i hi).lt hk).2.2,h8,h9⟩
theorem EvRow.step {w w' :World} {b t:Nat} {v:Value} {n:Nat} {x:Nat→Int} {s:Nat→Value} {L:Nat→Nat} {E:Nat→Nat→Int} (h:EvRow w b t v n x s L E) (hB:Below w.heap.size w w'):EvRow w' b t v n x s L E:=
 h.heap fun k _ _ hk=>hB.block k hk
theorem EvRow.mono {w:World} {b t b' t' :Nat} {v:Value} {n:Nat} {x:Nat→Int} {s:Nat→Value} {L:Nat→Nat} {E:Nat→Nat→Int} (h:EvRow w b t v n x s L E) (hb:b' ≤b) (ht:t≤t'):EvRow w b' t' v n x s L E:=by
 rcases h with h | ⟨g,cap,f,h1,h2,h3,h4,h5,h6,h7,h8,h9⟩
 · exact .inl h
 · exact .inr ⟨g,cap,f,h1,by omega,by omega,h4,h5,h6,fun i hi=>(h7 i hi).mono hb ht,h8,h9⟩
def sOf:Value→Option Addr×Nat
 | .slice ao _ c=>(ao,c)
 | _=>(none,0)
theorem EvRow.in {w:World} {b t:Nat} {v:Value} {n:Nat} {q:Nat→Int×Int×Int} {s:Nat→Value} {L:Nat→Nat} {E:Nat→Nat→Int} (h:EvRow w b t v n (wq q) s L E):∃ao cap,v= .slice ao n cap∧EvIn w ao n q (fun i=>sOf (s i)) L E:=by
 rcases h with ⟨h1,rfl⟩ | ⟨g,cap,f,h1,h2,h3,h4,h5,h6,h7,h8,h9⟩
 · exact⟨none,0,h1,fun i hi=>absurd hi (by omega)⟩
 · refine⟨_,cap,h1,fun i hi=>?_⟩;have cl:∀j,j<12→w.cell? ⟨g,0+i*13+j,none⟩=some (.int .u64 (w12 (q i) j)):=fun j hj=>by
    rw[Nat.zero_add,h5.cell (by omega),h6 _ (by omega),evC_at _ _ _ _ hj,wq_at _ _ _ (by omega)]
   obtain⟨so,sc,hs,hN⟩:=(h7 i hi).in;refine⟨g,0,rfl,h5.lt,cl 0 (by omega),cl 1 (by omega),cl 2 (by omega),cl 3 (by omega),cl 4 (by omega),cl 5 (by omega),cl 6 (by omega),cl 7 (by omega),cl 8 (by omega),cl 9 (by omega),cl 10 (by omega),cl 11 (by omega),?_,?_⟩
   · rw[Nat.zero_add,h5.cell (by omega),h6 _ (by omega),evC_12];simp only[hs,sOf]
   · simp only[hs,sOf];exact hN
def evCs (n:Nat) (x:Nat→Int) (s:Nat→Value):List Value:=(List.range (n*13)).map (evC x s)
theorem evCs_len (n:Nat) (x:Nat→Int) (s:Nat→Value):(evCs n x s).length=n*13:=by simp[evCs]
theorem evCs_at {n:Nat} {x:Nat→Int} {s:Nat→Value} {k:Nat} (h:k<n*13):(evCs n x s)[k]? =some (evC x s k):=by simp[evCs,h]
def setS (s:Nat→Value) (c:Nat) (u:Value) (i:Nat):Value:=if i=c then u else s i
def ev13 (p:Int×Int×Int) (u:Value):List Value:=[.int .u64 (ww3 p.1),.int .u64 (ww2 p.1),.int .u64 (ww1 p.1),.int .u64 (ww0 p.1),.int .u64 (ww3 p.2.1),.int .u64 (ww2 p.2.1),.int .u64 (ww1 p.2.1),.int .u64 (ww0 p.2.1),.int .u64 (ww3 p.2.2),.int .u64 (ww2 p.2.2),.int .u64 (ww1 p.2.2),.int .u64 (ww0 p.2.2),u]
theorem evCs_more (c:Nat) (q:Nat→Int×Int×Int) (s:Nat→Value) (u:Value):evCs (c+1) (wq q) (setS s c u)=evCs c (wq q) s ++ev13 (q c) u:=by
 apply List.ext_getElem?
 intro k
 by_cases h:k<c*13
 · rw[List.getElem?_append_left (by rw[evCs_len];exact h),evCs_at h,evCs_at (by omega)];unfold evC setS;rw[if_neg (show ¬k / 13=c by omega)]
 · rw[List.getElem?_append_right (by rw[evCs_len];omega),evCs_len]
   by_cases h2:k<(c+1)*13
   · rw[evCs_at h2];obtain⟨j,rfl⟩:∃j,k=c*13+j:=⟨k-c*13,by omega⟩;rw[Nat.add_sub_cancel_left];have hj:j<13:=by omega
     by_cases e:j=12
     · subst e;rw[evC_12]
       simp[setS,ev13]
     · rw[evC_at _ _ _ _ (by omega),wq_at _ _ _ hj]
       rcases(show j=0∨j=1∨j=2∨j=3∨j=4∨j=5∨j=6∨j=7∨j=8∨j=9∨j=10∨j=11 by omega) with h | h | h | h | h | h | h | h | h | h | h | h<;>subst h<;>rfl
   · rw[List.getElem?_eq_none (by rw[evCs_len];omega),List.getElem?_eq_none (by simp[ev13];omega)]
structure EvOwn (w:World) (base:Nat) (v:Value) (n:Nat) (x:Nat→Int) (s:Nat→Value) (L:Nat→Nat) (E:Nat→Nat→Int):Prop where
 own:w.ownsRow base 37 13 v n (evCs n x s)
 ins:∀i,i<n→w.ownsRow base 2 1 (s i) (L i) (noL (L i) (E i))
 d1:∀i,i<n→∀h,(s i).ownBlock=some h→v.ownBlock≠some h
 d2:∀i j,i<n→j<n→i≠j→∀h,(s i).ownBlock=some h→(s j).ownBlock≠some h
theorem EvOwn.step {w w' :World} {base:Nat} {v:Value} {n:Nat} {x:Nat→Int} {s:Nat→Value} {L:Nat→Nat} {E:Nat→Nat→Int} (h:EvOwn w base v n x s L E) (hB:Below w.heap.size w w'):EvOwn w' base v n x s L E:=
 ⟨ownA_step h.own hB,fun i hi=>ownA_step (h.ins i hi) hB,h.d1,h.d2⟩
theorem EvOwn.nil (w:World) (base:Nat) (x:Nat→Int) (s:Nat→Value) (L:Nat→Nat) (E:Nat→Nat→Int):EvOwn w base (.slice none 0 0) 0 x s L E:=
 ⟨World.ownsRow_nil w base _ _,fun _ h=>absurd h (by omega),fun _ h=>absurd h (by omega),fun _ _ h=>absurd h (by omega)⟩
theorem EvOwn.made (w:World) (base:Nat) (hb:base≤w.heap.size) (x:Nat→Int) (s:Nat→Value) (L:Nat→Nat) (E:Nat→Nat→Int):EvOwn (w.alloc (.cells #[] 37)) base (.slice (some ⟨w.heap.size,0,none⟩) 0 0) 0 x s L E:=
 ⟨World.ownsRow_made w #[] 0 hb (by decide) rfl,fun _ h=>absurd h (by omega),fun _ h=>absurd h (by omega),fun _ _ h=>absurd h (by omega)⟩
theorem EvOwn.row {w:World} {b:Nat} {v:Value} {n:Nat} {x:Nat→Int} {s:Nat→Value} {L:Nat→Nat} {E:Nat→Nat→Int} (h:EvOwn w b v n x s L E):EvRow w b w.heap.size v n x s L E:=by
 obtain⟨h0,h1,h2,h3⟩:=h
 rcases h0.2 with ⟨a1,a2⟩ | ⟨g,cap,cur,a1,a2,a3,a4,a5,a6,a7⟩
 · exact .inl ⟨a1,a2⟩
 · refine .inr ⟨g,cap,fun i=>cur.getD i undef,a1,a2,(Array.getElem?_eq_some_iff.1 a3).1,a4,⟨cur,a3,a6,fun i hi=>?_⟩,fun i hi=>?_,fun i hi=>NoRow.of (h1 i hi),fun i hi e=>?_,h3⟩
   · simp[Array.getD_eq_getD_getElem?,show i<cur.size by omega]
   · have e1:(cur.toList.take (n*13))[i]? =(evCs n x s)[i]? :=by rw[a7]
     rw[List.getElem?_take_of_lt hi,evCs_at hi] at e1;simp only[Array.getElem?_toList] at e1;show cur.getD i undef=_;rw[Array.getD_eq_getD_getElem?,e1]
     rfl
   · exact h2 i hi g e (by subst a1;rfl)
theorem EvOwn.app {w w' :World} {base b2:Nat} {v v' :Value} {c:Nat} {q:Nat→Int×Int×Int} {s:Nat→Value} {L:Nat→Nat} {E:Nat→Nat→Int} (h:EvOwn w base v c (wq q) s L E) (u:Value)
 (hu:w.ownsRow b2 2 1 u (L c) (noL (L c) (E c))) (hb:base≤b2) (hv:∀k,v.ownBlock=some k→k<b2) (hs:∀i,i<c→∀k,(s i).ownBlock=some k→k<b2)
 (hg:w.grownBy w' v.ownBlock) (hn:w'.ownsRow base 37 13 v' (c+1) (evCs c (wq q) s ++ev13 (q c) u)) (ho:v'.ownBlock=v.ownBlock∨v'.ownBlock=some w.heap.size):EvOwn w' base v' (c+1) (wq q) (setS s c u) L E:=by
 have hw:∀i,i<c+1→∀k,(setS s c u i).ownBlock=some k→v.ownBlock≠some k∧k<w.heap.size:=fun i hi k hk=>by
  unfold setS at hk
  split at hk
  · have:=hu.lt k hk;exact⟨fun e=>by have:=hv k e;omega,this.2⟩
  · exact⟨h.d1 i (by omega) k hk,((h.ins i (by omega)).lt k hk).2⟩
 have hne:∀i,i<c+1→(setS s c u i).ownBlock=none∨(setS s c u i).ownBlock≠v.ownBlock:=fun i hi=>by
  cases e:(setS s c u i).ownBlock with
  | none=>exact .inl rfl
  | some k=>exact .inr fun e2=>(hw i hi k e).1 e2.symm
 refine⟨by rw[evCs_more];exact hn,fun i hi=>?_,fun i hi k hk=>?_,fun i j hi hj hij k hk=>?_⟩
 · have:=hne i hi;unfold setS at this⊢
   split
   · rename_i e
     subst e;simp only[if_true] at this;exact ownN_mono (hu.kept hg this) hb
   · rename_i e
     simp only[if_neg e] at this;exact(h.ins i (by omega)).kept hg this
 · rcases ho with ho | ho
   · rw[ho];exact(hw i hi k hk).1
   · rw[ho];intro e;cases e;exact absurd (hw i hi _ hk).2 (by omega)
 · unfold setS at hk⊢
   split at hk
   · have:=(hu.lt k hk).1;rw[if_neg (by omega)];intro e;have:=hs j (by omega) k e
     omega
   · split
     · intro e;have:=hs i (by omega) k hk;have:=(hu.lt k e).1
       omega
     · exact h.d2 i j (by omega) (by omega) hij k hk
end Go.Proofs.YtbogliojkabbjaaGreat
