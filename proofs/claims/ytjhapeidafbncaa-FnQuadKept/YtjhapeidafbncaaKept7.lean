/- Part 7 of the walks that the proof leans on. -/
import Derived.Test.YtjhapeidafbncaaKept6
import Derived.Test.YtjhapeidafbncaaKept5
import Derived.Laws.AppendOwnNone
import Derived.Test.YtjhapeidafbncaaKept1
import Derived.Test.YtjhapeidafbncaaKept2
import Derived.Test.YtjhapeidafbncaaKept3
import Derived.Deep.RegionHeld3
import Derived.Deep.DeepCutAuto
import Derived.BigRegion
set_option maxRecDepth 100000
set_option maxHeartbeats 16000000
namespace Go.Proofs.Ytjhapeidafbncaa
open Go.RowKit
def insQ (Q:QD) (j:Nat) (id:Int) (sg:Int×Int×Int×Int):QD where
 m:=Q.m+1
 N:=Q.N
 I:=fun i=>if i<j then Q.I i else if i=j then id else Q.I (i-1)
 S:=fun i=>if i<j then Q.S i else if i=j then sg else Q.S (i-1)
 X:=Q.X
 Y:=Q.Y
 Z:=Q.Z
 T:=Q.T
 L:=Q.L
 E:=Q.E
def canL (Q:QD) (x y s:Int):List Int:=idL Q (flQ Q (List.range Q.m) x y s)
theorem insQ_lt {Q:QD} {j:Nat} {id:Int} {sg:Int×Int×Int×Int} {i:Nat} (h:i<j):(insQ Q j id sg).I i=Q.I i∧(insQ Q j id sg).S i=Q.S i:=⟨if_pos h,if_pos h⟩
theorem insQ_at (Q:QD) (j:Nat) (id:Int) (sg:Int×Int×Int×Int):(insQ Q j id sg).I j=id∧(insQ Q j id sg).S j=sg:=by
 constructor
 · show(if j<j then _ else if j=j then id else _)=id
   rw[if_neg (by omega),if_pos rfl]
 · show(if j<j then _ else if j=j then sg else _)=sg
   rw[if_neg (by omega),if_pos rfl]
theorem insQ_gt {Q:QD} {j:Nat} {id:Int} {sg:Int×Int×Int×Int} {i:Nat} (h:j≤i):(insQ Q j id sg).I (i+1)=Q.I i∧(insQ Q j id sg).S (i+1)=Q.S i:=by
 constructor
 · show(if i+1<j then _ else if i+1=j then id else Q.I (i+1-1))=Q.I i
   rw[if_neg (by omega),if_neg (by omega),Nat.add_sub_cancel]
 · show(if i+1<j then _ else if i+1=j then sg else Q.S (i+1-1))=Q.S i
   rw[if_neg (by omega),if_neg (by omega),Nat.add_sub_cancel]
def canP (Q:QD) (x y s:Int) (c:Nat):List Int:=idL Q (flQ Q (List.range c) x y s)
theorem canP_more (Q:QD) (x y s:Int) (c:Nat):canP Q x y s (c+1)=canP Q x y s c ++(if hitQ Q x y s c=true then[Q.I c] else[]):=by
 unfold canP flQ idL
 rw[List.range_succ,List.filter_append,List.map_append]
 cases h:hitQ Q x y s c<;>simp[h]
theorem canP_ins_lt (Q:QD) (j:Nat) (id:Int) (sg:Int×Int×Int×Int) (x y s:Int):∀c,c≤j→canP (insQ Q j id sg) x y s c=canP Q x y s c
 | 0,_=>rfl
 | c+1,h=>by
   rw[canP_more,canP_more,canP_ins_lt Q j id sg x y s c (by omega)]
   unfold hitQ
   rw[(insQ_lt (Q:=Q) (id:=id) (sg:=sg) (show c<j by omega)).1,(insQ_lt (Q:=Q) (id:=id) (sg:=sg) (show c<j by omega)).2]
def canR (Q:QD) (x y s:Int) (j:Nat):Nat→List Int
 | 0=>[]
 | n+1=>canR Q x y s j n ++(if hitQ Q x y s (j+n)=true then[Q.I (j+n)] else[])
theorem canP_split (Q:QD) (x y s:Int) (j:Nat):∀n,canP Q x y s (j+n)=canP Q x y s j ++canR Q x y s j n
 | 0=>by simp[canR]
 | n+1=>by rw[←Nat.add_assoc,canP_more,canP_split Q x y s j n,canR,List.append_assoc]
def newH (sg:Int×Int×Int×Int) (x y s:Int):Bool:=hitB sg.1 sg.2.1 sg.2.2.1 sg.2.2.2 x y (x+s) (y+s)
theorem canP_ins (Q:QD) (j:Nat) (id:Int) (sg:Int×Int×Int×Int) (x y s:Int):∀n,canP (insQ Q j id sg) x y s (j+1+n)=canP Q x y s j ++((if newH sg x y s=true then[id] else[]) ++canR Q x y s j n)
 | 0=>by
   rw[show j+1+0=j+1 from rfl,canP_more,canP_ins_lt Q j id sg x y s j (Nat.le_refl _),(insQ_at Q j id sg).1]
   unfold hitQ newH
   rw[(insQ_at Q j id sg).2]
   simp[canR]
 | n+1=>by
   rw[←Nat.add_assoc,canP_more,canP_ins Q j id sg x y s n,canR]
   unfold hitQ
   rw[show j+1+n=(j+n)+1 by omega,(insQ_gt (Q:=Q) (id:=id) (sg:=sg) (show j≤j+n by omega)).1,(insQ_gt (Q:=Q) (id:=id) (sg:=sg) (show j≤j+n by omega)).2]
   simp only[List.append_assoc]
theorem canL_ins {Q:QD} {j:Nat} (hj:j≤Q.m) (id:Int) (sg:Int×Int×Int×Int) (x y s:Int):∃A B,canL Q x y s=A ++B∧canL (insQ Q j id sg) x y s=A ++((if newH sg x y s=true then[id] else[]) ++B)∧A=canP Q x y s j∧B=canR Q x y s j (Q.m-j):=by
 refine⟨_,_,?_,?_,rfl,rfl⟩
 · have h:=canP_split Q x y s j (Q.m-j)
   rw[show j+(Q.m-j)=Q.m by omega] at h
   exact h
 · have h:=canP_ins Q j id sg x y s (Q.m-j)
   rw[show j+1+(Q.m-j)=Q.m+1 by omega] at h
   exact h
theorem canP_mem {Q:QD} {x y s:Int} {c:Nat} {z:Int} (h:z∈canP Q x y s c):∃i,i<c∧z=Q.I i:=by
 unfold canP flQ idL at h
 obtain⟨i,h1,rfl⟩:=List.mem_map.1 h
 exact⟨i,List.mem_range.1 (List.mem_filter.1 h1).1,rfl⟩
theorem canR_mem {Q:QD} {x y s:Int} {j:Nat} {z:Int}:∀{n},z∈canR Q x y s j n→∃i,j≤i∧i<j+n∧z=Q.I i
 | 0,h=>by simp[canR] at h
 | n+1,h=>by
   rw[canR,List.mem_append] at h
   rcases h with h | h
   · obtain⟨i,h1,h2,h3⟩:=canR_mem h
     exact⟨i,h1,by omega,h3⟩
   · split at h
     · simp at h
       exact⟨j+n,by omega,by omega,h⟩
     · simp at h
def riseI (Q:QD):Prop:=∀i,0<i→i<Q.m→Q.I (i-1)<Q.I i
theorem rise_lt {Q:QD} (h:riseI Q):∀(k i:Nat),i+k+1<Q.m→Q.I i<Q.I (i+k+1)
 | 0,i,hi=>by have:=h (i+1) (by omega) hi;simpa using this
 | k+1,i,hi=>by
   have h1:=rise_lt h k i (by omega)
   have h2:=h (i+k+1+1) (by omega) (by omega)
   rw[Nat.add_sub_cancel] at h2
   show Q.I i<Q.I (i+k+1+1)
   omega
theorem rise_of {Q:QD} (h:itsB Q=true):riseI Q:=fun i h0 hi=>(of_decide_eq_true ((of_decide_eq_true h).2 i hi)).2.2 h0
def wiO (A B:List Int) (x:Int) (c:Nat):List Int:=if c≤A.length then A.take c else A ++x::B.take (c-A.length)
theorem wiO_lt {A B:List Int} {x y:Int} {c:Nat} (h:c<A.length) (hy:(A ++B)[c]? =some y):wiO A B x (c+1)=wiO A B x c ++[y]:=by
 unfold wiO
 rw[if_pos (by omega),if_pos (by omega),List.take_add_one]
 rw[List.getElem?_append_left h] at hy
 rw[hy]
 rfl
theorem wiO_at {A B:List Int} {x y:Int} (hy:(A ++B)[A.length]? =some y):wiO A B x (A.length+1)=wiO A B x A.length ++[x] ++[y]:=by
 unfold wiO
 rw[if_neg (by omega),if_pos (by omega),Nat.add_sub_cancel_left,List.take_length]
 rw[List.getElem?_append_right (Nat.le_refl _),Nat.sub_self] at hy
 cases B with
 | nil=>simp at hy
 | cons b B=>
   simp at hy
   subst hy
   simp
theorem wiO_gt {A B:List Int} {x y:Int} {c:Nat} (h:A.length<c) (hy:(A ++B)[c]? =some y):wiO A B x (c+1)=wiO A B x c ++[y]:=by
 unfold wiO
 rw[if_neg (by omega),if_neg (by omega),show c+1-A.length=c-A.length+1 by omega,List.take_add_one]
 rw[List.getElem?_append_right (by omega)] at hy
 rw[hy]
 simp
theorem wiO_len (A B:List Int) (x:Int) (c:Nat):(wiO A B x c).length≤c+1:=by
 unfold wiO
 split
 · rw[List.length_take];omega
 · simp;omega
theorem intsMore {w:World} {base n:Nat} {v:Value} {L M:List Int} {y:Int} (h:w.ownsRow base 2 1 v (n+1) (L.map (Value.int .i64) ++[.int .i64 y])) (hn:L.length=n) (hM:M=L ++[y]):w.ownsRow base 2 1 v M.length (M.map (Value.int .i64)):=by
 subst hM
 subst hn
 rw[List.length_append,List.map_append]
 exact h
theorem l7WithL_any (ao:Option Addr) (cap:Nat) (A B:List Int) (x:Int) (hm:(A ++B).length≤1048576) (hA:∀z∈A,z<x) (hB0:∀z∈B,x<z) (w:World) (hS:NoIn w ao (A ++B).length (fun i=>(A ++B).getD i 0)):Calls Try.prog 63 #[.slice ao (A ++B).length cap,.int .i64 x] w (fun r w' =>∃v,r= .returned v∧w'.ownsRow w.heap.size 2 1 v (A ++x::B).length ((A ++x::B).map (Value.int .i64))∧Below w.heap.size w w'):=by
 obtain⟨i0,hi,hz0,hz1,hz2⟩:=info_parts Try.infoNo
 have HA:Hid (∀z∈A,z<x):=hA
 have HB0:Hid (∀z∈B,x<z):=hB0
 have hAB:A.length+B.length=(A ++B).length:=by simp
 obtain⟨m,hmm⟩:∃m,(A ++B).length=m:=⟨_,rfl⟩
 have HS:Hid (NoIn w ao m (fun i=>(A ++B).getD i 0)):=by rw[←hmm];exact hS
 have HM:Hid ((A ++B).length=m):=hmm
 rw[hmm] at hm hAB⊢
 clear hA hB0 hS hmm
 have hmI:(m:Int)≤1048576:=by omega
 have HO0:(w.alloc (.cells #[] 2)).ownsRow w.heap.size 2 1 (.slice (some ⟨w.heap.size,0,none⟩) 0 0) 0 []:=World.ownsRow_made w #[] 0 (Nat.le_refl _) (by decide) rfl
 have HBB:Below w.heap.size w (w.alloc (.cells #[] 2)):=(Below.refl _ w).alloc (Nat.le_refl _) _
 have hz:wiO A B x 0=[]:=by unfold wiO;rw[if_pos (Nat.zero_le _)];rfl
 go_enter Try.func63,Try.ntmps63
 go_wp2_with fail
 go_loopw [5,6,7] (fun o d i wr=>∃c:Nat,c≤m∧i= .int .i64 c∧d= .bool (decide (A.length<c))∧wr.ownsRow w.heap.size 2 1 o (wiO A B x c).length ((wiO A B x c).map (Value.int .i64))∧Below w.heap.size w wr) (fun _ _ i _=>m-(intOf i).toNat)
 case atStart=>exact⟨0,by omega,rfl,by simp,by rw[hz];exact HO0,HBB⟩
 case round=>
   clear HO0 HBB hz
   obtain⟨c,hc,rfl,rfl,HO,HB⟩:=hrel
   have hwl:=wiO_len A B x c
   obtain⟨n1,hn1⟩:∃n1,(wiO A B x c).length=n1:=⟨_,rfl⟩
   have HN1:Hid ((wiO A B x c).length=n1):=hn1
   rw[hn1] at HO hwl
   clear hn1
   by_cases hcm:c<m
   · obtain⟨A1,off,rfl,hA,hcell⟩:=HS.out.step HB c hcm
     have hcI:(c:Int)<m:=by omega
     obtain⟨y,hy⟩:∃y,(A ++B)[c]? =some y:=⟨_,List.getElem?_eq_getElem (by rw[HM.out];exact hcm)⟩
     have hgd:(A ++B).getD c 0=y:=by rw[List.getD_eq_getElem?_getD,hy];rfl
     have HY:Hid ((A ++B)[c]? =some y):=hy
     replace hcell:wr.cell? ⟨A1,off+c,none⟩=some (.int .i64 y):=by rw[←hgd];exact hcell
     clear hgd hy
     rcases Nat.lt_trichotomy c A.length with h1 | h1 | h1
     · have hd:decide (A.length<c)=false:=decide_eq_false (by omega)
       have hx:y<x:=HA.out y (by have h:=HY.out;rw[List.getElem?_append_left h1] at h;exact List.mem_of_getElem? h)
       have hne:¬(y=x):=by omega
       rw[hd]
       clear hd
       go_wp2_with (at_builtin;refine wpList_append_own _ rfl _ _ 53 rfl w.heap.size 2 i0 (.int .i64 0) 1 8 Try.underlying53 hi hz0 hz1 hz2 rfl (by decide) _ _ _ rfl (ownA_step HO ((Below.refl _ _).alloc (Nat.le_refl _) _)) ⟨wr.heap.size,0,none⟩ 1 1 [.int .i64 (y)] rfl rfl (cell_one_new _ _ _) (one_cellQ _) (by unfold maxLen;omega) (by omega) (by have:=HB.size;simp;omega) ?_)
       intro v1 w1 hown1 hgrow1 _
       have HBN:Below w.heap.size w w1:=(HB.alloc HB.size _).grown hgrow1 (by have:=HB.size;simp;omega) (fun k hk=>(HO.lt k hk).1)
       have HN:=intsMore (M:=wiO A B x (c+1)) hown1 HN1.out (wiO_lt h1 HY.out)
       clear HO HB hown1 hgrow1 hcell hx hne
       go_wp2
       go_roundw
       case rel=>exact⟨c+1,by omega,by go_num,congrArg Value.bool (decide_eq_false (by omega)).symm,HN,HBN⟩
       case measure=>simp[intOf];omega
     · have hd:decide (A.length<c)=false:=decide_eq_false (by omega)
       have hx:x<y:=HB0.out y (by have h:=HY.out;rw[h1,List.getElem?_append_right (Nat.le_refl _)] at h;exact List.mem_of_getElem? h)
       have hne:¬(y=x):=by omega
       have H1:Hid (c=A.length):=h1
       rw[hd]
       clear hd h1
       go_wp2_with (at_builtin;refine wpList_append_own _ rfl _ _ 53 rfl w.heap.size 2 i0 (.int .i64 0) 1 8 Try.underlying53 hi hz0 hz1 hz2 rfl (by decide) _ _ _ rfl (ownA_step HO ((Below.refl _ _).alloc (Nat.le_refl _) _)) ⟨wr.heap.size,0,none⟩ 1 1 [.int .i64 (x)] rfl rfl (cell_one_new _ _ _) (one_cellQ _) (by unfold maxLen;omega) (by omega) (by have:=HB.size;simp;omega) ?_)
       intro v1 w1 hown1 hgrow1 _
       have HBN:Below w.heap.size w w1:=(HB.alloc HB.size _).grown hgrow1 (by have:=HB.size;simp;omega) (fun k hk=>(HO.lt k hk).1)
       have HN:=intsMore (M:=wiO A B x c ++[x]) hown1 HN1.out rfl
       have HN1' :Hid ((wiO A B x c ++[x]).length=n1+1):=by show _=_;rw[List.length_append,HN1.out];rfl
       rw[HN1'.out] at HN
       clear HO HB hown1 hgrow1
       have hcell1:w1.cell? ⟨A1,off+c,none⟩=some (.int .i64 y):=by
         obtain⟨A',off',e',_,hc'⟩:=HS.out.step HBN c hcm
         cases e'
         rw[hc']
         show some (Value.int _ ((A ++B).getD c 0))=_
         rw[List.getD_eq_getElem?_getD,HY.out]
         rfl
       clear hcell
       go_wp2_with (at_builtin;refine wpList_append_own _ rfl _ _ 53 rfl w.heap.size 2 i0 (.int .i64 0) 1 8 Try.underlying53 hi hz0 hz1 hz2 rfl (by decide) _ _ _ rfl (ownA_step HN ((Below.refl _ _).alloc (Nat.le_refl _) _)) ⟨w1.heap.size,0,none⟩ 1 1 [.int .i64 (y)] rfl rfl (cell_one_new _ _ _) (one_cellQ _) (by unfold maxLen;omega) (by omega) (by have:=HBN.size;simp;omega) ?_)
       intro v2 w2 hown2 hgrow2 _
       have HBN2:Below w.heap.size w w2:=(HBN.alloc HBN.size _).grown hgrow2 (by have:=HBN.size;simp;omega) (fun k hk=>(HN.lt k hk).1)
       have HN2:=intsMore (L:=wiO A B x c ++[x]) (M:=wiO A B x (c+1)) (y:=y) (by rw[List.map_append,List.append_assoc];exact hown2) HN1'.out (show wiO A B x (c+1)=wiO A B x c ++[x] ++[y] from by have h1:=H1.out;subst h1;exact wiO_at HY.out)
       clear HN HBN hown2 hgrow2 hcell1 hx hne
       go_wp2
       go_roundw
       case rel=>exact⟨c+1,by omega,by go_num,congrArg Value.bool (decide_eq_true (by have:=H1.out;omega)).symm,HN2,HBN2⟩
       case measure=>simp[intOf];omega
     · have hd:decide (A.length<c)=true:=decide_eq_true h1
       have hx:x<y:=HB0.out y (by have h:=HY.out;rw[List.getElem?_append_right (by omega)] at h;exact List.mem_of_getElem? h)
       have hne:¬(y=x):=by omega
       rw[hd]
       clear hd
       go_wp2_with (at_builtin;refine wpList_append_own _ rfl _ _ 53 rfl w.heap.size 2 i0 (.int .i64 0) 1 8 Try.underlying53 hi hz0 hz1 hz2 rfl (by decide) _ _ _ rfl (ownA_step HO ((Below.refl _ _).alloc (Nat.le_refl _) _)) ⟨wr.heap.size,0,none⟩ 1 1 [.int .i64 (y)] rfl rfl (cell_one_new _ _ _) (one_cellQ _) (by unfold maxLen;omega) (by omega) (by have:=HB.size;simp;omega) ?_)
       intro v1 w1 hown1 hgrow1 _
       have HBN:Below w.heap.size w w1:=(HB.alloc HB.size _).grown hgrow1 (by have:=HB.size;simp;omega) (fun k hk=>(HO.lt k hk).1)
       have HN:=intsMore (M:=wiO A B x (c+1)) hown1 HN1.out (wiO_gt h1 HY.out)
       clear HO HB hown1 hgrow1 hcell hx hne
       go_wp2
       go_roundw
       case rel=>exact⟨c+1,by omega,by go_num,congrArg Value.bool (decide_eq_true (by omega)).symm,HN,HBN⟩
       case measure=>simp[intOf];omega
   · obtain rfl:c=m:=by omega
     by_cases hjm:A.length<c
     · have hd:decide (A.length<c)=true:=decide_eq_true hjm
       have hO:wiO A B x c=A ++x::B:=by unfold wiO;rw[if_neg (by omega),List.take_of_length_le (by omega)]
       rw[hd]
       have HF:Hid (wr.ownsRow w.heap.size 2 1 u5 (A ++x::B).length ((A ++x::B).map (Value.int .i64))):=by rw[←hO,HN1.out];exact HO
       clear hd HO
       go_wp2
       go_ret
       exact⟨_,rfl,HF.out,HB⟩
     · have hd:decide (A.length<c)=false:=decide_eq_false hjm
       have hBn:Hid (B=[]):=List.eq_nil_of_length_eq_zero (by omega)
       have hO:Hid (wiO A B x c=A):=by show _=_;unfold wiO;rw[if_pos (by omega),List.take_of_length_le (by omega)]
       rw[hd]
       clear hd
       go_wp2_with (at_builtin;refine wpList_append_own _ rfl _ _ 53 rfl w.heap.size 2 i0 (.int .i64 0) 1 8 Try.underlying53 hi hz0 hz1 hz2 rfl (by decide) _ _ _ rfl (ownA_step HO ((Below.refl _ _).alloc (Nat.le_refl _) _)) ⟨wr.heap.size,0,none⟩ 1 1 [.int .i64 (x)] rfl rfl (cell_one_new _ _ _) (one_cellQ _) (by unfold maxLen;omega) (by omega) (by have:=HB.size;simp;omega) ?_)
       intro v1 w1 hown1 hgrow1 _
       have HBN:Below w.heap.size w w1:=(HB.alloc HB.size _).grown hgrow1 (by have:=HB.size;simp;omega) (fun k hk=>(HO.lt k hk).1)
       have HN:=intsMore (M:=A ++x::B) hown1 HN1.out (show A ++x::B=wiO A B x c ++[x] from by rw[hO.out,hBn.out])
       clear HO HB hown1 hgrow1
       go_wp2
       go_ret
       exact⟨_,rfl,HN,HBN⟩
def MTr (ok:Nat→Prop) (w:World):QT→Int→Int→Int→Value→Value→Prop
 | .leaf l,_,_,_,kv,ev=>kv= .slice none 0 0∧IdV ok w ev l
 | .node K,x,y,s,kv,ev=>IdV ok w ev []∧∃A kc,kv= .slice (some ⟨A,0,none⟩) 4 kc∧A<w.heap.size∧ok A∧∀k,k<4→∃kv' ev',w.cell? ⟨A,k*5,none⟩=some (.int .i64 (kX x (s / 2) k))∧w.cell? ⟨A,k*5+1,none⟩=some (.int .i64 (kY y (s / 2) k))∧w.cell? ⟨A,k*5+2,none⟩=some (.int .i64 (s / 2))∧w.cell? ⟨A,k*5+3,none⟩=some kv' ∧w.cell? ⟨A,k*5+4,none⟩=some ev' ∧MTr ok w (K k) (kX x (s / 2) k) (kY y (s / 2) k) (s / 2) kv' ev'
theorem MTr.keep {ok ok' :Nat→Prop} {w w' :World} (hs:w.heap.size≤w'.heap.size) (hk:∀b,ok b→b<w.heap.size→w'.heap[b]? =w.heap[b]?) (ho:∀b,ok b→b<w.heap.size→ok' b):∀{t:QT} {x y s:Int} {kv ev:Value},MTr ok w t x y s kv ev→MTr ok' w' t x y s kv ev
 | .leaf _,_,_,_,_,_,h=>⟨h.1,h.2.keep hs hk ho⟩
 | .node K,_,_,_,_,_,h=>by
   obtain⟨h1,A,kc,h2,hA,hoA,h3⟩:=h
   refine⟨h1.keep hs hk ho,A,kc,h2,Nat.lt_of_lt_of_le hA hs,ho A hoA hA,fun k hk4=>?_⟩
   obtain⟨kv',ev',c0,c1,c2,c3,c4,h4⟩:=h3 k hk4
   have hc:∀j,w'.cell? ⟨A,j,none⟩=w.cell? ⟨A,j,none⟩:=fun j=>World.cell?_of_block (w:=w) (a:=⟨A,j,none⟩) (hk A hoA hA)
   exact⟨kv',ev',(hc _).trans c0,(hc _).trans c1,(hc _).trans c2,(hc _).trans c3,(hc _).trans c4,MTr.keep hs hk ho (t:=K k) h4⟩
theorem MTr.step {ok:Nat→Prop} {w w' :World} (hB:Below w.heap.size w w') {t:QT} {x y s:Int} {kv ev:Value} (h:MTr ok w t x y s kv ev):MTr ok w' t x y s kv ev:=MTr.keep hB.size (fun b _ hb=>hB.block b hb) (fun _ h _=>h) h
def kd5 (x y h:Int) (kv ev:Nat→Value) (k:Nat):List Value:=[.int .i64 (kX x h k),.int .i64 (kY y h k),.int .i64 h,kv k,ev k]
def kdL (x y h:Int) (kv ev:Nat→Value) (n:Nat):List Value:=(List.range n).flatMap (kd5 x y h kv ev)
theorem kdL_more (x y h:Int) (kv ev:Nat→Value) (n:Nat):kdL x y h kv ev (n+1)=kdL x y h kv ev n ++kd5 x y h kv ev n:=by
 unfold kdL
 rw[List.range_succ,List.flatMap_append]
 simp
theorem kdL_len (x y h:Int) (kv ev:Nat→Value):∀n,(kdL x y h kv ev n).length=n*5
 | 0=>rfl
 | n+1=>by rw[kdL_more,List.length_append,kdL_len x y h kv ev n];simp[kd5];omega
theorem kdL_at (x y h:Int) (kv ev:Nat→Value):∀n k j,k<n→j<5→(kdL x y h kv ev n)[k*5+j]? =(kd5 x y h kv ev k)[j]?
 | 0,k,j,hk,_=>absurd hk (by omega)
 | n+1,k,j,hk,hj=>by
   rw[kdL_more]
   rcases Nat.lt_or_ge k n with h1 | h1
   · rw[List.getElem?_append_left (by rw[kdL_len];omega)]
     exact kdL_at x y h kv ev n k j h1 hj
   · obtain rfl:k=n:=by omega
     rw[List.getElem?_append_right (by rw[kdL_len];omega),kdL_len,Nat.add_sub_cancel_left]
theorem kdL_same (x y h:Int) {kv ev kv' ev' :Nat→Value} {n:Nat} (h1:∀k,k<n→kv' k=kv k) (h2:∀k,k<n→ev' k=ev k):kdL x y h kv' ev' n=kdL x y h kv ev n:=by
 induction n with
 | zero=>rfl
 | succ n ih=>rw[kdL_more,kdL_more,ih (fun k hk=>h1 k (by omega)) (fun k hk=>h2 k (by omega)),kd5,kd5,h1 n (by omega),h2 n (by omega)]
def setV (f:Nat→Value) (c:Nat) (u:Value) (i:Nat):Value:=if i=c then u else f i
theorem kdL_set (x y h:Int) (kv ev:Nat→Value) (n:Nat) (a b:Value):kdL x y h (setV kv n a) (setV ev n b) (n+1)=kdL x y h kv ev n ++[.int .i64 (kX x h n),.int .i64 (kY y h n),.int .i64 h,a,b]:=by
 rw[kdL_more,kdL_same x y h (kv:=kv) (ev:=ev) (kv' :=setV kv n a) (ev' :=setV ev n b) (fun k hk=>by unfold setV;rw[if_neg (by omega)]) (fun k hk=>by unfold setV;rw[if_neg (by omega)])]
 simp[kd5,setV]
theorem MTr.node_of {ok:Nat→Prop} {w:World} {base:Nat} (hok:∀b,base≤b→ok b) {K:Nat→QT} {x y s:Int} {v ev:Value} {kv' ev' :Nat→Value} (h0:IdV ok w ev []) (h:w.ownsRow base 64 5 v 4 (kdL x y (s / 2) kv' ev' 4)) (hk:∀k,k<4→MTr ok w (K k) (kX x (s / 2) k) (kY y (s / 2) k) (s / 2) (kv' k) (ev' k)):MTr ok w (.node K) x y s v ev:=by
 rcases h.2 with ⟨_,h1⟩ | ⟨g,cap,cur,h1,h2,h3,h4,h5,h6⟩
 · omega
 · subst h1
   refine⟨h0,g,cap,rfl,(Array.getElem?_eq_some_iff.1 h3).1,hok g h2,fun k hk4=>⟨kv' k,ev' k,?_,?_,?_,?_,?_,hk k hk4⟩⟩
   all_goals
     refine(ownQ_cell h (i:=_) ?_).1
   · exact kdL_at x y (s / 2) kv' ev' 4 k 0 hk4 (by omega)
   · exact kdL_at x y (s / 2) kv' ev' 4 k 1 hk4 (by omega)
   · exact kdL_at x y (s / 2) kv' ev' 4 k 2 hk4 (by omega)
   · exact kdL_at x y (s / 2) kv' ev' 4 k 3 hk4 (by omega)
   · exact kdL_at x y (s / 2) kv' ev' 4 k 4 hk4 (by omega)
theorem MTr.vals {ok:Nat→Prop} {w:World} {t:QT} {x y s:Int} {kv ev:Value} (h:MTr ok w t x y s kv ev):∃ko kn kc eo en ec,kv= .slice ko kn kc∧ev= .slice eo en ec:=by
 cases t with
 | leaf l=>
   obtain⟨h1,ao,c,h2,_⟩:=h
   exact⟨_,_,_,_,_,_,h1,h2⟩
 | node K=>
   obtain⟨⟨ao,c,h2,_⟩,A,kc,h1,_⟩:=h
   exact⟨_,_,_,_,_,_,h1,h2⟩
theorem new_cells (w:World) (vs:List Value) (t:TypeId):∀j v,vs[j]? =some v→(w.alloc (.cells vs.toArray t)).cell? ((⟨w.heap.size,0,none⟩:Addr).add j)=some v:=by
 intro j v hj
 rw[Addr.add_lit,Nat.zero_add]
 exact(Blk.new w vs t rfl).c j hj
theorem one5 (a b c:Int) (ao bo:Option Addr) (m n k l:Nat):∀u∈[Value.int .i64 a,.int .i64 b,.int .i64 c,.slice ao m k,.slice bo n l],u.oneCell' =true:=by
 intro u hu
 simp only[List.mem_cons,List.not_mem_nil,or_false] at hu
 rcases hu with rfl | rfl | rfl | rfl | rfl<;>rfl
theorem wpList_append_ids {ops:Array Oper} {rest:List Oper} {o:Oper} {a:Act} {w:World} {Q:Exit→Act→World→Prop} (hgd:o.guard=none) (s x:Operand) (ho:o.op= .call {callee:= .builtin .append,args:=#[s,x],argTypes:=#[53,53]}) (base:Nat) (v:Value) (hs:a.eval s=v) (hown:w.ownsRow base 2 1 v 0 []) (l:List Int) (ao:Option Addr) (c:Nat) (hx:a.eval x= .slice ao l.length c) (hN:NoIn w ao l.length (fun i=>l.getD i 0)) (h0:ao=none→c=0) (hm:l.length≤1048576) (hb:base≤w.heap.size)
   (h:∀v' w',w'.ownsRow base 2 1 v' l.length (l.map (Value.int .i64))→w.grownBy w' v.ownBlock→(v'.ownBlock=v.ownBlock∨v'.ownBlock=some w.heap.size)→wpList Try.prog ops Q rest (a.put o.dst v') w'):wpList Try.prog ops Q (o::rest) a w:=by
 obtain⟨i0,hi,hz0,hz1,hz2⟩:=info_parts Try.infoNo
 cases ao with
 | none=>
   have hl:l=[]:=by
     cases l with
     | nil=>rfl
     | cons z l=>obtain⟨A,off,e,_⟩:=hN 0 (by simp);cases e
   subst hl
   obtain rfl:=h0 rfl
   exact wpList_append_own_none hgd s x 53 ho base 2 i0 1 Try.underlying53 hi v 0 [] hs hown hx (h v w hown ⟨rfl,rfl,rfl,Nat.le_refl _,fun _ _ _=>rfl⟩ (.inl rfl))
 | some ad=>
   refine wpList_append_own_at w hgd s x 53 ho base 2 i0 (.int .i64 0) 1 8 Try.underlying53 hi hz0 hz1 hz2 rfl (by decide) v 0 [] hs hown ad l.length c (l.map (Value.int .i64)) hx (by simp) (fun j u hj=>?_) (fun u hu=>?_) (by unfold maxLen;omega) (by omega) hb (fun v' w' r1 r2 _ r4=>?_)
   · have hjl:j<l.length:=by have:=(List.getElem?_eq_some_iff.1 hj).1;simpa using this
     obtain⟨A,off,e,hA,hc⟩:=hN j hjl
     cases e
     rw[Addr.add_lit,hc]
     rw[List.getElem?_map,List.getElem?_eq_getElem hjl] at hj
     simp only[Option.map_some,Option.some.injEq] at hj
     rw[←hj]
     simp[List.getD_eq_getElem?_getD,hjl]
   · obtain⟨z,_,rfl⟩:=List.mem_map.1 hu
     rfl
   · rw[Nat.zero_add,List.nil_append] at r1
     exact h v' w' r1 r2 r4
theorem Try.infoBlk:(Try.prog.info? 55).map (fun i=>(i.zero,i.size,i.bytes))=some (some (.agg #[.int .i64 0,.int .i64 0,.int .i64 0,.bool false,.slice none 0 0]),5,56):=by kernel_rfl
theorem l13Seg_any (Q:QD) (ao:Option Addr) (cap i0:Nat) (hm:Q.m≤1048576) (hi0:i0<Q.m) (hne:∀k,k<i0→Q.I k≠Q.I i0) (w:World) (hS:ItIn Q w ao (List.range Q.m)):Calls Try.prog 64 #[.slice ao Q.m cap,.int .i64 (Q.I i0)] w (VP (Sg (Q.S i0).1 (Q.S i0).2.1 (Q.S i0).2.2.1 (Q.S i0).2.2.2) w):=by
 have B0:Blk (w.alloc (.cells #[.int .i64 0,.int .i64 0,.int .i64 0,.int .i64 0] 40)) w.heap.size [.int .i64 0,.int .i64 0,.int .i64 0,.int .i64 0]:=Blk.new w [.int .i64 0,.int .i64 0,.int .i64 0,.int .i64 0] 40 rfl
 have HB:Below w.heap.size w (w.alloc (.cells #[.int .i64 0,.int .i64 0,.int .i64 0,.int .i64 0] 40)):=(Below.refl _ w).alloc (Nat.le_refl _) _
 have HS:Hid (ItIn Q w ao (List.range Q.m)):=hS
 have HNE:Hid (∀k,k<i0→Q.I k≠Q.I i0):=hne
 have hmI:(Q.m:Int)≤1048576:=by omega
 clear hS hne
 go_enter Try.func64,Try.ntmps64
 go_upto_region 1 with fail
 generalize (w.alloc (.cells #[.int .i64 0,.int .i64 0,.int .i64 0,.int .i64 0] 40))=W1 at *
 go_wp2_with fail
 go_loopw [5] (fun i wr=>∃c:Nat,c≤i0∧i= .int .i64 c∧wr=W1) (fun i _=>i0+1-(intOf i).toNat)
 case atStart=>exact⟨0,by omega,rfl,by first | rfl | trivial⟩
 case round=>
   obtain⟨c,hc,rfl,rfl⟩:=hrel
   have hcI:(c:Int)<Q.m:=by omega
   obtain⟨A,off,rfl,hA,c0,c1,c2,c3,c4⟩:=HS.out.step HB c c (by simp[show c<Q.m by omega])
   by_cases hci:c<i0
   · have hxe:(Q.I c==Q.I i0)=false:=by simpa using HNE.out c hci
     go_wp2
     go_roundw
     case rel=>exact⟨c+1,by omega,by go_num,by first | rfl | trivial⟩
     case measure=>simp[intOf];omega
   · obtain rfl:c=i0:=by omega
     have z0:=B0.c 0 rfl;have z1:=B0.c 1 rfl;have z2:=B0.c 2 rfl;have z3:=B0.c 3 rfl;have y0:=B0.f 0 rfl;have y1:=B0.f 1 rfl;have y2:=B0.f 2 rfl;have y3:=B0.f 3 rfl
     have BF:Hid (Blk ((((wr.setCell ⟨w.heap.size,0,none⟩ (.int .i64 (Q.S c).1)).setCell ⟨w.heap.size,1,none⟩ (.int .i64 (Q.S c).2.1)).setCell ⟨w.heap.size,2,none⟩ (.int .i64 (Q.S c).2.2.1)).setCell ⟨w.heap.size,3,none⟩ (.int .i64 (Q.S c).2.2.2)) w.heap.size [.int .i64 (Q.S c).1,.int .i64 (Q.S c).2.1,.int .i64 (Q.S c).2.2.1,.int .i64 (Q.S c).2.2.2]):=(((B0.setI 0 (by decide) _).setI 1 (by simp) _).setI 2 (by simp) _).setI 3 (by simp) _
     clear B0
     go_wp2
     have r0:=BF.out.c 0 rfl;have r1:=BF.out.c 1 rfl;have r2:=BF.out.c 2 rfl;have r3:=BF.out.c 3 rfl
     refine bodyPost_ret (v:=Sg (Q.S c).1 (Q.S c).2.1 (Q.S c).2.2.1 (Q.S c).2.2.2) (by simp[results,Try.results64,go_sem,r0,r1,r2,r3]) rfl ?_
     exact⟨rfl,(((HB.setCell (Nat.le_refl _) _).setCell (Nat.le_refl _) _).setCell (Nat.le_refl _) _).setCell (Nat.le_refl _) _⟩
structure WB where
 x:Int
 y:Int
 s:Int
 sp:Bool
 l:List Int
def catW (f:Nat→List WB):Nat→List WB
 | 0=>[]
 | k+1=>catW f k ++f k
def wrT:QT→Int→Int→Int→List WB
 | .leaf l,x,y,s=>[⟨x,y,s,false,l⟩]
 | .node K,x,y,s=>⟨x,y,s,true,[]⟩::catW (fun k=>wrT (K k) (kX x (s / 2) k) (kY y (s / 2) k) (s / 2)) 4
def wb5 (q:WB) (iv:Value):List Value:=[.int .i64 q.x,.int .i64 q.y,.int .i64 q.s,.bool q.sp,iv]
def wbCs:List WB→List Value→List Value
 | q::L,iv::I=>wb5 q iv ++wbCs L I
 | _,_=>[]
def IvP (ok:Nat→Prop) (w:World):List WB→List Value→Prop
 | [],[]=>True
 | q::L,iv::I=>IdV ok w iv q.l∧IvP ok w L I
 | _,_=>False
theorem IvP.len {ok:Nat→Prop} {w:World}:∀{L:List WB} {I:List Value},IvP ok w L I→L.length=I.length
 | [],[],_=>rfl
 | _::L,_::I,h=>congrArg (· +1) (IvP.len (L:=L) (I:=I) h.2)
theorem IvP.app {ok:Nat→Prop} {w:World}:∀{L L' :List WB} {I I' :List Value},IvP ok w L I→IvP ok w L' I' →IvP ok w (L ++L') (I ++I')
 | [],_,[],_,_,h=>h
 | _::L,_,_::I,_,h,h' =>⟨h.1,IvP.app (L:=L) (I:=I) h.2 h'⟩
theorem IvP.keep {ok ok' :Nat→Prop} {w w' :World} (hs:w.heap.size≤w'.heap.size) (hk:∀b,ok b→b<w.heap.size→w'.heap[b]? =w.heap[b]?) (ho:∀b,ok b→b<w.heap.size→ok' b):∀{L:List WB} {I:List Value},IvP ok w L I→IvP ok' w' L I
 | [],[],_=>trivial
 | _::L,_::I,h=>⟨h.1.keep hs hk ho,IvP.keep hs hk ho (L:=L) (I:=I) h.2⟩
theorem wbCs_app {ok:Nat→Prop} {w:World}:∀{L L' :List WB} {I I' :List Value},IvP ok w L I→wbCs (L ++L') (I ++I')=wbCs L I ++wbCs L' I'
 | [],_,[],_,_=>rfl
 | _::L,_,_::I,_,h=>by
   show wb5 _ _ ++wbCs (L ++_) (I ++_)=(wb5 _ _ ++wbCs L I) ++_
   rw[wbCs_app (L:=L) (I:=I) h.2,List.append_assoc]
theorem wbCs_one {ok:Nat→Prop} {w:World}:∀{L:List WB} {I:List Value},IvP ok w L I→∀u∈wbCs L I,u.oneCell' =true
 | [],[],_,u,hu=>by simp[wbCs] at hu
 | q::L,iv::I,h,u,hu=>by
   rcases List.mem_append.1 (show u∈wb5 q iv ++wbCs L I from hu) with h1 | h1
   · obtain⟨ao,c,h2,_⟩:=h.1
     simp only[wb5,List.mem_cons,List.not_mem_nil,or_false] at h1
     rcases h1 with rfl | rfl | rfl | rfl | rfl
     · rfl
     · rfl
     · rfl
     · rfl
     · rw[h2];rfl
   · exact wbCs_one (L:=L) (I:=I) h.2 u h1
theorem IvP.swap {ok ok' :Nat→Prop} {w w' :World} (hk:∀b,ok b→b<w'.heap.size∧w'.heap[b]? =w.heap[b]?∧ok' b):∀{L:List WB} {I:List Value},IvP ok w L I→IvP ok' w' L I
 | [],[],_=>trivial
 | _::L,_::I,h=>by
   refine⟨?_,IvP.swap hk (L:=L) (I:=I) h.2⟩
   obtain⟨ao,c,h1,h2,h3,h4⟩:=h.1
   refine⟨ao,c,h1,fun i hi=>?_,h3,fun A o sp e=>⟨(hk A (h4 A o sp e).1).2.2,(hk A (h4 A o sp e).1).1⟩⟩
   obtain⟨A,o,e,hA,hc⟩:=h2 i hi
   have h5:=hk A (h4 A o none e).1
   exact⟨A,o,e,h5.1,(World.cell?_of_block (w:=w) (a:=⟨A,o+i,none⟩) h5.2.1).trans hc⟩
theorem wrT_pos:∀(t:QT) (x y s:Int),0<(wrT t x y s).length
 | .leaf _,_,_,_=>by simp[wrT]
 | .node K,_,_,_=>by simp[wrT]
theorem catW_len (f:Nat→List WB) {k:Nat} (hk:k<4):(catW f k).length+(f k).length≤(catW f 4).length:=by
 rcases(show k=0∨k=1∨k=2∨k=3 by omega) with h | h | h | h<;>subst h<;>simp[catW]<;>omega
theorem ownQ_mono2 {w:World} {b b' n:Nat} {e:TypeId} {size:Nat} {v:Value} {xs:List Value} (h:w.ownsRow b' e size v n xs) (hb:b≤b'):w.ownsRow b e size v n xs:=by
 rcases h with ⟨h0,h1 | ⟨g,cap,cur,h1,h2,h3⟩⟩
 · exact⟨h0,.inl h1⟩
 · exact⟨h0,.inr ⟨g,cap,cur,h1,by omega,h3⟩⟩
def WrP (ok:Nat→Prop) (L:List WB) (w:World) (r:Ending) (w' :World):Prop:=∃v I,r= .returned v∧w'.ownsRow w.heap.size 55 5 v L.length (wbCs L I)∧IvP ok w L I∧Below w.heap.size w w'
theorem info_blk:∃i0,Try.prog.info? 55=some i0∧i0.zero=some (.agg #[.int .i64 0,.int .i64 0,.int .i64 0,.bool false,.slice none 0 0])∧i0.size=5∧i0.bytes=56:=by
 obtain⟨i,hi,hz⟩:=Option.map_eq_some_iff.1 Try.infoBlk
 simp only[Prod.mk.injEq] at hz
 exact⟨i,hi,hz.1,hz.2.1,hz.2.2⟩
theorem l13Write_any (t:QT):∀(ok:Nat→Prop) (x y s:Int) (kv ev:Value) (w:World),(wrT t x y s).length≤1048576→MTr ok w t x y s kv ev→Calls Try.prog 29 #[.agg #[.int .i64 x,.int .i64 y,.int .i64 s,kv,ev]] w (WrP ok (wrT t x y s) w):=by
 obtain⟨i0,hi0,hz0,hz1,hz2⟩:=info_blk
 induction t with
 | leaf l=>
   intro ok x y s kv ev w _ hM
   obtain⟨rfl,hI⟩:=hM
   have hI2:=hI
   obtain⟨eo,ec,rfl,_⟩:=hI2
   have HI:Hid (IdV ok w (.slice eo l.length ec) l):=hI
   obtain⟨en,hen⟩:∃en,l.length=en:=⟨_,rfl⟩
   have HEN:Hid (l.length=en):=hen
   rw[hen]
   clear hen hI
   have B0:Blk (w.alloc (.cells #[.int .i64 x,.int .i64 y,.int .i64 s,.slice none 0 0,.slice eo en ec] 64)) w.heap.size [.int .i64 x,.int .i64 y,.int .i64 s,.slice none 0 0,.slice eo en ec]:=Blk.new w [.int .i64 x,.int .i64 y,.int .i64 s,.slice none 0 0,.slice eo en ec] 64 rfl
   have HB:Below w.heap.size w (w.alloc (.cells #[.int .i64 x,.int .i64 y,.int .i64 s,.slice none 0 0,.slice eo en ec] 64)):=(Below.refl _ w).alloc (Nat.le_refl _) _
   go_enter Try.func29,Try.ntmps29
   go_upto_region 1 with fail
   generalize (w.alloc (.cells #[.int .i64 x,.int .i64 y,.int .i64 s,.slice none 0 0,.slice eo en ec] 64))=W1 at *
   have m0:=B0.c 0 rfl;have m1:=B0.c 1 rfl;have m2:=B0.c 2 rfl;have m3:=B0.c 3 rfl;have m4:=B0.c 4 rfl
   have hw1:=HB.size
   go_wp2
   go_ret
   refine⟨_,[.slice eo en ec],rfl,⟨rfl,.inr ⟨W1.heap.size,1,#[.int .i64 x,.int .i64 y,.int .i64 s,.bool false,.slice eo en ec],rfl,hw1,heap_alloc_new W1 _,Nat.le_refl _,by unfold maxLen;omega,rfl,rfl⟩⟩,⟨by rw[←HEN.out];exact HI.out,trivial⟩,HB.alloc hw1 _⟩
 | node K ih=>
   intro ok x y s kv ev w hn hM
   obtain⟨eo,en,ec,rfl⟩:∃eo en ec,ev= .slice eo en ec:=by obtain⟨⟨ao,c,h,_⟩,_⟩:=hM;exact⟨_,_,_,h⟩
   obtain⟨_,A,kc,rfl,hA,_,hk⟩:=hM
   have B0:Blk (w.alloc (.cells #[.int .i64 x,.int .i64 y,.int .i64 s,.slice (some ⟨A,0,none⟩) 4 kc,.slice eo en ec] 64)) w.heap.size [.int .i64 x,.int .i64 y,.int .i64 s,.slice (some ⟨A,0,none⟩) 4 kc,.slice eo en ec]:=Blk.new w [.int .i64 x,.int .i64 y,.int .i64 s,.slice (some ⟨A,0,none⟩) 4 kc,.slice eo en ec] 64 rfl
   have HB:Below w.heap.size w (w.alloc (.cells #[.int .i64 x,.int .i64 y,.int .i64 s,.slice (some ⟨A,0,none⟩) 4 kc,.slice eo en ec] 64)):=(Below.refl _ w).alloc (Nat.le_refl _) _
   have HSZ:Hid ((w.alloc (.cells #[.int .i64 x,.int .i64 y,.int .i64 s,.slice (some ⟨A,0,none⟩) 4 kc,.slice eo en ec] 64)).heap.size=w.heap.size+1):=by show(w.alloc (.cells #[.int .i64 x,.int .i64 y,.int .i64 s,.slice (some ⟨A,0,none⟩) 4 kc,.slice eo en ec] 64)).heap.size=_;simp
   obtain⟨hf,hhf⟩:∃hf,s / 2=hf:=⟨_,rfl⟩
   have HT:Hid (wrT (.node K) x y s=((⟨x,y,s,true,[]⟩:WB)::catW (fun k=>wrT (K k) (kX x hf k) (kY y hf k) hf) 4)):=by show wrT (.node K) x y s=_;rw[←hhf];rfl
   rw[HT.out] at hn
   have HLN:Hid ((catW (fun k=>wrT (K k) (kX x hf k) (kY y hf k) hf) 4).length+1≤1048576):=hn
   rw[hhf] at hk
   have HK:Hid (∀k,k<4→∃kv' ev',w.cell? ⟨A,k*5,none⟩=some (.int .i64 (kX x hf k))∧w.cell? ⟨A,k*5+1,none⟩=some (.int .i64 (kY y hf k))∧w.cell? ⟨A,k*5+2,none⟩=some (.int .i64 hf)∧w.cell? ⟨A,k*5+3,none⟩=some kv' ∧w.cell? ⟨A,k*5+4,none⟩=some ev' ∧MTr ok w (K k) (kX x hf k) (kY y hf k) hf kv' ev'):=hk
   clear hk hn hhf
   go_enter Try.func29,Try.ntmps29
   go_upto_region 1 with fail
   generalize (w.alloc (.cells #[.int .i64 x,.int .i64 y,.int .i64 s,.slice (some ⟨A,0,none⟩) 4 kc,.slice eo en ec] 64))=W1 at *
   have m0:=B0.c 0 rfl;have m1:=B0.c 1 rfl;have m2:=B0.c 2 rfl;have m3:=B0.c 3 rfl
   go_wp2_with fail
   have HB2:Below (w.heap.size+1) W1 (W1.alloc (.cells #[.int .i64 x,.int .i64 y,.int .i64 s,.bool true,.slice none 0 0] 55)):=(Below.refl _ W1).alloc (Nat.le_of_eq HSZ.out.symm) _
   have HO:(W1.alloc (.cells #[.int .i64 x,.int .i64 y,.int .i64 s,.bool true,.slice none 0 0] 55)).ownsRow (w.heap.size+1) 55 5 (.slice (some ⟨W1.heap.size,0,none⟩) 1 1) 1 [.int .i64 x,.int .i64 y,.int .i64 s,.bool true,.slice none 0 0]:=⟨rfl,.inr ⟨W1.heap.size,1,#[.int .i64 x,.int .i64 y,.int .i64 s,.bool true,.slice none 0 0],rfl,Nat.le_of_eq HSZ.out.symm,heap_alloc_new W1 _,Nat.le_refl _,by unfold maxLen;omega,rfl,rfl⟩⟩
   clear m0 m1 m2 m3
   go_loopw [3,4] (fun out i wr=>∃(c:Nat) (I:List Value),c≤4∧i= .int .i64 c∧wr.ownsRow (w.heap.size+1) 55 5 out ((⟨x,y,s,true,[]⟩:WB)::catW (fun k=>wrT (K k) (kX x hf k) (kY y hf k) hf) c).length (wbCs ((⟨x,y,s,true,[]⟩:WB)::catW (fun k=>wrT (K k) (kX x hf k) (kY y hf k) hf) c) I)∧IvP ok w ((⟨x,y,s,true,[]⟩:WB)::catW (fun k=>wrT (K k) (kX x hf k) (kY y hf k) hf) c) I∧Below (w.heap.size+1) W1 wr) (fun _ i _=>4-(intOf i).toNat)
   case atStart=>exact⟨0,[.slice none 0 0],by omega,rfl,HO,⟨⟨none,0,rfl,fun i hi=>absurd hi (by simp),fun _=>rfl,fun A o sp e=>by cases e⟩,trivial⟩,HB2⟩
   case round=>
     clear HO HB2
     obtain⟨c,I,hc,rfl,HO,hI,HBr⟩:=hrel
     have hIP:Hid (IvP ok w ((⟨x,y,s,true,[]⟩:WB)::catW (fun k=>wrT (K k) (kX x hf k) (kY y hf k) hf) c) I):=hI
     clear hI
     have B0r:=B0.below HBr (by omega)
     have HBw:=HB.trans (HBr.mono (by omega))
     have hfl:=B0r.lt
     by_cases hc4:c<4
     · have hcI:(c:Int)<4:=by omega
       obtain⟨kv',ev',c0,c1,c2,c3,c4,hM⟩:=HK.out c hc4
       obtain⟨ko,kn,kc',eo',en',ec',rfl,rfl⟩:=hM.vals
       have hlc:=catW_len (fun k=>wrT (K k) (kX x hf k) (kY y hf k) hf) hc4
       have hl4:=HLN.out
       have hpl:((⟨x,y,s,true,[]⟩:WB)::catW (fun k=>wrT (K k) (kX x hf k) (kY y hf k) hf) c).length=(catW (fun k=>wrT (K k) (kX x hf k) (kY y hf k) hf) c).length+1:=rfl
       have C:=ih c (fun b=>ok b∧b<w.heap.size) (kX x hf c) (kY y hf c) hf _ _ wr (by omega) (MTr.keep HBw.size (fun b _ hb=>HBw.block b hb) (fun _ h h2=>⟨h,h2⟩) hM)
       have hcc:∀j,wr.cell? ⟨A,j,none⟩=w.cell? ⟨A,j,none⟩:=fun j=>HBw.cell (p:=⟨A,j,none⟩) hA
       have e0:=(hcc _).trans c0;have e1:=(hcc _).trans c1;have e2:=(hcc _).trans c2;have e3:=(hcc _).trans c3;have e4:=(hcc _).trans c4
       have m3:=B0r.c 3 rfl
       obtain⟨Lk,hLk⟩:∃Lk,wrT (K c) (kX x hf c) (kY y hf c) hf=Lk:=⟨_,rfl⟩
       have HLK:Hid (wrT (K c) (kX x hf c) (kY y hf c) hf=Lk):=hLk
       have hlk0:0<Lk.length:=by rw[←hLk];exact wrT_pos _ _ _ _
       rw[hLk] at C
       have hlen:((⟨x,y,s,true,[]⟩:WB)::catW (fun k=>wrT (K k) (kX x hf k) (kY y hf k) hf) c).length+Lk.length≤1048576:=by rw[hpl,←hLk];omega
       obtain⟨nc,hnc⟩:∃nc,((⟨x,y,s,true,[]⟩:WB)::catW (fun k=>wrT (K k) (kX x hf k) (kY y hf k) hf) c).length=nc:=⟨_,rfl⟩
       have HNC:Hid (((⟨x,y,s,true,[]⟩:WB)::catW (fun k=>wrT (K k) (kX x hf k) (kY y hf k) hf) c).length=nc):=hnc
       rw[hnc] at HO hlen
       clear hnc hpl hlc hl4 hLk hM hcc c0 c1 c2 c3 c4
       go_wp2_with fail
       refine C.mono ?_
       rintro r w1 ⟨v2,I2,rfl,hO2,hI2',hB1⟩
       have hI2:IvP ok w Lk I2:=hI2'.swap (fun b hb=>⟨hb.2,(HBw.block b hb.2).symm,hb.1⟩)
       obtain⟨g2,c2,rfl,_,_,_,_⟩:=ownQ_form hO2 hlk0
       have HO1:=ownA_step HO hB1
       have HB1:=HBr.trans (hB1.mono hfl)
       clear HO C hB1 hI2' m3 e0 e1 e2 e3 e4
       go_wp2_with (at_builtin;go_loud (refine wpList_append_own_at _ rfl _ _ 32 rfl (w.heap.size+1) 55 i0 (.agg #[.int .i64 0,.int .i64 0,.int .i64 0,.bool false,.slice none 0 0]) 5 56 Try.underlying32 hi0 hz0 hz1 hz2 rfl (by decide) _ _ _ rfl HO1 ⟨g2,0,none⟩ Lk.length c2 (wbCs Lk I2) rfl (by rw[hO2.1]) (hO2.cells rfl) (wbCs_one hI2) (by unfold maxLen;omega) (by omega) (Nat.le_trans (Nat.le_of_eq HSZ.out.symm) HB1.size) ?_))
       · intro v3 Wz hO2 hgrow _ _
         have HON:Wz.ownsRow (w.heap.size+1) 55 5 v3 ((⟨x,y,s,true,[]⟩:WB)::catW (fun k=>wrT (K k) (kX x hf k) (kY y hf k) hf) (c+1)).length (wbCs ((⟨x,y,s,true,[]⟩:WB)::catW (fun k=>wrT (K k) (kX x hf k) (kY y hf k) hf) (c+1)) (I ++I2)):=by
           show Wz.ownsRow _ _ _ _ (((((⟨x,y,s,true,[]⟩:WB)::catW (fun k=>wrT (K k) (kX x hf k) (kY y hf k) hf) c):List WB) ++wrT (K c) (kX x hf c) (kY y hf c) hf).length) (wbCs (((⟨x,y,s,true,[]⟩:WB)::catW (fun k=>wrT (K k) (kX x hf k) (kY y hf k) hf) c) ++wrT (K c) (kX x hf c) (kY y hf c) hf) _)
           rw[HLK.out,wbCs_app hIP.out,List.length_append,HNC.out]
           exact hO2
         have HIN:Hid (IvP ok w ((⟨x,y,s,true,[]⟩:WB)::catW (fun k=>wrT (K k) (kX x hf k) (kY y hf k) hf) (c+1)) (I ++I2)):=by
           show IvP ok w (((⟨x,y,s,true,[]⟩:WB)::catW (fun k=>wrT (K k) (kX x hf k) (kY y hf k) hf) c) ++wrT (K c) (kX x hf c) (kY y hf c) hf) _
           rw[HLK.out]
           exact hIP.out.app hI2
         have HBN:=HB1.grown hgrow (Nat.le_trans (Nat.le_of_eq HSZ.out.symm) HB1.size) (fun k hk=>(HO1.lt k hk).1)
         clear hgrow hO2 HO1 B0r HBw HBr HB1
         go_wp2
         go_roundw
         case rel=>exact⟨c+1,I ++I2,by omega,by go_num,HON,HIN.out,HBN⟩
         case measure=>simp[intOf];omega
     · obtain rfl:c=4:=by omega
       have m3:=B0r.c 3 rfl
       go_wp2
       go_ret
       exact⟨_,I,rfl,by rw[HT.out];exact ownQ_mono2 HO (Nat.le_succ _),by rw[HT.out];exact hIP.out,HBw⟩
theorem itCs_len (Q:QD):∀l:List Nat,(itCs Q l).length=l.length*5
 | []=>rfl
 | a::l=>by
   show(it5 Q a ++itCs Q l).length=_
   rw[List.length_append,itCs_len Q l,List.length_cons]
   show 5+l.length*5=_
   omega
theorem itCs_one (Q:QD) (l:List Nat):∀u∈itCs Q l,u.oneCell' =true:=by
 intro u hu
 obtain⟨i,_,h⟩:=List.mem_flatMap.1 hu
 exact it5_one Q i u h
theorem itCs_cell {Q:QD} {w:World} {ad:Addr} {l:List Nat} (h:ItIn Q w (some ad) l):∀j u,(itCs Q l)[j]? =some u→w.cell? (ad.add j)=some u:=by
 intro j u hj
 have hlt:j<l.length*5:=by rw[←itCs_len Q l];exact(List.getElem?_eq_some_iff.1 hj).1
 obtain⟨i,hi⟩:∃i,l[j / 5]? =some i:=⟨_,List.getElem?_eq_getElem (by omega)⟩
 have h5:=itCs_at Q l (j / 5) i (j%5) hi (by omega)
 rw[show j / 5*5+j%5=j by omega,hj] at h5
 obtain⟨A,off,e,_,c0,c1,c2,c3,c4⟩:=h (j / 5) i hi
 cases e
 rw[Addr.add_lit]
 have hj5:off+j=off+j / 5*5+j%5:=by omega
 rw[hj5]
 rcases(show j%5=0∨j%5=1∨j%5=2∨j%5=3∨j%5=4 by omega) with e | e | e | e | e<;>rw[e] at h5⊢<;>cases h5
 · exact c0
 · exact c1
 · exact c2
 · exact c3
 · exact c4
theorem cloneIt_any (Q:QD) (ao:Option Addr) (cap:Nat) (l:List Nat) (hl:l.length≤1048576) (w:World) (hS:ItIn Q w ao l):Calls Try.prog 69 #[.slice ao l.length cap] w (fun r w' =>∃v,r= .returned v∧w'.ownsRow w.heap.size 59 5 v l.length (itCs Q l)∧Below w.heap.size w w'):=by
 obtain⟨i0,hi,hz0,hz1,hz2⟩:=info_item
 have q:=fun(w:World) (a:Option Addr) (n c n' c' :Nat)=>Lib.run_eql_slice_nil (P:=Try.prog) w _ _ a n c n' c' Try.underlying31
 have HR:Hid (ItIn Q w ao l):=hS
 clear hS
 cases ao with
 | none=>
   have hl0:l=[]:=by
     cases l with
     | nil=>rfl
     | cons a l=>obtain⟨A,off,e,_⟩:=HR.out 0 a rfl;cases e
   subst hl0
   go_enter Try.func69,Try.ntmps69
   go_wp2
   go_ret
   exact⟨_,rfl,World.ownsRow_nil _ _ _ _,Below.refl _ _⟩
 | some ad=>
   obtain⟨n,hn⟩:∃n,l.length=n:=⟨_,rfl⟩
   have HN:Hid (l.length=n):=hn
   rw[hn] at hl⊢
   clear hn
   go_enter Try.func69,Try.ntmps69
   go_wp2_with (at_builtin;refine wpList_append_own _ rfl _ _ 31 rfl w.heap.size 59 i0 (.agg #[.int .i64 0,.int .i64 0,.int .i64 0,.int .i64 0,.int .i64 0]) 5 40 Try.underlying31 hi hz0 hz1 hz2 rfl (by decide) _ _ _ rfl (World.ownsRow_made w #[] 0 (Nat.le_refl _) (by decide) rfl) ad n cap (itCs Q l) rfl ?c1 ?c2 ?c3 ?c4 ?c5 ?c6 ?_)
   case c1=>rw[itCs_len,HN.out]
   case c2=>exact itCs_cell (HR.out.step ((Below.refl _ _).alloc (Nat.le_refl _) _))
   case c3=>exact itCs_one Q l
   case c4=>unfold maxLen;omega
   case c5=>omega
   case c6=>simp
   intro v w1 hown hgrow hne
   have HB:Below w.heap.size w w1:=((Below.refl _ _).alloc (Nat.le_refl _) _).grown hgrow (by simp) (fun k hk=>by cases hk;exact Nat.le_refl _)
   clear hgrow
   go_wp2
   go_ret
   exact⟨_,rfl,hown,HB⟩
def limB (m d:Int):Bool:=decide (1≤m)&&decide (m≤8)&&decide (0≤d)&&decide (d≤8)
theorem rightLimits_any (m d:Int) (w:World):Calls Try.prog 67 #[.int .i64 m,.int .i64 d] w (VP (.bool (limB m d)) w):=by
 by_cases h:1≤m∧m≤8∧0≤d∧d≤8
 · obtain⟨h1,h2,h3,h4⟩:=h
   have HO:Hid (limB m d=true):=by show _=_;simp[limB];omega
   go_enter Try.func67,Try.ntmps67
   go_wp2
   go_ret
   exact⟨by rw[HO.out];rfl,Below.refl _ _⟩
 · have HO:Hid (limB m d=false):=by show _=_;rw[Bool.eq_false_iff];intro hh;simp[limB] at hh;omega
   go_enter Try.func67,Try.ntmps67
   by_cases h0:m<1
   · clear h
     go_wp2
     go_ret
     exact⟨by rw[HO.out];rfl,Below.refl _ _⟩
   replace h0:=Int.not_lt.1 h0
   by_cases h1:8<m
   · clear h
     go_wp2
     go_ret
     exact⟨by rw[HO.out];rfl,Below.refl _ _⟩
   replace h1:=Int.not_lt.1 h1
   by_cases h2:d<0
   · clear h
     go_wp2
     go_ret
     exact⟨by rw[HO.out];rfl,Below.refl _ _⟩
   replace h2:=Int.not_lt.1 h2
   have h3:decide (d≤8)=false:=decide_eq_false (by omega)
   clear h
   go_wp2
   go_ret
   exact⟨by rw[HO.out];rfl,Below.refl _ _⟩
theorem l13Limits_any (m d:Int) (w:World):Calls Try.prog 57 #[.int .i64 m,.int .i64 d] w (VP (.bool (limB m d)) w):=by
 by_cases h:1≤m∧m≤8∧0≤d∧d≤8
 · obtain⟨h1,h2,h3,h4⟩:=h
   have HO:Hid (limB m d=true):=by show _=_;simp[limB];omega
   go_enter Try.func57,Try.ntmps57
   go_wp2
   go_ret
   exact⟨by rw[HO.out];rfl,Below.refl _ _⟩
 · have HO:Hid (limB m d=false):=by show _=_;rw[Bool.eq_false_iff];intro hh;simp[limB] at hh;omega
   go_enter Try.func57,Try.ntmps57
   by_cases h0:m<1
   · clear h
     go_wp2
     go_ret
     exact⟨by rw[HO.out];rfl,Below.refl _ _⟩
   replace h0:=Int.not_lt.1 h0
   by_cases h1:8<m
   · clear h
     go_wp2
     go_ret
     exact⟨by rw[HO.out];rfl,Below.refl _ _⟩
   replace h1:=Int.not_lt.1 h1
   by_cases h2:d<0
   · clear h
     go_wp2
     go_ret
     exact⟨by rw[HO.out];rfl,Below.refl _ _⟩
   replace h2:=Int.not_lt.1 h2
   have h3:decide (d≤8)=false:=decide_eq_false (by omega)
   clear h
   go_wp2
   go_ret
   exact⟨by rw[HO.out];rfl,Below.refl _ _⟩
def ItR (Q:QD) (B:Nat) (l:List Nat) (v:Value) (W:World):Prop:=W.ownsRow B 59 5 v l.length (itCs Q l)
theorem ItR.step {Q:QD} {B:Nat} {l:List Nat} {v:Value} {W W2:World} (h:ItR Q B l v W) (hB:Below W.heap.size W W2):ItR Q B l v W2:=ownA_step h hB
def TyB (w:World) (g:Nat) (T:TypeId):Prop:=∃cur,w.heap[g]? =some (.cells cur T (0,0))
theorem TyB.step {w w' :World} {g:Nat} {T:TypeId} (h:TyB w g T) (hB:Below w.heap.size w w'):TyB w' g T:=by
 obtain⟨cur,h1⟩:=h
 exact⟨cur,(hB.block g (Array.getElem?_eq_some_iff.1 h1).1).trans h1⟩
theorem rootBlock_ty (w:World):Calls Try.prog 70 #[] w (fun e w' =>∃g,e= .returned (.pointer (some ⟨g,0,none⟩))∧w.heap.size≤g∧Blk w' g [.int .i64 (-1048576),.int .i64 (-1048576),.int .i64 2097152,.int .i64 0,.slice none 0 0,.slice none 0 0]∧TyB w' g 99∧Below w.heap.size w w'):=by
 go_enter Try.func70,Try.ntmps70
 go_wp2
 go_ret
 exact⟨_,rfl,Nat.le_refl _,Blk.new _ [.int .i64 (-1048576),.int .i64 (-1048576),.int .i64 2097152,.int .i64 0,.slice none 0 0,.slice none 0 0] _ rfl,⟨_,heap_alloc_new w _⟩,(Below.refl _ _).alloc (Nat.le_refl _) _⟩
theorem it_root {Q:QD} {B:Nat} {l:List Nat} {v:Value} {W:World} {gr:Nat} (h:ItR Q B l v W) (hy:TyB W gr 99):∀b,v.ownBlock=some b→b≠gr∧b<W.heap.size:=fun b e=>by
 refine⟨fun e2=>?_,(World.ownsRow.lt h b e).2⟩
 rcases h.2 with ⟨h1,_⟩ | ⟨g,c,cur,h1,h2,h3,_⟩
 · subst h1;cases e
 · subst h1
   obtain⟨cur2,h4⟩:=hy
   cases e
   subst e2
   rw[h3] at h4
   simp at h4
def RtR (B:Nat) (v:Value) (W:World):Prop:=∃gr,v= .pointer (some ⟨gr,0,none⟩)∧B≤gr∧Blk W gr [.int .i64 (-1048576),.int .i64 (-1048576),.int .i64 2097152,.int .i64 0,.slice none 0 0,.slice none 0 0]∧TyB W gr 99
theorem RtR.step {B:Nat} {v:Value} {W W2:World} (h:RtR B v W) (hB:Below W.heap.size W W2):RtR B v W2:=by
 obtain⟨gr,h1,h2,h3,h4⟩:=h
 exact⟨gr,h1,h2,h3.step hB,h4.step hB⟩
def QuA (Q:QD) (B:Nat) (l:List Nat) (m d:Int) (v:Value) (W:World):Prop:=∃io ic gr,v= .agg #[.int .i64 m,.int .i64 d,.slice io l.length ic,.pointer (some ⟨gr,0,none⟩)]∧ItR Q B l (.slice io l.length ic) W∧B≤gr∧Blk W gr [.int .i64 (-1048576),.int .i64 (-1048576),.int .i64 2097152,.int .i64 0,.slice none 0 0,.slice none 0 0]∧∀b,(Value.slice io l.length ic).ownBlock=some b→b≠gr∧b<W.heap.size
theorem QuA.step {Q:QD} {B:Nat} {l:List Nat} {m d:Int} {v:Value} {W W2:World} (h:QuA Q B l m d v W) (hB:Below W.heap.size W W2):QuA Q B l m d v W2:=by
 obtain⟨io,ic,gr,h1,h2,h3,h4,h5⟩:=h
 exact⟨io,ic,gr,h1,h2.step hB,h3,h4.step hB,fun b e=>⟨(h5 b e).1,Nat.lt_of_lt_of_le (h5 b e).2 hB.size⟩⟩
def QuB (Q:QD) (B:Nat) (l:List Nat) (m d:Int) (v:Value) (W:World):Prop:=∃gq io ic gr,v= .pointer (some ⟨gq,0,none⟩)∧Blk W gq [.int .i64 m,.int .i64 d,.slice io l.length ic,.pointer (some ⟨gr,0,none⟩)]∧ItR Q B l (.slice io l.length ic) W∧B≤gr∧gr<gq∧Blk W gr [.int .i64 (-1048576),.int .i64 (-1048576),.int .i64 2097152,.int .i64 0,.slice none 0 0,.slice none 0 0]∧∀b,(Value.slice io l.length ic).ownBlock=some b→b≠gr∧b<gq
theorem QuB.step {Q:QD} {B:Nat} {l:List Nat} {m d:Int} {v:Value} {W W2:World} (h:QuB Q B l m d v W) (hB:Below W.heap.size W W2):QuB Q B l m d v W2:=by
 obtain⟨gq,io,ic,gr,h1,h0,h2,h3,h5,h4,h6⟩:=h
 exact⟨gq,io,ic,gr,h1,h0.step hB,h2.step hB,h3,h5,h4.step hB,h6⟩
theorem ownB_mono {w:World} {b b' n:Nat} {e:TypeId} {size:Nat} {v:Value} {xs:List Value} (h:w.ownsRow b' e size v n xs) (hb:b≤b'):w.ownsRow b e size v n xs:=by
 rcases h with ⟨h0,h1 | ⟨g,cap,cur,h1,h2,h3⟩⟩
 · exact⟨h0,.inl h1⟩
 · exact⟨h0,.inr ⟨g,cap,cur,h1,Nat.le_trans hb h2,h3⟩⟩
theorem own_slI {Q:QD} {B:Nat} {l:List Nat} {v:Value} {W:World} (h:ItR Q B l v W):∃io ic,v= .slice io l.length ic:=by
 rcases h.2 with ⟨h1,h2⟩ | ⟨g,c,_,h1,_⟩
 · exact⟨none,0,by rw[h1,h2]⟩
 · exact⟨_,c,h1⟩
def VqfA (Qd:QD) (P:Nat) (ao:Option Addr) (cap:Nat) (its:List Nat) (m d:Int) (B:Nat):Nat→Value→World→Prop
 | 0,v,_=>v= .pointer (some ⟨P,0,none⟩)
 | 1,v,_=>v= .int .i64 m
 | 2,v,_=>v= .pointer (some ⟨P,1,none⟩)
 | 3,v,_=>v= .int .i64 d
 | 4,v,_=>v= .pointer (some ⟨P,2,none⟩)
 | 5,v,_=>v= .slice ao its.length cap
 | 6,v,W=>ItR Qd B its v W
 | 7,v,W=>RtR B v W
 | 8,v,W=>QuA Qd B its m d v W
 | 9,v,W=>QuB Qd B its m d v W
 | 10,v,W=>QuB Qd B its m d v W
 | _,_,_=>True
theorem VqfA.mono {Qd:QD} {P:Nat} {ao:Option Addr} {cap:Nat} {its:List Nat} {m d:Int} {B j:Nat} {v:Value} {W W2:World} (hB:Below W.heap.size W W2) (h:VqfA Qd P ao cap its m d B j v W):VqfA Qd P ao cap its m d B j v W2:=by
 unfold VqfA at *
 split<;>simp only at h<;>first | exact h | exact h.step hB | trivial
theorem qfA {Q:Exit→Act→World→Prop} {Qd:QD} {P:Nat} {ao:Option Addr} {cap:Nat} {its:List Nat} {m d:Int} {w0:World} {a0:Act} {idq:Nat} {t0 t1 t2 t3 t4 t5 t6 t7 t8 t9 t10:TypeId} {q0 q1 q2 q3 q4 q5 q6 q7 q8 q9 q10:String}
   (hl0:its.length≤1048576) (hS0:ItIn Qd w0 ao its) (h1:a0.tmps[1]? =some (.pointer (some ⟨P,0,none⟩))) (k0:w0.cell? ⟨P,0,none⟩=some (.int .i64 m)) (l0:(⟨P,0,none⟩:Addr).block<w0.heap.size) (k1:w0.cell? ⟨P,1,none⟩=some (.int .i64 d)) (l1:(⟨P,1,none⟩:Addr).block<w0.heap.size) (k2:w0.cell? ⟨P,2,none⟩=some (.slice ao its.length cap)) (l2:(⟨P,2,none⟩:Addr).block<w0.heap.size) (hz:a0.tmps.size=57)
   (hQ:∀aq W,aq.tmps.size=a0.tmps.size→aq.defers=a0.defers→(∀e,e∉([25,26,27,28,29,30,31,32,33,34,4]:List Nat)→aq.tmps[e]? =a0.tmps[e]?)→VqfA Qd P ao cap its m d w0.heap.size 10 (aq.tmps.getD 4 undef) W→Below w0.heap.size w0 W→Q .normal aq W) :
   (Code.region idq #[{dst:=some 25,op:=Op.fieldAddr 34 (.tmp 1) 0,type:=t0,pos:=q0,after:=#[],guard:=none},
   {dst:=some 26,op:=Op.load 2 (.tmp 25),type:=t1,pos:=q1,after:=#[⟨0,.data⟩],guard:=none},
   {dst:=some 27,op:=Op.fieldAddr 34 (.tmp 1) 1,type:=t2,pos:=q2,after:=#[],guard:=none},
   {dst:=some 28,op:=Op.load 2 (.tmp 27),type:=t3,pos:=q3,after:=#[⟨2,.data⟩],guard:=none},
   {dst:=some 29,op:=Op.fieldAddr 34 (.tmp 1) 2,type:=t4,pos:=q4,after:=#[],guard:=none},
   {dst:=some 30,op:=Op.load 31 (.tmp 29),type:=t5,pos:=q5,after:=#[⟨4,.data⟩],guard:=none},
   {dst:=some 31,op:=Op.call {callee:=Callee.value (Operand.func 69),args:=#[.tmp 30],argTypes:=#[31]},type:=t6,pos:=q6,after:=#[⟨5,.data⟩],guard:=none},
   {dst:=some 32,op:=Op.call {callee:=Callee.value (Operand.func 70),args:=#[],argTypes:=#[]},type:=t7,pos:=q7,after:=#[⟨6,.chain⟩],guard:=none},
   {dst:=some 33,op:=Op.build 80 #[(0,.tmp 26),(1,.tmp 28),(2,.tmp 31),(3,.tmp 32)],type:=t8,pos:=q8,after:=#[⟨1,.data⟩,⟨3,.data⟩,⟨6,.data⟩,⟨7,.data⟩],guard:=none},
   {dst:=some 34,op:=Op.box 80 (.tmp 33),type:=t9,pos:=q9,after:=#[⟨8,.data⟩],guard:=none},
   {dst:=some 4,op:=Op.assign (.tmp 34),type:=t10,pos:=q10,after:=#[⟨9,.data⟩,⟨7,.chain⟩,⟨0,.phase⟩,⟨1,.phase⟩,⟨2,.phase⟩,⟨3,.phase⟩,⟨4,.phase⟩,⟨5,.phase⟩,⟨6,.phase⟩,⟨7,.phase⟩,⟨8,.phase⟩,⟨9,.phase⟩],guard:=none}] true).wp Try.prog Q a0 w0:=by
 have hS:distS [some 25,some 26,some 27,some 28,some 29,some 30,some 31,some 32,some 33,some 34,some 4]=true:=rfl
 refine wp_region_q (by kernel_rfl) w0.heap.size [some 25,some 26,some 27,some 28,some 29,some 30,some 31,some 32,some 33,some 34,some 4] (VqfA Qd P ao cap its m d w0.heap.size) rfl ?_ ?_
 · intro Q lq aq W iq oq hJ hl ho hall
   have hJ2:=hJ
   obtain⟨z1,z2,z3,z4,z5,z6,z7⟩:=hJ
   have g1:aq.tmps.getD 1 undef= .pointer (some ⟨P,0,none⟩):=by rw[Array.getD_eq_getD_getElem?,z4 1 (by decide),h1];rfl
   have c0:W.cell? ⟨P,0,none⟩=some (.int .i64 m):=(z5.cell l0).trans k0
   have c1:W.cell? ⟨P,1,none⟩=some (.int .i64 d):=(z5.cell l1).trans k1
   have c2:W.cell? ⟨P,2,none⟩=some (.slice ao its.length cap):=(z5.cell l2).trans k2
   match iq,ho with
   | 0,ho=>
     cases ho
     refine wpOp_of rfl rfl ?_
     have hK:=fun(v:Value) (W2:World) hW hT hv=>hJ2.put hS 0 25 rfl (by omega) (W' :=W2) hW hT v hv
     clear ho hall hl hQ
     generalize InvQ _ _ _ w0 a0 (lq.setIfInBounds 0 true)=K at hK⊢
     clear hJ2 hS z1 z2 z3 z4 z6 z7
     go_simp
     exact hK _ _ z5 (fun _ _ h=>h) rfl
   | 1,ho=>
     cases ho
     refine wpOp_of rfl rfl ?_
     have f0:(aq.tmps.getD 25 undef)= .pointer (some ⟨P,0,none⟩):=z6 0 25 (hall ⟨0,.data⟩ (by simp) rfl) rfl
     have hK:=fun(v:Value) (W2:World) hW hT hv=>hJ2.put hS 1 26 rfl (by omega) (W' :=W2) hW hT v hv
     clear ho hall hl hQ
     generalize InvQ _ _ _ w0 a0 (lq.setIfInBounds 1 true)=K at hK⊢
     clear hJ2 hS z1 z2 z3 z4 z6 z7
     go_simp
     exact hK _ _ z5 (fun _ _ h=>h) rfl
   | 2,ho=>
     cases ho
     refine wpOp_of rfl rfl ?_
     have hK:=fun(v:Value) (W2:World) hW hT hv=>hJ2.put hS 2 27 rfl (by omega) (W' :=W2) hW hT v hv
     clear ho hall hl hQ
     generalize InvQ _ _ _ w0 a0 (lq.setIfInBounds 2 true)=K at hK⊢
     clear hJ2 hS z1 z2 z3 z4 z6 z7
     go_simp
     exact hK _ _ z5 (fun _ _ h=>h) rfl
   | 3,ho=>
     cases ho
     refine wpOp_of rfl rfl ?_
     have f2:(aq.tmps.getD 27 undef)= .pointer (some ⟨P,1,none⟩):=z6 2 27 (hall ⟨2,.data⟩ (by simp) rfl) rfl
     have hK:=fun(v:Value) (W2:World) hW hT hv=>hJ2.put hS 3 28 rfl (by omega) (W' :=W2) hW hT v hv
     clear ho hall hl hQ
     generalize InvQ _ _ _ w0 a0 (lq.setIfInBounds 3 true)=K at hK⊢
     clear hJ2 hS z1 z2 z3 z4 z6 z7
     go_simp
     exact hK _ _ z5 (fun _ _ h=>h) rfl
   | 4,ho=>
     cases ho
     refine wpOp_of rfl rfl ?_
     have hK:=fun(v:Value) (W2:World) hW hT hv=>hJ2.put hS 4 29 rfl (by omega) (W' :=W2) hW hT v hv
     clear ho hall hl hQ
     generalize InvQ _ _ _ w0 a0 (lq.setIfInBounds 4 true)=K at hK⊢
     clear hJ2 hS z1 z2 z3 z4 z6 z7
     go_simp
     exact hK _ _ z5 (fun _ _ h=>h) rfl
   | 5,ho=>
     cases ho
     refine wpOp_of rfl rfl ?_
     have f4:(aq.tmps.getD 29 undef)= .pointer (some ⟨P,2,none⟩):=z6 4 29 (hall ⟨4,.data⟩ (by simp) rfl) rfl
     have hK:=fun(v:Value) (W2:World) hW hT hv=>hJ2.put hS 5 30 rfl (by omega) (W' :=W2) hW hT v hv
     clear ho hall hl hQ
     generalize InvQ _ _ _ w0 a0 (lq.setIfInBounds 5 true)=K at hK⊢
     clear hJ2 hS z1 z2 z3 z4 z6 z7
     go_simp
     exact hK _ _ z5 (fun _ _ h=>h) rfl
   | 6,ho=>
     cases ho
     refine wpOp_of rfl rfl ?_
     have f5:(aq.tmps.getD 30 undef)= .slice ao its.length cap:=z6 5 30 (hall ⟨5,.data⟩ (by simp) rfl) rfl
     have hK:=fun(v:Value) (W2:World) hW hT hv=>hJ2.put hS 6 31 rfl (by omega) (W' :=W2) hW hT v hv
     clear ho hall hl hQ
     generalize InvQ _ _ _ w0 a0 (lq.setIfInBounds 6 true)=K at hK⊢
     clear hJ2 hS z1 z2 z3 z4 z6 z7
     go_simp
     refine(cloneIt_any Qd ao cap its hl0 W (hS0.step z5)).mono ?_
     rintro r v1 ⟨v,rfl,hO,hBv⟩
     exact hK _ _ (z5.trans (hBv.mono z5.size)) (fun j v h=>h.mono hBv) (show ItR Qd w0.heap.size its v v1 from ownB_mono hO z5.size)
   | 7,ho=>
     cases ho
     refine wpOp_of rfl rfl ?_
     have hK:=fun(v:Value) (W2:World) hW hT hv=>hJ2.put hS 7 32 rfl (by omega) (W' :=W2) hW hT v hv
     clear ho hall hl hQ
     generalize InvQ _ _ _ w0 a0 (lq.setIfInBounds 7 true)=K at hK⊢
     clear hJ2 hS z1 z2 z3 z4 z6 z7
     go_simp
     refine(rootBlock_ty W).mono ?_
     rintro r v1 ⟨gr,rfl,hg,hX,hY,hBv⟩
     exact hK _ _ (z5.trans (hBv.mono z5.size)) (fun j v h=>h.mono hBv) ⟨gr,rfl,Nat.le_trans z5.size hg,hX,hY⟩
   | 8,ho=>
     cases ho
     refine wpOp_of rfl rfl ?_
     have f1:(aq.tmps.getD 26 undef)= .int .i64 m:=z6 1 26 (hall ⟨1,.data⟩ (by simp) rfl) rfl
     have f3:(aq.tmps.getD 28 undef)= .int .i64 d:=z6 3 28 (hall ⟨3,.data⟩ (by simp) rfl) rfl
     have f6:ItR Qd w0.heap.size its (aq.tmps.getD 31 undef) W:=z6 6 31 (hall ⟨6,.data⟩ (by simp) rfl) rfl
     have f7:RtR w0.heap.size (aq.tmps.getD 32 undef) W:=z6 7 32 (hall ⟨7,.data⟩ (by simp) rfl) rfl
     obtain⟨gr,e7,hg7,hx7,hy7⟩:=f7
     obtain⟨io,ic,e6⟩:=own_slI f6
     rw[e6] at f6
     have hi6:=f6
     have hob6:=it_root hi6 hy7
     clear hy7
     rw[Array.getD_eq_getD_getElem?] at e6 e7 f1 f3
     have hK:=fun(v:Value) (W2:World) hW hT hv=>hJ2.put hS 8 33 rfl (by omega) (W' :=W2) hW hT v hv
     clear ho hall hl hQ
     generalize InvQ _ _ _ w0 a0 (lq.setIfInBounds 8 true)=K at hK⊢
     clear hJ2 hS z1 z2 z3 z4 z6 z7
     go_simp
     exact hK _ _ z5 (fun _ _ h=>h) ⟨io,ic,gr,rfl,hi6,hg7,hx7,hob6⟩
   | 9,ho=>
     cases ho
     refine wpOp_of rfl rfl ?_
     have f8:QuA Qd w0.heap.size its m d (aq.tmps.getD 33 undef) W:=z6 8 33 (hall ⟨8,.data⟩ (by simp) rfl) rfl
     obtain⟨io,ic,gr,e8,hi8,hg8,hx8,hob8⟩:=f8
     rw[Array.getD_eq_getD_getElem?] at e8
     have hK:=fun(v:Value) (W2:World) hW hT hv=>hJ2.put hS 9 34 rfl (by omega) (W' :=W2) hW hT v hv
     clear ho hall hl hQ
     generalize InvQ _ _ _ w0 a0 (lq.setIfInBounds 9 true)=K at hK⊢
     clear hJ2 hS z1 z2 z3 z4 z6 z7
     go_simp
     exact hK _ _ (z5.alloc z5.size _) (fun j v h=>h.mono ((Below.refl _ _).alloc (Nat.le_refl _) _)) ⟨_,io,ic,gr,rfl,Blk.new W [.int .i64 m,.int .i64 d,.slice io its.length ic,.pointer (some ⟨gr,0,none⟩)] 80 rfl,hi8.step ((Below.refl _ _).alloc (Nat.le_refl _) _),hg8,hx8.lt,hx8.alloc _,hob8⟩
   | 10,ho=>
     cases ho
     refine wpOp_of rfl rfl ?_
     have f9:QuB Qd w0.heap.size its m d (aq.tmps.getD 34 undef) W:=z6 9 34 (hall ⟨9,.data⟩ (by simp) rfl) rfl
     rw[Array.getD_eq_getD_getElem?] at f9
     have hK:=fun(v:Value) (W2:World) hW hT hv=>hJ2.put hS 10 4 rfl (by omega) (W' :=W2) hW hT v hv
     clear ho hall hl hQ
     generalize InvQ _ _ _ w0 a0 (lq.setIfInBounds 10 true)=K at hK⊢
     clear hJ2 hS z1 z2 z3 z4 z6 z7
     go_simp
     exact hK _ _ z5 (fun _ _ h=>h) f9
   | iq+11,ho=>simp at ho
 · intro lq aq W hJ hr
   obtain⟨z1,z2,z3,z4,z5,z6,z7⟩:=hJ
   have hl:=listed_of hr [0,1,2,3,4,5,6,7,8,9,10] [] (by simp) (by kernel_rfl) (by rw[z1];decide)
   exact hQ aq W z2 z3 (fun e he=>z4 e (by simpa using he)) (z6 10 4 (hl 10 (by simp)) rfl) z5
def VqfB (P gq_ gr:Nat) (bo io:Option Addr) (nb cb ni ci:Nat) (d:Int) (bb:Bool) (FP:Value→Prop) (_HW:World→Prop) (_Wd:World) (_B:Nat):Nat→Value→World→Prop
 | 0,v,_=>v= .pointer (some ⟨gq_,0,none⟩)
 | 1,v,_=>v= .pointer (some ⟨gq_,0,none⟩)
 | 2,v,_=>v= .pointer (some ⟨gq_,3,none⟩)
 | 3,v,_=>v= .pointer (some ⟨gr,0,none⟩)
 | 4,v,_=>v= .pointer (some ⟨P,3,none⟩)
 | 5,v,_=>v= .slice bo nb cb
 | 6,v,_=>v= .pointer (some ⟨P,2,none⟩)
 | 7,v,_=>v= .slice io ni ci
 | 8,v,_=>v= .pointer (some ⟨P,1,none⟩)
 | 9,v,_=>v= .int .i64 d
 | 10,v,_=>∃rv,v= .tuple #[rv,.bool bb]∧FP rv
 | 11,v,_=>∃rv,v= .tuple #[rv,.bool bb]∧FP rv
 | 12,v,_=>FP v
 | 13,v,_=>v= .bool bb
 | 14,v,_=>FP v
 | 15,v,_=>v= .bool bb
 | _,_,_=>True
theorem VqfB.same {P gq_ gr:Nat} {bo io:Option Addr} {nb cb ni ci:Nat} {d:Int} {bb:Bool} {FP:Value→Prop} {HW:World→Prop} {Wd:World} {B j:Nat} {v:Value} {W W2:World} (h:VqfB P gq_ gr bo io nb cb ni ci d bb FP HW Wd B j v W):VqfB P gq_ gr bo io nb cb ni ci d bb FP HW Wd B j v W2:=by
 unfold VqfB at *
 split<;>simp only at h<;>first | exact h | trivial
def SqfB (_P _gq_ _gr:Nat) (_bo _io:Option Addr) (_nb _cb _ni _ci:Nat) (_d:Int) (_bb:Bool) (_FP:Value→Prop) (HW:World→Prop) (Wd:World) (lz:Array Bool) (_az:Act) (W:World):Prop:=(lz.getD 10 false=false→W=Wd)∧(lz.getD 10 false=true→lz.getD 3 false=true)∧(lz.getD 10 false=true→HW W)
def JqfB (P gq_ gr:Nat) (bo io:Option Addr) (nb cb ni ci:Nat) (d:Int) (bb:Bool) (FP:Value→Prop) (HW:World→Prop) (Wd:World) (w0:World) (a0:Act) (lz:Array Bool) (az:Act) (W:World):Prop:=InvQ (gr) [some 36,some 37,some 38,some 39,some 40,some 41,some 42,some 43,some 44,some 45,some 46,some 35,some 47,some 48,some 5,some 6] (VqfB P gq_ gr bo io nb cb ni ci d bb FP HW Wd (gr)) w0 a0 lz az W∧SqfB P gq_ gr bo io nb cb ni ci d bb FP HW Wd lz az W
theorem qfB {Q:Exit→Act→World→Prop} {P gq_ gr:Nat} {bo io:Option Addr} {nb cb ni ci:Nat} {d:Int} {bb:Bool} {FP:Value→Prop} {HW:World→Prop} {Wd:World} {w0:World} {a0:Act} {idq:Nat} {t0 t1 t2 t3 t4 t5 t6 t7 t8 t9 t10 t11 t12 t13 t14 t15:TypeId} {q0 q1 q2 q3 q4 q5 q6 q7 q8 q9 q10 q11 q12 q13 q14 q15:String}
   (hgr:gr<w0.heap.size) (hgq:Wd.cell? ⟨gq_,3,none⟩=some (.pointer (some ⟨gr,0,none⟩))) (hRD:Calls Try.prog 71 #[.pointer (some ⟨gr,0,none⟩),.slice bo nb cb,.slice io ni ci,.int .i64 d] Wd (fun r w' =>∃rv,r= .returned (.tuple #[rv,.bool bb])∧FP rv∧Wd.grownBy w' (some gr)∧HW w')) (hWe:Wd=w0.drew) (h1:a0.tmps[1]? =some (.pointer (some ⟨P,0,none⟩))) (h4:a0.tmps[4]? =some (.pointer (some ⟨gq_,0,none⟩))) (k0:w0.cell? ⟨P,3,none⟩=some (.slice bo nb cb)) (l0:(⟨P,3,none⟩:Addr).block<gr) (k1:w0.cell? ⟨P,2,none⟩=some (.slice io ni ci)) (l1:(⟨P,2,none⟩:Addr).block<gr) (k2:w0.cell? ⟨P,1,none⟩=some (.int .i64 d)) (l2:(⟨P,1,none⟩:Addr).block<gr) (hz:a0.tmps.size=57)
   (hQ:∀aq W,aq.tmps.size=a0.tmps.size→aq.defers=a0.defers→(∀e,e∉([36,37,38,39,40,41,42,43,44,45,46,35,47,48,5,6]:List Nat)→aq.tmps[e]? =a0.tmps[e]?)→VqfB P gq_ gr bo io nb cb ni ci d bb FP HW Wd (gr) 14 (aq.tmps.getD 5 undef) W→VqfB P gq_ gr bo io nb cb ni ci d bb FP HW Wd (gr) 15 (aq.tmps.getD 6 undef) W→Below (gr) w0 W→(HW W)→Q .normal aq W) :
   (Code.region idq #[{dst:=some 36,op:=Op.move (.tmp 4),type:=t0,pos:=q0,after:=#[],guard:=none},
   {dst:=some 37,op:=Op.nilCheck (.tmp 36),type:=t1,pos:=q1,after:=#[⟨0,.data⟩],guard:=none},
   {dst:=some 38,op:=Op.fieldAddr 80 (.tmp 37) 3,type:=t2,pos:=q2,after:=#[⟨1,.data⟩],guard:=none},
   {dst:=some 39,op:=Op.load 78 (.tmp 38),type:=t3,pos:=q3,after:=#[⟨2,.data⟩],guard:=none},
   {dst:=some 40,op:=Op.fieldAddr 34 (.tmp 1) 3,type:=t4,pos:=q4,after:=#[],guard:=none},
   {dst:=some 41,op:=Op.load 32 (.tmp 40),type:=t5,pos:=q5,after:=#[⟨4,.data⟩],guard:=none},
   {dst:=some 42,op:=Op.fieldAddr 34 (.tmp 1) 2,type:=t6,pos:=q6,after:=#[],guard:=none},
   {dst:=some 43,op:=Op.load 31 (.tmp 42),type:=t7,pos:=q7,after:=#[⟨6,.data⟩],guard:=none},
   {dst:=some 44,op:=Op.fieldAddr 34 (.tmp 1) 1,type:=t8,pos:=q8,after:=#[],guard:=none},
   {dst:=some 45,op:=Op.load 2 (.tmp 44),type:=t9,pos:=q9,after:=#[⟨8,.data⟩],guard:=none},
   {dst:=some 46,op:=Op.call {callee:=Callee.value (Operand.func 71),args:=#[.tmp 39,.tmp 41,.tmp 43,.tmp 45],argTypes:=#[78,32,31,2]},type:=t10,pos:=q10,after:=#[⟨3,.data⟩,⟨5,.data⟩,⟨7,.data⟩,⟨9,.data⟩],guard:=none},
   {dst:=some 35,op:=Op.move (.tmp 46),type:=t11,pos:=q11,after:=#[⟨10,.data⟩],guard:=none},
   {dst:=some 47,op:=Op.extract (.tmp 35) 0,type:=t12,pos:=q12,after:=#[⟨11,.data⟩],guard:=none},
   {dst:=some 48,op:=Op.extract (.tmp 35) 1,type:=t13,pos:=q13,after:=#[⟨11,.data⟩,{on:=14,ground:=Ground.gcOnly Departure.lateStores}],guard:=none},
   {dst:=some 5,op:=Op.assign (.tmp 47),type:=t14,pos:=q14,after:=#[⟨12,.data⟩,⟨10,.chain⟩,⟨0,.phase⟩,⟨1,.phase⟩,⟨2,.phase⟩,⟨3,.phase⟩,⟨4,.phase⟩,⟨5,.phase⟩,⟨6,.phase⟩,⟨7,.phase⟩,⟨8,.phase⟩,⟨9,.phase⟩,⟨10,.phase⟩,⟨11,.phase⟩,⟨12,.phase⟩,{on:=13,ground:=Ground.textOnly Departure.lateStores}],guard:=none},
   {dst:=some 6,op:=Op.assign (.tmp 48),type:=t15,pos:=q15,after:=#[⟨13,.data⟩,⟨14,.chain⟩,⟨0,.phase⟩,⟨1,.phase⟩,⟨2,.phase⟩,⟨3,.phase⟩,⟨4,.phase⟩,⟨5,.phase⟩,⟨6,.phase⟩,⟨7,.phase⟩,⟨8,.phase⟩,⟨9,.phase⟩,⟨10,.phase⟩,⟨11,.phase⟩,⟨12,.phase⟩,⟨13,.phase⟩,⟨14,.phase⟩],guard:=none}] true).wp Try.prog Q a0 w0:=by
 have hS:distS [some 36,some 37,some 38,some 39,some 40,some 41,some 42,some 43,some 44,some 45,some 46,some 35,some 47,some 48,some 5,some 6]=true:=rfl
 refine wp_region_inv (by kernel_rfl) (JqfB P gq_ gr bo io nb cb ni ci d bb FP HW Wd w0 a0) ⟨⟨rfl,rfl,rfl,fun _ _=>rfl,(Below.refl _ w0).drew,fun j d hj=>?_,fun j hj=>?_⟩,⟨fun _=>hWe.symm,(fun h=>by rw[replD] at h;cases h),(fun h=>by rw[replD] at h;cases h)⟩⟩ ?_ ?_
 · exfalso
   rw[Array.getD_eq_getD_getElem?,Array.getElem?_replicate] at hj
   split at hj<;>simp at hj
 · exfalso
   rw[Array.getD_eq_getD_getElem?,Array.getElem?_replicate] at hj
   split at hj<;>simp at hj
 · intro lq aq W iq oq ⟨hJ,hs⟩ hl ho hall
   have hJ2:=hJ
   obtain⟨z1,z2,z3,z4,z5,z6,z7⟩:=hJ
   have g1:aq.tmps.getD 1 undef= .pointer (some ⟨P,0,none⟩):=by rw[Array.getD_eq_getD_getElem?,z4 1 (by decide),h1];rfl
   have g4:aq.tmps.getD 4 undef= .pointer (some ⟨gq_,0,none⟩):=by rw[Array.getD_eq_getD_getElem?,z4 4 (by decide),h4];rfl
   have c0:W.cell? ⟨P,3,none⟩=some (.slice bo nb cb):=(z5.cell l0).trans k0
   have c1:W.cell? ⟨P,2,none⟩=some (.slice io ni ci):=(z5.cell l1).trans k1
   have c2:W.cell? ⟨P,1,none⟩=some (.int .i64 d):=(z5.cell l2).trans k2
   match iq,ho with
   | 0,ho=>
     cases ho
     refine wpOp_of rfl rfl ?_
     have hq:∀v:Value,SqfB P gq_ gr bo io nb cb ni ci d bb FP HW Wd (lq.setIfInBounds 0 true) (aq.put (some 36) v) W:=fun v=>⟨by rw[getD_set_neq (i:=0) (j:=10) (by decide)];exact hs.1,by rw[getD_set_neq (i:=0) (j:=10) (by decide),getD_set_neq (i:=0) (j:=3) (by decide)];exact hs.2.1,by rw[getD_set_neq (i:=0) (j:=10) (by decide)];exact hs.2.2⟩
     clear hWe
     have hK:=fun(v:Value) (W2:World) hW hT hv (hs:SqfB P gq_ gr bo io nb cb ni ci d bb FP HW Wd (lq.setIfInBounds 0 true) (aq.put (some 36) v) W2)=>show(JqfB P gq_ gr bo io nb cb ni ci d bb FP HW Wd w0 a0) (lq.setIfInBounds 0 true) (aq.put (some 36) v) W2 from⟨hJ2.put hS 0 36 rfl (by omega) (W' :=W2) hW hT v hv,hs⟩
     clear ho hall hl hQ
     generalize (JqfB P gq_ gr bo io nb cb ni ci d bb FP HW Wd w0 a0) (lq.setIfInBounds 0 true)=K at hK⊢
     clear hJ2 hS z1 z2 z3 z4 z6 z7
     go_simp
     exact hK _ _ z5 (fun _ _ h=>h) rfl (hq _)
   | 1,ho=>
     cases ho
     refine wpOp_of rfl rfl ?_
     have f0:(aq.tmps.getD 36 undef)= .pointer (some ⟨gq_,0,none⟩):=z6 0 36 (hall ⟨0,.data⟩ (by simp) rfl) rfl
     have hq:∀v:Value,SqfB P gq_ gr bo io nb cb ni ci d bb FP HW Wd (lq.setIfInBounds 1 true) (aq.put (some 37) v) W:=fun v=>⟨by rw[getD_set_neq (i:=1) (j:=10) (by decide)];exact hs.1,by rw[getD_set_neq (i:=1) (j:=10) (by decide),getD_set_neq (i:=1) (j:=3) (by decide)];exact hs.2.1,by rw[getD_set_neq (i:=1) (j:=10) (by decide)];exact hs.2.2⟩
     clear hWe
     have hK:=fun(v:Value) (W2:World) hW hT hv (hs:SqfB P gq_ gr bo io nb cb ni ci d bb FP HW Wd (lq.setIfInBounds 1 true) (aq.put (some 37) v) W2)=>show(JqfB P gq_ gr bo io nb cb ni ci d bb FP HW Wd w0 a0) (lq.setIfInBounds 1 true) (aq.put (some 37) v) W2 from⟨hJ2.put hS 1 37 rfl (by omega) (W' :=W2) hW hT v hv,hs⟩
     clear ho hall hl hQ
     generalize (JqfB P gq_ gr bo io nb cb ni ci d bb FP HW Wd w0 a0) (lq.setIfInBounds 1 true)=K at hK⊢
     clear hJ2 hS z1 z2 z3 z4 z6 z7
     go_simp
     exact hK _ _ z5 (fun _ _ h=>h) rfl (hq _)
   | 2,ho=>
     cases ho
     refine wpOp_of rfl rfl ?_
     have f1:(aq.tmps.getD 37 undef)= .pointer (some ⟨gq_,0,none⟩):=z6 1 37 (hall ⟨1,.data⟩ (by simp) rfl) rfl
     have hq:∀v:Value,SqfB P gq_ gr bo io nb cb ni ci d bb FP HW Wd (lq.setIfInBounds 2 true) (aq.put (some 38) v) W:=fun v=>⟨by rw[getD_set_neq (i:=2) (j:=10) (by decide)];exact hs.1,by rw[getD_set_neq (i:=2) (j:=10) (by decide),getD_set_neq (i:=2) (j:=3) (by decide)];exact hs.2.1,by rw[getD_set_neq (i:=2) (j:=10) (by decide)];exact hs.2.2⟩
     clear hWe
     have hK:=fun(v:Value) (W2:World) hW hT hv (hs:SqfB P gq_ gr bo io nb cb ni ci d bb FP HW Wd (lq.setIfInBounds 2 true) (aq.put (some 38) v) W2)=>show(JqfB P gq_ gr bo io nb cb ni ci d bb FP HW Wd w0 a0) (lq.setIfInBounds 2 true) (aq.put (some 38) v) W2 from⟨hJ2.put hS 2 38 rfl (by omega) (W' :=W2) hW hT v hv,hs⟩
     clear ho hall hl hQ
     generalize (JqfB P gq_ gr bo io nb cb ni ci d bb FP HW Wd w0 a0) (lq.setIfInBounds 2 true)=K at hK⊢
     clear hJ2 hS z1 z2 z3 z4 z6 z7
     go_simp
     exact hK _ _ z5 (fun _ _ h=>h) rfl (hq _)
   | 3,ho=>
     cases ho
     refine wpOp_of rfl rfl ?_
     have f2:(aq.tmps.getD 38 undef)= .pointer (some ⟨gq_,3,none⟩):=z6 2 38 (hall ⟨2,.data⟩ (by simp) rfl) rfl
     have h10:lq.getD 10 false=false:=by cases e:lq.getD 10 false with | false=>rfl | true=>have:=hs.2.1 e;rw[getD_tf hl] at this;cases this
     have eW:=hs.1 h10
     have c9:W.cell? ⟨gq_,3,none⟩=some (.pointer (some ⟨gr,0,none⟩)):=by rw[eW];exact hgq
     have hq:∀v:Value,SqfB P gq_ gr bo io nb cb ni ci d bb FP HW Wd (lq.setIfInBounds 3 true) (aq.put (some 39) v) W:=fun v=>⟨by rw[getD_set_neq (i:=3) (j:=10) (by decide)];exact hs.1,fun _=>getD_set_eq hl,by rw[getD_set_neq (i:=3) (j:=10) (by decide)];exact hs.2.2⟩
     clear eW hWe hs
     have hK:=fun(v:Value) (W2:World) hW hT hv (hs:SqfB P gq_ gr bo io nb cb ni ci d bb FP HW Wd (lq.setIfInBounds 3 true) (aq.put (some 39) v) W2)=>show(JqfB P gq_ gr bo io nb cb ni ci d bb FP HW Wd w0 a0) (lq.setIfInBounds 3 true) (aq.put (some 39) v) W2 from⟨hJ2.put hS 3 39 rfl (by omega) (W' :=W2) hW hT v hv,hs⟩
     clear ho hall hl hQ
     generalize (JqfB P gq_ gr bo io nb cb ni ci d bb FP HW Wd w0 a0) (lq.setIfInBounds 3 true)=K at hK⊢
     clear hJ2 hS z1 z2 z3 z4 z6 z7
     go_simp
     exact hK _ _ z5 (fun _ _ h=>h) rfl (hq _)
   | 4,ho=>
     cases ho
     refine wpOp_of rfl rfl ?_
     have hq:∀v:Value,SqfB P gq_ gr bo io nb cb ni ci d bb FP HW Wd (lq.setIfInBounds 4 true) (aq.put (some 40) v) W:=fun v=>⟨by rw[getD_set_neq (i:=4) (j:=10) (by decide)];exact hs.1,by rw[getD_set_neq (i:=4) (j:=10) (by decide),getD_set_neq (i:=4) (j:=3) (by decide)];exact hs.2.1,by rw[getD_set_neq (i:=4) (j:=10) (by decide)];exact hs.2.2⟩
     clear hWe
     have hK:=fun(v:Value) (W2:World) hW hT hv (hs:SqfB P gq_ gr bo io nb cb ni ci d bb FP HW Wd (lq.setIfInBounds 4 true) (aq.put (some 40) v) W2)=>show(JqfB P gq_ gr bo io nb cb ni ci d bb FP HW Wd w0 a0) (lq.setIfInBounds 4 true) (aq.put (some 40) v) W2 from⟨hJ2.put hS 4 40 rfl (by omega) (W' :=W2) hW hT v hv,hs⟩
     clear ho hall hl hQ
     generalize (JqfB P gq_ gr bo io nb cb ni ci d bb FP HW Wd w0 a0) (lq.setIfInBounds 4 true)=K at hK⊢
     clear hJ2 hS z1 z2 z3 z4 z6 z7
     go_simp
     exact hK _ _ z5 (fun _ _ h=>h) rfl (hq _)
   | 5,ho=>
     cases ho
     refine wpOp_of rfl rfl ?_
     have f4:(aq.tmps.getD 40 undef)= .pointer (some ⟨P,3,none⟩):=z6 4 40 (hall ⟨4,.data⟩ (by simp) rfl) rfl
     have hq:∀v:Value,SqfB P gq_ gr bo io nb cb ni ci d bb FP HW Wd (lq.setIfInBounds 5 true) (aq.put (some 41) v) W:=fun v=>⟨by rw[getD_set_neq (i:=5) (j:=10) (by decide)];exact hs.1,by rw[getD_set_neq (i:=5) (j:=10) (by decide),getD_set_neq (i:=5) (j:=3) (by decide)];exact hs.2.1,by rw[getD_set_neq (i:=5) (j:=10) (by decide)];exact hs.2.2⟩
     clear hWe
     have hK:=fun(v:Value) (W2:World) hW hT hv (hs:SqfB P gq_ gr bo io nb cb ni ci d bb FP HW Wd (lq.setIfInBounds 5 true) (aq.put (some 41) v) W2)=>show(JqfB P gq_ gr bo io nb cb ni ci d bb FP HW Wd w0 a0) (lq.setIfInBounds 5 true) (aq.put (some 41) v) W2 from⟨hJ2.put hS 5 41 rfl (by omega) (W' :=W2) hW hT v hv,hs⟩
     clear ho hall hl hQ
     generalize (JqfB P gq_ gr bo io nb cb ni ci d bb FP HW Wd w0 a0) (lq.setIfInBounds 5 true)=K at hK⊢
     clear hJ2 hS z1 z2 z3 z4 z6 z7
     go_simp
     exact hK _ _ z5 (fun _ _ h=>h) rfl (hq _)
   | 6,ho=>
     cases ho
     refine wpOp_of rfl rfl ?_
     have hq:∀v:Value,SqfB P gq_ gr bo io nb cb ni ci d bb FP HW Wd (lq.setIfInBounds 6 true) (aq.put (some 42) v) W:=fun v=>⟨by rw[getD_set_neq (i:=6) (j:=10) (by decide)];exact hs.1,by rw[getD_set_neq (i:=6) (j:=10) (by decide),getD_set_neq (i:=6) (j:=3) (by decide)];exact hs.2.1,by rw[getD_set_neq (i:=6) (j:=10) (by decide)];exact hs.2.2⟩
     clear hWe
     have hK:=fun(v:Value) (W2:World) hW hT hv (hs:SqfB P gq_ gr bo io nb cb ni ci d bb FP HW Wd (lq.setIfInBounds 6 true) (aq.put (some 42) v) W2)=>show(JqfB P gq_ gr bo io nb cb ni ci d bb FP HW Wd w0 a0) (lq.setIfInBounds 6 true) (aq.put (some 42) v) W2 from⟨hJ2.put hS 6 42 rfl (by omega) (W' :=W2) hW hT v hv,hs⟩
     clear ho hall hl hQ
     generalize (JqfB P gq_ gr bo io nb cb ni ci d bb FP HW Wd w0 a0) (lq.setIfInBounds 6 true)=K at hK⊢
     clear hJ2 hS z1 z2 z3 z4 z6 z7
     go_simp
     exact hK _ _ z5 (fun _ _ h=>h) rfl (hq _)
   | 7,ho=>
     cases ho
     refine wpOp_of rfl rfl ?_
     have f6:(aq.tmps.getD 42 undef)= .pointer (some ⟨P,2,none⟩):=z6 6 42 (hall ⟨6,.data⟩ (by simp) rfl) rfl
     have hq:∀v:Value,SqfB P gq_ gr bo io nb cb ni ci d bb FP HW Wd (lq.setIfInBounds 7 true) (aq.put (some 43) v) W:=fun v=>⟨by rw[getD_set_neq (i:=7) (j:=10) (by decide)];exact hs.1,by rw[getD_set_neq (i:=7) (j:=10) (by decide),getD_set_neq (i:=7) (j:=3) (by decide)];exact hs.2.1,by rw[getD_set_neq (i:=7) (j:=10) (by decide)];exact hs.2.2⟩
     clear hWe
     have hK:=fun(v:Value) (W2:World) hW hT hv (hs:SqfB P gq_ gr bo io nb cb ni ci d bb FP HW Wd (lq.setIfInBounds 7 true) (aq.put (some 43) v) W2)=>show(JqfB P gq_ gr bo io nb cb ni ci d bb FP HW Wd w0 a0) (lq.setIfInBounds 7 true) (aq.put (some 43) v) W2 from⟨hJ2.put hS 7 43 rfl (by omega) (W' :=W2) hW hT v hv,hs⟩
     clear ho hall hl hQ
     generalize (JqfB P gq_ gr bo io nb cb ni ci d bb FP HW Wd w0 a0) (lq.setIfInBounds 7 true)=K at hK⊢
     clear hJ2 hS z1 z2 z3 z4 z6 z7
     go_simp
     exact hK _ _ z5 (fun _ _ h=>h) rfl (hq _)
   | 8,ho=>
     cases ho
     refine wpOp_of rfl rfl ?_
     have hq:∀v:Value,SqfB P gq_ gr bo io nb cb ni ci d bb FP HW Wd (lq.setIfInBounds 8 true) (aq.put (some 44) v) W:=fun v=>⟨by rw[getD_set_neq (i:=8) (j:=10) (by decide)];exact hs.1,by rw[getD_set_neq (i:=8) (j:=10) (by decide),getD_set_neq (i:=8) (j:=3) (by decide)];exact hs.2.1,by rw[getD_set_neq (i:=8) (j:=10) (by decide)];exact hs.2.2⟩
     clear hWe
     have hK:=fun(v:Value) (W2:World) hW hT hv (hs:SqfB P gq_ gr bo io nb cb ni ci d bb FP HW Wd (lq.setIfInBounds 8 true) (aq.put (some 44) v) W2)=>show(JqfB P gq_ gr bo io nb cb ni ci d bb FP HW Wd w0 a0) (lq.setIfInBounds 8 true) (aq.put (some 44) v) W2 from⟨hJ2.put hS 8 44 rfl (by omega) (W' :=W2) hW hT v hv,hs⟩
     clear ho hall hl hQ
     generalize (JqfB P gq_ gr bo io nb cb ni ci d bb FP HW Wd w0 a0) (lq.setIfInBounds 8 true)=K at hK⊢
     clear hJ2 hS z1 z2 z3 z4 z6 z7
     go_simp
     exact hK _ _ z5 (fun _ _ h=>h) rfl (hq _)
   | 9,ho=>
     cases ho
     refine wpOp_of rfl rfl ?_
     have f8:(aq.tmps.getD 44 undef)= .pointer (some ⟨P,1,none⟩):=z6 8 44 (hall ⟨8,.data⟩ (by simp) rfl) rfl
     have hq:∀v:Value,SqfB P gq_ gr bo io nb cb ni ci d bb FP HW Wd (lq.setIfInBounds 9 true) (aq.put (some 45) v) W:=fun v=>⟨by rw[getD_set_neq (i:=9) (j:=10) (by decide)];exact hs.1,by rw[getD_set_neq (i:=9) (j:=10) (by decide),getD_set_neq (i:=9) (j:=3) (by decide)];exact hs.2.1,by rw[getD_set_neq (i:=9) (j:=10) (by decide)];exact hs.2.2⟩
     clear hWe
     have hK:=fun(v:Value) (W2:World) hW hT hv (hs:SqfB P gq_ gr bo io nb cb ni ci d bb FP HW Wd (lq.setIfInBounds 9 true) (aq.put (some 45) v) W2)=>show(JqfB P gq_ gr bo io nb cb ni ci d bb FP HW Wd w0 a0) (lq.setIfInBounds 9 true) (aq.put (some 45) v) W2 from⟨hJ2.put hS 9 45 rfl (by omega) (W' :=W2) hW hT v hv,hs⟩
     clear ho hall hl hQ
     generalize (JqfB P gq_ gr bo io nb cb ni ci d bb FP HW Wd w0 a0) (lq.setIfInBounds 9 true)=K at hK⊢
     clear hJ2 hS z1 z2 z3 z4 z6 z7
     go_simp
     exact hK _ _ z5 (fun _ _ h=>h) rfl (hq _)
   | 10,ho=>
     cases ho
     refine wpOp_of rfl rfl ?_
     have f3:(aq.tmps.getD 39 undef)= .pointer (some ⟨gr,0,none⟩):=z6 3 39 (hall ⟨3,.data⟩ (by simp) rfl) rfl
     have f5:(aq.tmps.getD 41 undef)= .slice bo nb cb:=z6 5 41 (hall ⟨5,.data⟩ (by simp) rfl) rfl
     have f7:(aq.tmps.getD 43 undef)= .slice io ni ci:=z6 7 43 (hall ⟨7,.data⟩ (by simp) rfl) rfl
     have f9:(aq.tmps.getD 45 undef)= .int .i64 d:=z6 9 45 (hall ⟨9,.data⟩ (by simp) rfl) rfl
     have l3:=hall ⟨3,.data⟩ (by simp) rfl
     have eW:=hs.1 (getD_tf hl)
     have hq:∀(v:Value) (X:World),HW X→SqfB P gq_ gr bo io nb cb ni ci d bb FP HW Wd (lq.setIfInBounds 10 true) (aq.put (some 46) v) X:=fun v X hX=>⟨(fun h=>by rw[getD_set_eq hl] at h;cases h),(fun _=>by rw[getD_set_neq (i:=10) (j:=3) (by decide)];exact l3),fun _=>hX⟩
     have hC:=hRD
     rw[←eW] at hC
     clear eW hWe hs
     have hK:=fun(v:Value) (W2:World) hW hT hv (hs:SqfB P gq_ gr bo io nb cb ni ci d bb FP HW Wd (lq.setIfInBounds 10 true) (aq.put (some 46) v) W2)=>show(JqfB P gq_ gr bo io nb cb ni ci d bb FP HW Wd w0 a0) (lq.setIfInBounds 10 true) (aq.put (some 46) v) W2 from⟨hJ2.put hS 10 46 rfl (by omega) (W' :=W2) hW hT v hv,hs⟩
     clear ho hall hl hQ
     generalize (JqfB P gq_ gr bo io nb cb ni ci d bb FP HW Wd w0 a0) (lq.setIfInBounds 10 true)=K at hK⊢
     clear hJ2 hS z1 z2 z3 z4 z6 z7
     go_simp
     refine hC.mono ?_
     rintro r v1 ⟨rv,rfl,hF,hG,hH⟩
     exact hK _ _ (z5.grown hG (by have:=z5.size;omega) (fun k hk=>by have:=Option.some.inj hk;omega)) (fun _ _ h=>h.same) ⟨rv,rfl,hF⟩ (hq _ _ hH)
   | 11,ho=>
     cases ho
     refine wpOp_of rfl rfl ?_
     have f10:∃rv,(aq.tmps.getD 46 undef)= .tuple #[rv,.bool bb]∧FP rv:=z6 10 46 (hall ⟨10,.data⟩ (by simp) rfl) rfl
     obtain⟨rv,e10,hF⟩:=f10
     have hq:∀v:Value,SqfB P gq_ gr bo io nb cb ni ci d bb FP HW Wd (lq.setIfInBounds 11 true) (aq.put (some 35) v) W:=fun v=>⟨by rw[getD_set_neq (i:=11) (j:=10) (by decide)];exact hs.1,by rw[getD_set_neq (i:=11) (j:=10) (by decide),getD_set_neq (i:=11) (j:=3) (by decide)];exact hs.2.1,by rw[getD_set_neq (i:=11) (j:=10) (by decide)];exact hs.2.2⟩
     clear hWe
     rw[Array.getD_eq_getD_getElem?] at e10
     have hK:=fun(v:Value) (W2:World) hW hT hv (hs:SqfB P gq_ gr bo io nb cb ni ci d bb FP HW Wd (lq.setIfInBounds 11 true) (aq.put (some 35) v) W2)=>show(JqfB P gq_ gr bo io nb cb ni ci d bb FP HW Wd w0 a0) (lq.setIfInBounds 11 true) (aq.put (some 35) v) W2 from⟨hJ2.put hS 11 35 rfl (by omega) (W' :=W2) hW hT v hv,hs⟩
     clear ho hall hl hQ
     generalize (JqfB P gq_ gr bo io nb cb ni ci d bb FP HW Wd w0 a0) (lq.setIfInBounds 11 true)=K at hK⊢
     clear hJ2 hS z1 z2 z3 z4 z6 z7
     go_simp
     exact hK _ _ z5 (fun _ _ h=>h) ⟨rv,rfl,hF⟩ (hq _)
   | 12,ho=>
     cases ho
     refine wpOp_of rfl rfl ?_
     have f11:∃rv,(aq.tmps.getD 35 undef)= .tuple #[rv,.bool bb]∧FP rv:=z6 11 35 (hall ⟨11,.data⟩ (by simp) rfl) rfl
     obtain⟨rv,e11,hF⟩:=f11
     have hq:∀v:Value,SqfB P gq_ gr bo io nb cb ni ci d bb FP HW Wd (lq.setIfInBounds 12 true) (aq.put (some 47) v) W:=fun v=>⟨by rw[getD_set_neq (i:=12) (j:=10) (by decide)];exact hs.1,by rw[getD_set_neq (i:=12) (j:=10) (by decide),getD_set_neq (i:=12) (j:=3) (by decide)];exact hs.2.1,by rw[getD_set_neq (i:=12) (j:=10) (by decide)];exact hs.2.2⟩
     clear hWe
     rw[Array.getD_eq_getD_getElem?] at e11
     have hK:=fun(v:Value) (W2:World) hW hT hv (hs:SqfB P gq_ gr bo io nb cb ni ci d bb FP HW Wd (lq.setIfInBounds 12 true) (aq.put (some 47) v) W2)=>show(JqfB P gq_ gr bo io nb cb ni ci d bb FP HW Wd w0 a0) (lq.setIfInBounds 12 true) (aq.put (some 47) v) W2 from⟨hJ2.put hS 12 47 rfl (by omega) (W' :=W2) hW hT v hv,hs⟩
     clear ho hall hl hQ
     generalize (JqfB P gq_ gr bo io nb cb ni ci d bb FP HW Wd w0 a0) (lq.setIfInBounds 12 true)=K at hK⊢
     clear hJ2 hS z1 z2 z3 z4 z6 z7
     go_simp
     exact hK _ _ z5 (fun _ _ h=>h) hF (hq _)
   | 13,ho=>
     cases ho
     refine wpOp_of rfl rfl ?_
     have f11:∃rv,(aq.tmps.getD 35 undef)= .tuple #[rv,.bool bb]∧FP rv:=z6 11 35 (hall ⟨11,.data⟩ (by simp) rfl) rfl
     obtain⟨rv,e11,hF⟩:=f11
     have hq:∀v:Value,SqfB P gq_ gr bo io nb cb ni ci d bb FP HW Wd (lq.setIfInBounds 13 true) (aq.put (some 48) v) W:=fun v=>⟨by rw[getD_set_neq (i:=13) (j:=10) (by decide)];exact hs.1,by rw[getD_set_neq (i:=13) (j:=10) (by decide),getD_set_neq (i:=13) (j:=3) (by decide)];exact hs.2.1,by rw[getD_set_neq (i:=13) (j:=10) (by decide)];exact hs.2.2⟩
     clear hWe
     rw[Array.getD_eq_getD_getElem?] at e11
     have hK:=fun(v:Value) (W2:World) hW hT hv (hs:SqfB P gq_ gr bo io nb cb ni ci d bb FP HW Wd (lq.setIfInBounds 13 true) (aq.put (some 48) v) W2)=>show(JqfB P gq_ gr bo io nb cb ni ci d bb FP HW Wd w0 a0) (lq.setIfInBounds 13 true) (aq.put (some 48) v) W2 from⟨hJ2.put hS 13 48 rfl (by omega) (W' :=W2) hW hT v hv,hs⟩
     clear ho hall hl hQ
     generalize (JqfB P gq_ gr bo io nb cb ni ci d bb FP HW Wd w0 a0) (lq.setIfInBounds 13 true)=K at hK⊢
     clear hJ2 hS z1 z2 z3 z4 z6 z7
     go_simp
     exact hK _ _ z5 (fun _ _ h=>h) rfl (hq _)
   | 14,ho=>
     cases ho
     refine wpOp_of rfl rfl ?_
     have f12:FP (aq.tmps.getD 47 undef):=z6 12 47 (hall ⟨12,.data⟩ (by simp) rfl) rfl
     have hq:∀v:Value,SqfB P gq_ gr bo io nb cb ni ci d bb FP HW Wd (lq.setIfInBounds 14 true) (aq.put (some 5) v) W:=fun v=>⟨by rw[getD_set_neq (i:=14) (j:=10) (by decide)];exact hs.1,by rw[getD_set_neq (i:=14) (j:=10) (by decide),getD_set_neq (i:=14) (j:=3) (by decide)];exact hs.2.1,by rw[getD_set_neq (i:=14) (j:=10) (by decide)];exact hs.2.2⟩
     clear hWe
     rw[Array.getD_eq_getD_getElem?] at f12
     have hK:=fun(v:Value) (W2:World) hW hT hv (hs:SqfB P gq_ gr bo io nb cb ni ci d bb FP HW Wd (lq.setIfInBounds 14 true) (aq.put (some 5) v) W2)=>show(JqfB P gq_ gr bo io nb cb ni ci d bb FP HW Wd w0 a0) (lq.setIfInBounds 14 true) (aq.put (some 5) v) W2 from⟨hJ2.put hS 14 5 rfl (by omega) (W' :=W2) hW hT v hv,hs⟩
     clear ho hall hl hQ
     generalize (JqfB P gq_ gr bo io nb cb ni ci d bb FP HW Wd w0 a0) (lq.setIfInBounds 14 true)=K at hK⊢
     clear hJ2 hS z1 z2 z3 z4 z6 z7
     go_simp
     exact hK _ _ z5 (fun _ _ h=>h) f12 (hq _)
   | 15,ho=>
     cases ho
     refine wpOp_of rfl rfl ?_
     have f13:(aq.tmps.getD 48 undef)= .bool bb:=z6 13 48 (hall ⟨13,.data⟩ (by simp) rfl) rfl
     have hq:∀v:Value,SqfB P gq_ gr bo io nb cb ni ci d bb FP HW Wd (lq.setIfInBounds 15 true) (aq.put (some 6) v) W:=fun v=>⟨by rw[getD_set_neq (i:=15) (j:=10) (by decide)];exact hs.1,by rw[getD_set_neq (i:=15) (j:=10) (by decide),getD_set_neq (i:=15) (j:=3) (by decide)];exact hs.2.1,by rw[getD_set_neq (i:=15) (j:=10) (by decide)];exact hs.2.2⟩
     clear hWe
     have hK:=fun(v:Value) (W2:World) hW hT hv (hs:SqfB P gq_ gr bo io nb cb ni ci d bb FP HW Wd (lq.setIfInBounds 15 true) (aq.put (some 6) v) W2)=>show(JqfB P gq_ gr bo io nb cb ni ci d bb FP HW Wd w0 a0) (lq.setIfInBounds 15 true) (aq.put (some 6) v) W2 from⟨hJ2.put hS 15 6 rfl (by omega) (W' :=W2) hW hT v hv,hs⟩
     clear ho hall hl hQ
     generalize (JqfB P gq_ gr bo io nb cb ni ci d bb FP HW Wd w0 a0) (lq.setIfInBounds 15 true)=K at hK⊢
     clear hJ2 hS z1 z2 z3 z4 z6 z7
     go_simp
     exact hK _ _ z5 (fun _ _ h=>h) rfl (hq _)
   | iq+16,ho=>simp at ho
 · intro lq aq W ⟨hJ,hs⟩ hr
   obtain⟨z1,z2,z3,z4,z5,z6,z7⟩:=hJ
   have hl:=listed_of hr [0,1,2,3,4,5,6,7,8,9,10,11,12,14,13,15] [] (by simp) (by kernel_rfl) (by rw[z1];decide)
   exact hQ aq W z2 z3 (fun e he=>z4 e (by simpa using he)) (z6 14 5 (hl 14 (by simp)) rfl) (z6 15 6 (hl 15 (by simp)) rfl) z5 (hs.2.2 (hl 10 (by simp)))
end Go.Proofs.Ytjhapeidafbncaa
