/- Part 8 of the walks that the proof leans on. -/
import Derived.Test.YthelolpogdcmhaaGreatQx7
import Derived.Test.YthelolpogdcmhaaGreatQx6
import Derived.Laws.AppendOwnNone
import Derived.Test.YthelolpogdcmhaaGreatQx2
import Derived.Test.YthelolpogdcmhaaGreatQx3
import Derived.Test.YthelolpogdcmhaaGreatQx4
import Derived.Test.YthelolpogdcmhaaGreatQx1
import Derived.Deep.RegionHeld3
import Derived.Deep.DeepCutAuto
import Derived.BigRegion
set_option maxRecDepth 100000
set_option maxHeartbeats 16000000
namespace Go.Proofs.YthelolpogdcmhaaGreat
open Go.RowKit
def insQ (Q:QD) (j:Nat) (id:Int) (sg:Int×Int×Int×Int):QD where
 m:=Q.m+1
 N:=Q.N
 I:=fun i=>if i<j then Q.I i else if i=j then id else Q.I (i-1)
 S:=fun i=>if i<j then Q.S i else if i=j then sg else Q.S (i-1)
 X:=Q.X
 Y:=Q.Y
 Z:=Q.Z
 T:=Q.T
 L:=Q.L
 E:=Q.E
def canL (Q:QD) (x y s:Int):List Int:=idL Q (flQ Q (List.range Q.m) x y s)
theorem insQ_lt {Q:QD} {j:Nat} {id:Int} {sg:Int×Int×Int×Int} {i:Nat} (h:i<j):(insQ Q j id sg).I i=Q.I i∧(insQ Q j id sg).S i=Q.S i:=⟨if_pos h,if_pos h⟩
theorem insQ_at (Q:QD) (j:Nat) (id:Int) (sg:Int×Int×Int×Int):(insQ Q j id sg).I j=id∧(insQ Q j id sg).S j=sg:=by
 constructor
 · show(if j<j then _ else if j=j then id else _)=id;rw[if_neg (by omega),if_pos rfl]
 · show(if j<j then _ else if j=j then sg else _)=sg;rw[if_neg (by omega),if_pos rfl]
theorem insQ_gt {Q:QD} {j:Nat} {id:Int} {sg:Int×Int×Int×Int} {i:Nat} (h:j≤i):(insQ Q j id sg).I (i+1)=Q.I i∧(insQ Q j id sg).S (i+1)=Q.S i:=by
 constructor
 · show(if i+1<j then _ else if i+1=j then id else Q.I (i+1-1))=Q.I i;rw[if_neg (by omega),if_neg (by omega),Nat.add_sub_cancel]
 · show(if i+1<j then _ else if i+1=j then sg else Q.S (i+1-1))=Q.S i;rw[if_neg (by omega),if_neg (by omega),Nat.add_sub_cancel]
def canP (Q:QD) (x y s:Int) (c:Nat):List Int:=idL Q (flQ Q (List.range c) x y s)
theorem canP_more (Q:QD) (x y s:Int) (c:Nat):canP Q x y s (c+1)=canP Q x y s c ++(if hitQ Q x y s c=true then[Q.I c] else[]):=by
 unfold canP flQ idL;rw[List.range_succ,List.filter_append,List.map_append];cases h:hitQ Q x y s c<;>simp[h]
theorem canP_ins_lt (Q:QD) (j:Nat) (id:Int) (sg:Int×Int×Int×Int) (x y s:Int):∀c,c≤j→canP (insQ Q j id sg) x y s c=canP Q x y s c
 | 0,_=>rfl
 | c+1,h=>by
  rw[canP_more,canP_more,canP_ins_lt Q j id sg x y s c (by omega)];unfold hitQ;rw[(insQ_lt (Q:=Q) (id:=id) (sg:=sg) (show c<j by omega)).1,(insQ_lt (Q:=Q) (id:=id) (sg:=sg) (show c<j by omega)).2]
def canR (Q:QD) (x y s:Int) (j:Nat):Nat→List Int
 | 0=>[]
 | n+1=>canR Q x y s j n ++(if hitQ Q x y s (j+n)=true then[Q.I (j+n)] else[])
theorem canP_split (Q:QD) (x y s:Int) (j:Nat):∀n,canP Q x y s (j+n)=canP Q x y s j ++canR Q x y s j n
 | 0=>by simp[canR]
 | n+1=>by rw[←Nat.add_assoc,canP_more,canP_split Q x y s j n,canR,List.append_assoc]
def newH (sg:Int×Int×Int×Int) (x y s:Int):Bool:=hitB sg.1 sg.2.1 sg.2.2.1 sg.2.2.2 x y (x+s) (y+s)
theorem canP_ins (Q:QD) (j:Nat) (id:Int) (sg:Int×Int×Int×Int) (x y s:Int):∀n,canP (insQ Q j id sg) x y s (j+1+n)=canP Q x y s j ++((if newH sg x y s=true then[id] else[]) ++canR Q x y s j n)
 | 0=>by
  rw[show j+1+0=j+1 from rfl,canP_more,canP_ins_lt Q j id sg x y s j (Nat.le_refl _),(insQ_at Q j id sg).1];unfold hitQ newH;rw[(insQ_at Q j id sg).2]
  simp[canR]
 | n+1=>by
  rw[←Nat.add_assoc,canP_more,canP_ins Q j id sg x y s n,canR];unfold hitQ;rw[show j+1+n=(j+n)+1 by omega,(insQ_gt (Q:=Q) (id:=id) (sg:=sg) (show j≤j+n by omega)).1,(insQ_gt (Q:=Q) (id:=id) (sg:=sg) (show j≤j+n by omega)).2];simp only[List.append_assoc]
theorem canL_ins {Q:QD} {j:Nat} (hj:j≤Q.m) (id:Int) (sg:Int×Int×Int×Int) (x y s:Int):∃A B,canL Q x y s=A ++B∧canL (insQ Q j id sg) x y s=A ++((if newH sg x y s=true then[id] else[]) ++B)∧A=canP Q x y s j∧B=canR Q x y s j (Q.m-j):=by
 refine⟨_,_,?_,?_,rfl,rfl⟩
 · have h:=canP_split Q x y s j (Q.m-j);rw[show j+(Q.m-j)=Q.m by omega] at h;exact h
 · have h:=canP_ins Q j id sg x y s (Q.m-j);rw[show j+1+(Q.m-j)=Q.m+1 by omega] at h;exact h
theorem canP_mem {Q:QD} {x y s:Int} {c:Nat} {z:Int} (h:z∈canP Q x y s c):∃i,i<c∧z=Q.I i:=by
 unfold canP flQ idL at h;obtain⟨i,h1,rfl⟩:=List.mem_map.1 h;exact⟨i,List.mem_range.1 (List.mem_filter.1 h1).1,rfl⟩
theorem canR_mem {Q:QD} {x y s:Int} {j:Nat} {z:Int}:∀{n},z∈canR Q x y s j n→∃i,j≤i∧i<j+n∧z=Q.I i
 | 0,h=>by simp[canR] at h
 | n+1,h=>by
  rw[canR,List.mem_append] at h
  rcases h with h | h
  · obtain⟨i,h1,h2,h3⟩:=canR_mem h;exact⟨i,h1,by omega,h3⟩
  · split at h
    · simp at h
      exact⟨j+n,by omega,by omega,h⟩
    · simp at h
def riseI (Q:QD):Prop:=∀i,0<i→i<Q.m→Q.I (i-1)<Q.I i
theorem rise_lt {Q:QD} (h:riseI Q):∀(k i:Nat),i+k+1<Q.m→Q.I i<Q.I (i+k+1)
 | 0,i,hi=>by have:=h (i+1) (by omega) hi;simpa using this
 | k+1,i,hi=>by
  have h1:=rise_lt h k i (by omega);have h2:=h (i+k+1+1) (by omega) (by omega);rw[Nat.add_sub_cancel] at h2;show Q.I i<Q.I (i+k+1+1)
  omega
theorem rise_of {Q:QD} (h:itsB Q=true):riseI Q:=fun i h0 hi=>(of_decide_eq_true ((of_decide_eq_true h).2 i hi)).2.2 h0
def wiO (A B:List Int) (x:Int) (c:Nat):List Int:=if c≤A.length then A.take c else A ++x::B.take (c-A.length)
theorem wiO_lt {A B:List Int} {x y:Int} {c:Nat} (h:c<A.length) (hy:(A ++B)[c]? =some y):wiO A B x (c+1)=wiO A B x c ++[y]:=by
 unfold wiO;rw[if_pos (by omega),if_pos (by omega),List.take_add_one];rw[List.getElem?_append_left h] at hy;rw[hy]
 rfl
theorem wiO_at {A B:List Int} {x y:Int} (hy:(A ++B)[A.length]? =some y):wiO A B x (A.length+1)=wiO A B x A.length ++[x] ++[y]:=by
 unfold wiO;rw[if_neg (by omega),if_pos (by omega),Nat.add_sub_cancel_left,List.take_length];rw[List.getElem?_append_right (Nat.le_refl _),Nat.sub_self] at hy;cases B with
 | nil=>simp at hy
 | cons b B=>
  simp at hy
  subst hy
  simp
theorem wiO_gt {A B:List Int} {x y:Int} {c:Nat} (h:A.length<c) (hy:(A ++B)[c]? =some y):wiO A B x (c+1)=wiO A B x c ++[y]:=by
 unfold wiO;rw[if_neg (by omega),if_neg (by omega),show c+1-A.length=c-A.length+1 by omega,List.take_add_one];rw[List.getElem?_append_right (by omega)] at hy;rw[hy]
 simp
theorem wiO_len (A B:List Int) (x:Int) (c:Nat):(wiO A B x c).length≤c+1:=by
 unfold wiO
 split
 · rw[List.length_take];omega
 · simp;omega
theorem intsMore {w:World} {base n:Nat} {v:Value} {L M:List Int} {y:Int} (h:w.ownsRow base 2 1 v (n+1) (L.map (Value.int .i64) ++[.int .i64 y])) (hn:L.length=n) (hM:M=L ++[y]):w.ownsRow base 2 1 v M.length (M.map (Value.int .i64)):=by
 subst hM;subst hn;rw[List.length_append,List.map_append];exact h
theorem l7WithL_any (ao:Option Addr) (cap:Nat) (A B:List Int) (x:Int) (hm:(A ++B).length≤1048576) (hA:∀z∈A,z<x) (hB0:∀z∈B,x<z) (w:World) (hS:NoIn w ao (A ++B).length (fun i=>(A ++B).getD i 0)):Calls Tryz.prog 91 #[.slice ao (A ++B).length cap,.int .i64 x] w (fun r w' =>∃v,r= .returned v∧w'.ownsRow w.heap.size 2 1 v (A ++x::B).length ((A ++x::B).map (Value.int .i64))∧Below w.heap.size w w'):=by
 obtain⟨i0,hi,hz0,hz1,hz2⟩:=info_parts Tryz.infoNo;have HA:Hid (∀z∈A,z<x):=hA;have HB0:Hid (∀z∈B,x<z):=hB0;have hAB:A.length+B.length=(A ++B).length:=by simp
 obtain⟨m,hmm⟩:∃m,(A ++B).length=m:=⟨_,rfl⟩;have HS:Hid (NoIn w ao m (fun i=>(A ++B).getD i 0)):=by rw[←hmm];exact hS
 have HM:Hid ((A ++B).length=m):=hmm;rw[hmm] at hm hAB⊢;clear hA hB0 hS hmm;have hmI:(m:Int)≤1048576:=by omega
 have HO0:(w.alloc (.cells #[] 2)).ownsRow w.heap.size 2 1 (.slice (some ⟨w.heap.size,0,none⟩) 0 0) 0 []:=World.ownsRow_made w #[] 0 (Nat.le_refl _) (by decide) rfl;have HBB:Below w.heap.size w (w.alloc (.cells #[] 2)):=(Below.refl _ w).alloc (Nat.le_refl _) _;have hz:wiO A B x 0=[]:=by unfold wiO;rw[if_pos (Nat.zero_le _)];rfl
 go_enter Tryz.func91,Tryz.ntmps91
 go_wp2_with fail
 go_loopw [5,6,7] (fun o d i wr=>∃c:Nat,c≤m∧i= .int .i64 c∧d= .bool (decide (A.length<c))∧wr.ownsRow w.heap.size 2 1 o (wiO A B x c).length ((wiO A B x c).map (Value.int .i64))∧Below w.heap.size w wr) (fun _ _ i _=>m-(intOf i).toNat)
 case atStart=>exact⟨0,by omega,rfl,by simp,by rw[hz];exact HO0,HBB⟩
 case round=>
  clear HO0 HBB hz;obtain⟨c,hc,rfl,rfl,HO,HB⟩:=hrel;have hwl:=wiO_len A B x c;obtain⟨n1,hn1⟩:∃n1,(wiO A B x c).length=n1:=⟨_,rfl⟩;have HN1:Hid ((wiO A B x c).length=n1):=hn1;rw[hn1] at HO hwl;clear hn1
  by_cases hcm:c<m
  · obtain⟨A1,off,rfl,hA,hcell⟩:=HS.out.step HB c hcm;have hcI:(c:Int)<m:=by omega
    obtain⟨y,hy⟩:∃y,(A ++B)[c]? =some y:=⟨_,List.getElem?_eq_getElem (by rw[HM.out];exact hcm)⟩;have hgd:(A ++B).getD c 0=y:=by rw[List.getD_eq_getElem?_getD,hy];rfl
    have HY:Hid ((A ++B)[c]? =some y):=hy;replace hcell:wr.cell? ⟨A1,off+c,none⟩=some (.int .i64 y):=by rw[←hgd];exact hcell
    clear hgd hy
    rcases Nat.lt_trichotomy c A.length with h1 | h1 | h1
    · have hd:decide (A.length<c)=false:=decide_eq_false (by omega);have hx:y<x:=HA.out y (by have h:=HY.out;rw[List.getElem?_append_left h1] at h;exact List.mem_of_getElem? h);have hne:¬(y=x):=by omega
      rw[hd];clear hd
      go_wp2_with (at_builtin;refine wpList_append_own _ rfl _ _ 32 rfl w.heap.size 2 i0 (.int .i64 0) 1 8 Tryz.underlying32 hi hz0 hz1 hz2 rfl (by decide) _ _ _ rfl (ownA_step HO ((Below.refl _ _).alloc (Nat.le_refl _) _)) ⟨wr.heap.size,0,none⟩ 1 1 [.int .i64 (y)] rfl rfl (cell_one_new _ _ _) (one_cellQ _) (by unfold maxLen;omega) (by omega) (by have:=HB.size;simp;omega) ?_)
      intro v1 w1 hown1 hgrow1 _;have HBN:Below w.heap.size w w1:=(HB.alloc HB.size _).grown hgrow1 (by have:=HB.size;simp;omega) (fun k hk=>(HO.lt k hk).1);have HN:=intsMore (M:=wiO A B x (c+1)) hown1 HN1.out (wiO_lt h1 HY.out);clear HO HB hown1 hgrow1 hcell hx hne;go_wp2;go_roundw
      case rel=>exact⟨c+1,by omega,by go_num,congrArg Value.bool (decide_eq_false (by omega)).symm,HN,HBN⟩
      case measure=>simp[intOf];omega
    · have hd:decide (A.length<c)=false:=decide_eq_false (by omega);have hx:x<y:=HB0.out y (by have h:=HY.out;rw[h1,List.getElem?_append_right (Nat.le_refl _)] at h;exact List.mem_of_getElem? h);have hne:¬(y=x):=by omega
      have H1:Hid (c=A.length):=h1;rw[hd];clear hd h1
      go_wp2_with (at_builtin;refine wpList_append_own _ rfl _ _ 32 rfl w.heap.size 2 i0 (.int .i64 0) 1 8 Tryz.underlying32 hi hz0 hz1 hz2 rfl (by decide) _ _ _ rfl (ownA_step HO ((Below.refl _ _).alloc (Nat.le_refl _) _)) ⟨wr.heap.size,0,none⟩ 1 1 [.int .i64 (x)] rfl rfl (cell_one_new _ _ _) (one_cellQ _) (by unfold maxLen;omega) (by omega) (by have:=HB.size;simp;omega) ?_)
      intro v1 w1 hown1 hgrow1 _;have HBN:Below w.heap.size w w1:=(HB.alloc HB.size _).grown hgrow1 (by have:=HB.size;simp;omega) (fun k hk=>(HO.lt k hk).1);have HN:=intsMore (M:=wiO A B x c ++[x]) hown1 HN1.out rfl;have HN1' :Hid ((wiO A B x c ++[x]).length=n1+1):=by show _=_;rw[List.length_append,HN1.out];rfl
      rw[HN1'.out] at HN;clear HO HB hown1 hgrow1;have hcell1:w1.cell? ⟨A1,off+c,none⟩=some (.int .i64 y):=by
       obtain⟨A',off',e',_,hc'⟩:=HS.out.step HBN c hcm;cases e';rw[hc'];show some (Value.int _ ((A ++B).getD c 0))=_;rw[List.getD_eq_getElem?_getD,HY.out]
       rfl
      clear hcell
      go_wp2_with (at_builtin;refine wpList_append_own _ rfl _ _ 32 rfl w.heap.size 2 i0 (.int .i64 0) 1 8 Tryz.underlying32 hi hz0 hz1 hz2 rfl (by decide) _ _ _ rfl (ownA_step HN ((Below.refl _ _).alloc (Nat.le_refl _) _)) ⟨w1.heap.size,0,none⟩ 1 1 [.int .i64 (y)] rfl rfl (cell_one_new _ _ _) (one_cellQ _) (by unfold maxLen;omega) (by omega) (by have:=HBN.size;simp;omega) ?_)
      intro v2 w2 hown2 hgrow2 _;have HBN2:Below w.heap.size w w2:=(HBN.alloc HBN.size _).grown hgrow2 (by have:=HBN.size;simp;omega) (fun k hk=>(HN.lt k hk).1);have HN2:=intsMore (L:=wiO A B x c ++[x]) (M:=wiO A B x (c+1)) (y:=y) (by rw[List.map_append,List.append_assoc];exact hown2) HN1'.out (show wiO A B x (c+1)=wiO A B x c ++[x] ++[y] from by have h1:=H1.out;subst h1;exact wiO_at HY.out);clear HN HBN hown2 hgrow2 hcell1 hx hne;go_wp2;go_roundw
      case rel=>exact⟨c+1,by omega,by go_num,congrArg Value.bool (decide_eq_true (by have:=H1.out;omega)).symm,HN2,HBN2⟩
      case measure=>simp[intOf];omega
    · have hd:decide (A.length<c)=true:=decide_eq_true h1;have hx:x<y:=HB0.out y (by have h:=HY.out;rw[List.getElem?_append_right (by omega)] at h;exact List.mem_of_getElem? h);have hne:¬(y=x):=by omega
      rw[hd];clear hd
      go_wp2_with (at_builtin;refine wpList_append_own _ rfl _ _ 32 rfl w.heap.size 2 i0 (.int .i64 0) 1 8 Tryz.underlying32 hi hz0 hz1 hz2 rfl (by decide) _ _ _ rfl (ownA_step HO ((Below.refl _ _).alloc (Nat.le_refl _) _)) ⟨wr.heap.size,0,none⟩ 1 1 [.int .i64 (y)] rfl rfl (cell_one_new _ _ _) (one_cellQ _) (by unfold maxLen;omega) (by omega) (by have:=HB.size;simp;omega) ?_)
      intro v1 w1 hown1 hgrow1 _;have HBN:Below w.heap.size w w1:=(HB.alloc HB.size _).grown hgrow1 (by have:=HB.size;simp;omega) (fun k hk=>(HO.lt k hk).1);have HN:=intsMore (M:=wiO A B x (c+1)) hown1 HN1.out (wiO_gt h1 HY.out);clear HO HB hown1 hgrow1 hcell hx hne;go_wp2;go_roundw
      case rel=>exact⟨c+1,by omega,by go_num,congrArg Value.bool (decide_eq_true (by omega)).symm,HN,HBN⟩
      case measure=>simp[intOf];omega
  · obtain rfl:c=m:=by omega
    by_cases hjm:A.length<c
    · have hd:decide (A.length<c)=true:=decide_eq_true hjm;have hO:wiO A B x c=A ++x::B:=by unfold wiO;rw[if_neg (by omega),List.take_of_length_le (by omega)]
      rw[hd];have HF:Hid (wr.ownsRow w.heap.size 2 1 u5 (A ++x::B).length ((A ++x::B).map (Value.int .i64))):=by rw[←hO,HN1.out];exact HO
      clear hd HO;go_wp2;go_ret;exact⟨_,rfl,HF.out,HB⟩
    · have hd:decide (A.length<c)=false:=decide_eq_false hjm;have hBn:Hid (B=[]):=List.eq_nil_of_length_eq_zero (by omega);have hO:Hid (wiO A B x c=A):=by show _=_;unfold wiO;rw[if_pos (by omega),List.take_of_length_le (by omega)]
      rw[hd];clear hd
      go_wp2_with (at_builtin;refine wpList_append_own _ rfl _ _ 32 rfl w.heap.size 2 i0 (.int .i64 0) 1 8 Tryz.underlying32 hi hz0 hz1 hz2 rfl (by decide) _ _ _ rfl (ownA_step HO ((Below.refl _ _).alloc (Nat.le_refl _) _)) ⟨wr.heap.size,0,none⟩ 1 1 [.int .i64 (x)] rfl rfl (cell_one_new _ _ _) (one_cellQ _) (by unfold maxLen;omega) (by omega) (by have:=HB.size;simp;omega) ?_)
      intro v1 w1 hown1 hgrow1 _;have HBN:Below w.heap.size w w1:=(HB.alloc HB.size _).grown hgrow1 (by have:=HB.size;simp;omega) (fun k hk=>(HO.lt k hk).1);have HN:=intsMore (M:=A ++x::B) hown1 HN1.out (show A ++x::B=wiO A B x c ++[x] from by rw[hO.out,hBn.out]);clear HO HB hown1 hgrow1;go_wp2;go_ret;exact⟨_,rfl,HN,HBN⟩
def MTr (ok:Nat→Prop) (w:World):QT→Int→Int→Int→Value→Value→Prop
 | .leaf l,_,_,_,kv,ev=>kv= .slice none 0 0∧IdV ok w ev l
 | .node K,x,y,s,kv,ev=>IdV ok w ev []∧∃A kc,kv= .slice (some ⟨A,0,none⟩) 4 kc∧A<w.heap.size∧ok A∧∀k,k<4→∃kv' ev',w.cell? ⟨A,k*5,none⟩=some (.int .i64 (kX x (s / 2) k))∧w.cell? ⟨A,k*5+1,none⟩=some (.int .i64 (kY y (s / 2) k))∧w.cell? ⟨A,k*5+2,none⟩=some (.int .i64 (s / 2))∧w.cell? ⟨A,k*5+3,none⟩=some kv' ∧w.cell? ⟨A,k*5+4,none⟩=some ev' ∧MTr ok w (K k) (kX x (s / 2) k) (kY y (s / 2) k) (s / 2) kv' ev'
theorem MTr.keep {ok ok' :Nat→Prop} {w w' :World} (hs:w.heap.size≤w'.heap.size) (hk:∀b,ok b→b<w.heap.size→w'.heap[b]? =w.heap[b]?) (ho:∀b,ok b→b<w.heap.size→ok' b):∀{t:QT} {x y s:Int} {kv ev:Value},MTr ok w t x y s kv ev→MTr ok' w' t x y s kv ev
 | .leaf _,_,_,_,_,_,h=>⟨h.1,h.2.keep hs hk ho⟩
 | .node K,_,_,_,_,_,h=>by
  obtain⟨h1,A,kc,h2,hA,hoA,h3⟩:=h;refine⟨h1.keep hs hk ho,A,kc,h2,Nat.lt_of_lt_of_le hA hs,ho A hoA hA,fun k hk4=>?_⟩;obtain⟨kv',ev',c0,c1,c2,c3,c4,h4⟩:=h3 k hk4;have hc:∀j,w'.cell? ⟨A,j,none⟩=w.cell? ⟨A,j,none⟩:=fun j=>World.cell?_of_block (w:=w) (a:=⟨A,j,none⟩) (hk A hoA hA);exact⟨kv',ev',(hc _).trans c0,(hc _).trans c1,(hc _).trans c2,(hc _).trans c3,(hc _).trans c4,MTr.keep hs hk ho (t:=K k) h4⟩
theorem MTr.step {ok:Nat→Prop} {w w' :World} (hB:Below w.heap.size w w') {t:QT} {x y s:Int} {kv ev:Value} (h:MTr ok w t x y s kv ev):MTr ok w' t x y s kv ev:=MTr.keep hB.size (fun b _ hb=>hB.block b hb) (fun _ h _=>h) h
def kd5 (x y h:Int) (kv ev:Nat→Value) (k:Nat):List Value:=[.int .i64 (kX x h k),.int .i64 (kY y h k),.int .i64 h,kv k,ev k]
def kdL (x y h:Int) (kv ev:Nat→Value) (n:Nat):List Value:=(List.range n).flatMap (kd5 x y h kv ev)
theorem kdL_more (x y h:Int) (kv ev:Nat→Value) (n:Nat):kdL x y h kv ev (n+1)=kdL x y h kv ev n ++kd5 x y h kv ev n:=by
 unfold kdL;rw[List.range_succ,List.flatMap_append]
 simp
theorem kdL_len (x y h:Int) (kv ev:Nat→Value):∀n,(kdL x y h kv ev n).length=n*5
 | 0=>rfl
 | n+1=>by rw[kdL_more,List.length_append,kdL_len x y h kv ev n];simp[kd5];omega
theorem kdL_at (x y h:Int) (kv ev:Nat→Value):∀n k j,k<n→j<5→(kdL x y h kv ev n)[k*5+j]? =(kd5 x y h kv ev k)[j]?
 | 0,k,j,hk,_=>absurd hk (by omega)
 | n+1,k,j,hk,hj=>by
  rw[kdL_more]
  rcases Nat.lt_or_ge k n with h1 | h1
  · rw[List.getElem?_append_left (by rw[kdL_len];omega)];exact kdL_at x y h kv ev n k j h1 hj
  · obtain rfl:k=n:=by omega
    rw[List.getElem?_append_right (by rw[kdL_len];omega),kdL_len,Nat.add_sub_cancel_left]
theorem kdL_same (x y h:Int) {kv ev kv' ev' :Nat→Value} {n:Nat} (h1:∀k,k<n→kv' k=kv k) (h2:∀k,k<n→ev' k=ev k):kdL x y h kv' ev' n=kdL x y h kv ev n:=by
 induction n with
 | zero=>rfl
 | succ n ih=>rw[kdL_more,kdL_more,ih (fun k hk=>h1 k (by omega)) (fun k hk=>h2 k (by omega)),kd5,kd5,h1 n (by omega),h2 n (by omega)]
def setV (f:Nat→Value) (c:Nat) (u:Value) (i:Nat):Value:=if i=c then u else f i
theorem kdL_set (x y h:Int) (kv ev:Nat→Value) (n:Nat) (a b:Value):kdL x y h (setV kv n a) (setV ev n b) (n+1)=kdL x y h kv ev n ++[.int .i64 (kX x h n),.int .i64 (kY y h n),.int .i64 h,a,b]:=by
 rw[kdL_more,kdL_same x y h (kv:=kv) (ev:=ev) (kv' :=setV kv n a) (ev' :=setV ev n b) (fun k hk=>by unfold setV;rw[if_neg (by omega)]) (fun k hk=>by unfold setV;rw[if_neg (by omega)])]
 simp[kd5,setV]
theorem MTr.node_of {ok:Nat→Prop} {w:World} {base:Nat} (hok:∀b,base≤b→ok b) {K:Nat→QT} {x y s:Int} {v ev:Value} {kv' ev' :Nat→Value} (h0:IdV ok w ev []) (h:w.ownsRow base 62 5 v 4 (kdL x y (s / 2) kv' ev' 4)) (hk:∀k,k<4→MTr ok w (K k) (kX x (s / 2) k) (kY y (s / 2) k) (s / 2) (kv' k) (ev' k)):MTr ok w (.node K) x y s v ev:=by
 rcases h.2 with ⟨_,h1⟩ | ⟨g,cap,cur,h1,h2,h3,h4,h5,h6⟩
 · omega
 · subst h1;refine⟨h0,g,cap,rfl,(Array.getElem?_eq_some_iff.1 h3).1,hok g h2,fun k hk4=>⟨kv' k,ev' k,?_,?_,?_,?_,?_,hk k hk4⟩⟩
   all_goals
    refine(ownQ_cell h (i:=_) ?_).1
   · exact kdL_at x y (s / 2) kv' ev' 4 k 0 hk4 (by omega)
   · exact kdL_at x y (s / 2) kv' ev' 4 k 1 hk4 (by omega)
   · exact kdL_at x y (s / 2) kv' ev' 4 k 2 hk4 (by omega)
   · exact kdL_at x y (s / 2) kv' ev' 4 k 3 hk4 (by omega)
   · exact kdL_at x y (s / 2) kv' ev' 4 k 4 hk4 (by omega)
theorem MTr.vals {ok:Nat→Prop} {w:World} {t:QT} {x y s:Int} {kv ev:Value} (h:MTr ok w t x y s kv ev):∃ko kn kc eo en ec,kv= .slice ko kn kc∧ev= .slice eo en ec:=by
 cases t with
 | leaf l=>
  obtain⟨h1,ao,c,h2,_⟩:=h;exact⟨_,_,_,_,_,_,h1,h2⟩
 | node K=>
  obtain⟨⟨ao,c,h2,_⟩,A,kc,h1,_⟩:=h;exact⟨_,_,_,_,_,_,h1,h2⟩
theorem new_cells (w:World) (vs:List Value) (t:TypeId):∀j v,vs[j]? =some v→(w.alloc (.cells vs.toArray t)).cell? ((⟨w.heap.size,0,none⟩:Addr).add j)=some v:=by
 intro j v hj;rw[Addr.add_lit,Nat.zero_add];exact(Blk.new w vs t rfl).c j hj
theorem one5 (a b c:Int) (ao bo:Option Addr) (m n k l:Nat):∀u∈[Value.int .i64 a,.int .i64 b,.int .i64 c,.slice ao m k,.slice bo n l],u.oneCell' =true:=by
 intro u hu;simp only[List.mem_cons,List.not_mem_nil,or_false] at hu
 rcases hu with rfl | rfl | rfl | rfl | rfl<;>rfl
theorem wpList_append_ids {ops:Array Oper} {rest:List Oper} {o:Oper} {a:Act} {w:World} {Q:Exit→Act→World→Prop} (hgd:o.guard=none) (s x:Operand) (ho:o.op= .call {callee:= .builtin .append,args:=#[s,x],argTypes:=#[32,32]}) (base:Nat) (v:Value) (hs:a.eval s=v) (hown:w.ownsRow base 2 1 v 0 []) (l:List Int) (ao:Option Addr) (c:Nat) (hx:a.eval x= .slice ao l.length c) (hN:NoIn w ao l.length (fun i=>l.getD i 0)) (h0:ao=none→c=0) (hm:l.length≤1048576) (hb:base≤w.heap.size)
 (h:∀v' w',w'.ownsRow base 2 1 v' l.length (l.map (Value.int .i64))→w.grownBy w' v.ownBlock→(v'.ownBlock=v.ownBlock∨v'.ownBlock=some w.heap.size)→wpList Tryz.prog ops Q rest (a.put o.dst v') w'):wpList Tryz.prog ops Q (o::rest) a w:=by
 obtain⟨i0,hi,hz0,hz1,hz2⟩:=info_parts Tryz.infoNo;cases ao with
 | none=>
  have hl:l=[]:=by
   cases l with
   | nil=>rfl
   | cons z l=>obtain⟨A,off,e,_⟩:=hN 0 (by simp);cases e
  subst hl;obtain rfl:=h0 rfl;exact wpList_append_own_none hgd s x 32 ho base 2 i0 1 Tryz.underlying32 hi v 0 [] hs hown hx (h v w hown ⟨rfl,rfl,rfl,Nat.le_refl _,fun _ _ _=>rfl⟩ (.inl rfl))
 | some ad=>
  refine wpList_append_own_at w hgd s x 32 ho base 2 i0 (.int .i64 0) 1 8 Tryz.underlying32 hi hz0 hz1 hz2 rfl (by decide) v 0 [] hs hown ad l.length c (l.map (Value.int .i64)) hx (by simp) (fun j u hj=>?_) (fun u hu=>?_) (by unfold maxLen;omega) (by omega) hb (fun v' w' r1 r2 _ r4=>?_)
  · have hjl:j<l.length:=by have:=(List.getElem?_eq_some_iff.1 hj).1;simpa using this
    obtain⟨A,off,e,hA,hc⟩:=hN j hjl;cases e;rw[Addr.add_lit,hc];rw[List.getElem?_map,List.getElem?_eq_getElem hjl] at hj;simp only[Option.map_some,Option.some.injEq] at hj;rw[←hj]
    simp[List.getD_eq_getElem?_getD,hjl]
  · obtain⟨z,_,rfl⟩:=List.mem_map.1 hu
    rfl
  · rw[Nat.zero_add,List.nil_append] at r1;exact h v' w' r1 r2 r4
theorem Tryz.infoBlk:(Tryz.prog.info? 102).map (fun i=>(i.zero,i.size,i.bytes))=some (some (.agg #[.int .i64 0,.int .i64 0,.int .i64 0,.bool false,.slice none 0 0]),5,56):=by kernel_rfl
theorem l13Seg_any (Q:QD) (ao:Option Addr) (cap i0:Nat) (hm:Q.m≤1048576) (hi0:i0<Q.m) (hne:∀k,k<i0→Q.I k≠Q.I i0) (w:World) (hS:ItIn Q w ao (List.range Q.m)):Calls Tryz.prog 92 #[.slice ao Q.m cap,.int .i64 (Q.I i0)] w (VP (Sg (Q.S i0).1 (Q.S i0).2.1 (Q.S i0).2.2.1 (Q.S i0).2.2.2) w):=by
 have B0:Blk (w.alloc (.cells #[.int .i64 0,.int .i64 0,.int .i64 0,.int .i64 0] 38)) w.heap.size [.int .i64 0,.int .i64 0,.int .i64 0,.int .i64 0]:=Blk.new w [.int .i64 0,.int .i64 0,.int .i64 0,.int .i64 0] 38 rfl;have HB:Below w.heap.size w (w.alloc (.cells #[.int .i64 0,.int .i64 0,.int .i64 0,.int .i64 0] 38)):=(Below.refl _ w).alloc (Nat.le_refl _) _;have HS:Hid (ItIn Q w ao (List.range Q.m)):=hS;have HNE:Hid (∀k,k<i0→Q.I k≠Q.I i0):=hne;have hmI:(Q.m:Int)≤1048576:=by omega
 clear hS hne
 go_enter Tryz.func92,Tryz.ntmps92
 go_upto_region 1 with fail;generalize (w.alloc (.cells #[.int .i64 0,.int .i64 0,.int .i64 0,.int .i64 0] 38))=W1 at *;go_wp2_with fail
 go_loopw [5] (fun i wr=>∃c:Nat,c≤i0∧i= .int .i64 c∧wr=W1) (fun i _=>i0+1-(intOf i).toNat)
 case atStart=>exact⟨0,by omega,rfl,by first | rfl | trivial⟩
 case round=>
  obtain⟨c,hc,rfl,rfl⟩:=hrel;have hcI:(c:Int)<Q.m:=by omega
  obtain⟨A,off,rfl,hA,c0,c1,c2,c3,c4⟩:=HS.out.step HB c c (by simp[show c<Q.m by omega])
  by_cases hci:c<i0
  · have hxe:(Q.I c==Q.I i0)=false:=by simpa using HNE.out c hci
    go_wp2;go_roundw
    case rel=>exact⟨c+1,by omega,by go_num,by first | rfl | trivial⟩
    case measure=>simp[intOf];omega
  · obtain rfl:c=i0:=by omega
    have z0:=B0.c 0 rfl;have z1:=B0.c 1 rfl;have z2:=B0.c 2 rfl;have z3:=B0.c 3 rfl;have y0:=B0.f 0 rfl;have y1:=B0.f 1 rfl;have y2:=B0.f 2 rfl;have y3:=B0.f 3 rfl;have BF:Hid (Blk ((((wr.setCell ⟨w.heap.size,0,none⟩ (.int .i64 (Q.S c).1)).setCell ⟨w.heap.size,1,none⟩ (.int .i64 (Q.S c).2.1)).setCell ⟨w.heap.size,2,none⟩ (.int .i64 (Q.S c).2.2.1)).setCell ⟨w.heap.size,3,none⟩ (.int .i64 (Q.S c).2.2.2)) w.heap.size [.int .i64 (Q.S c).1,.int .i64 (Q.S c).2.1,.int .i64 (Q.S c).2.2.1,.int .i64 (Q.S c).2.2.2]):=(((B0.setI 0 (by decide) _).setI 1 (by simp) _).setI 2 (by simp) _).setI 3 (by simp) _;clear B0;go_wp2;have r0:=BF.out.c 0 rfl;have r1:=BF.out.c 1 rfl;have r2:=BF.out.c 2 rfl;have r3:=BF.out.c 3 rfl;refine bodyPost_ret (v:=Sg (Q.S c).1 (Q.S c).2.1 (Q.S c).2.2.1 (Q.S c).2.2.2) (by simp[results,Tryz.results92,go_sem,r0,r1,r2,r3]) rfl ?_;exact⟨rfl,(((HB.setCell (Nat.le_refl _) _).setCell (Nat.le_refl _) _).setCell (Nat.le_refl _) _).setCell (Nat.le_refl _) _⟩
structure WB where
 x:Int
 y:Int
 s:Int
 sp:Bool
 l:List Int
def catW (f:Nat→List WB):Nat→List WB
 | 0=>[]
 | k+1=>catW f k ++f k
def wrT:QT→Int→Int→Int→List WB
 | .leaf l,x,y,s=>[⟨x,y,s,false,l⟩]
 | .node K,x,y,s=>⟨x,y,s,true,[]⟩::catW (fun k=>wrT (K k) (kX x (s / 2) k) (kY y (s / 2) k) (s / 2)) 4
def wb5 (q:WB) (iv:Value):List Value:=[.int .i64 q.x,.int .i64 q.y,.int .i64 q.s,.bool q.sp,iv]
def wbCs:List WB→List Value→List Value
 | q::L,iv::I=>wb5 q iv ++wbCs L I
 | _,_=>[]
def IvP (ok:Nat→Prop) (w:World):List WB→List Value→Prop
 | [],[]=>True
 | q::L,iv::I=>IdV ok w iv q.l∧IvP ok w L I
 | _,_=>False
theorem IvP.len {ok:Nat→Prop} {w:World}:∀{L:List WB} {I:List Value},IvP ok w L I→L.length=I.length
 | [],[],_=>rfl
 | _::L,_::I,h=>congrArg (· +1) (IvP.len (L:=L) (I:=I) h.2)
theorem IvP.app {ok:Nat→Prop} {w:World}:∀{L L' :List WB} {I I' :List Value},IvP ok w L I→IvP ok w L' I' →IvP ok w (L ++L') (I ++I')
 | [],_,[],_,_,h=>h
 | _::L,_,_::I,_,h,h' =>⟨h.1,IvP.app (L:=L) (I:=I) h.2 h'⟩
theorem IvP.keep {ok ok' :Nat→Prop} {w w' :World} (hs:w.heap.size≤w'.heap.size) (hk:∀b,ok b→b<w.heap.size→w'.heap[b]? =w.heap[b]?) (ho:∀b,ok b→b<w.heap.size→ok' b):∀{L:List WB} {I:List Value},IvP ok w L I→IvP ok' w' L I
 | [],[],_=>trivial
 | _::L,_::I,h=>⟨h.1.keep hs hk ho,IvP.keep hs hk ho (L:=L) (I:=I) h.2⟩
theorem wbCs_app {ok:Nat→Prop} {w:World}:∀{L L' :List WB} {I I' :List Value},IvP ok w L I→wbCs (L ++L') (I ++I')=wbCs L I ++wbCs L' I'
 | [],_,[],_,_=>rfl
 | _::L,_,_::I,_,h=>by
  show wb5 _ _ ++wbCs (L ++_) (I ++_)=(wb5 _ _ ++wbCs L I) ++_;rw[wbCs_app (L:=L) (I:=I) h.2,List.append_assoc]
theorem wbCs_one {ok:Nat→Prop} {w:World}:∀{L:List WB} {I:List Value},IvP ok w L I→∀u∈wbCs L I,u.oneCell' =true
 | [],[],_,u,hu=>by simp[wbCs] at hu
 | q::L,iv::I,h,u,hu=>by
  rcases List.mem_append.1 (show u∈wb5 q iv ++wbCs L I from hu) with h1 | h1
  · obtain⟨ao,c,h2,_⟩:=h.1;simp only[wb5,List.mem_cons,List.not_mem_nil,or_false] at h1
    rcases h1 with rfl | rfl | rfl | rfl | rfl
    · rfl
    · rfl
    · rfl
    · rfl
    · rw[h2];rfl
  · exact wbCs_one (L:=L) (I:=I) h.2 u h1
theorem IvP.swap {ok ok' :Nat→Prop} {w w' :World} (hk:∀b,ok b→b<w'.heap.size∧w'.heap[b]? =w.heap[b]?∧ok' b):∀{L:List WB} {I:List Value},IvP ok w L I→IvP ok' w' L I
 | [],[],_=>trivial
 | _::L,_::I,h=>by
  refine⟨?_,IvP.swap hk (L:=L) (I:=I) h.2⟩;obtain⟨ao,c,h1,h2,h3,h4⟩:=h.1;refine⟨ao,c,h1,fun i hi=>?_,h3,fun A o sp e=>⟨(hk A (h4 A o sp e).1).2.2,(hk A (h4 A o sp e).1).1⟩⟩;obtain⟨A,o,e,hA,hc⟩:=h2 i hi;have h5:=hk A (h4 A o none e).1;exact⟨A,o,e,h5.1,(World.cell?_of_block (w:=w) (a:=⟨A,o+i,none⟩) h5.2.1).trans hc⟩
theorem wrT_pos:∀(t:QT) (x y s:Int),0<(wrT t x y s).length
 | .leaf _,_,_,_=>by simp[wrT]
 | .node K,_,_,_=>by simp[wrT]
theorem catW_len (f:Nat→List WB) {k:Nat} (hk:k<4):(catW f k).length+(f k).length≤(catW f 4).length:=by
 rcases(show k=0∨k=1∨k=2∨k=3 by omega) with h | h | h | h<;>subst h<;>simp[catW]<;>omega
theorem ownQ_mono2 {w:World} {b b' n:Nat} {e:TypeId} {size:Nat} {v:Value} {xs:List Value} (h:w.ownsRow b' e size v n xs) (hb:b≤b'):w.ownsRow b e size v n xs:=by
 rcases h with ⟨h0,h1 | ⟨g,cap,cur,h1,h2,h3⟩⟩
 · exact⟨h0,.inl h1⟩
 · exact⟨h0,.inr ⟨g,cap,cur,h1,by omega,h3⟩⟩
def WrP (ok:Nat→Prop) (L:List WB) (w:World) (r:Ending) (w' :World):Prop:=∃v I,r= .returned v∧w'.ownsRow w.heap.size 102 5 v L.length (wbCs L I)∧IvP ok w L I∧Below w.heap.size w w'
theorem info_blk:∃i0,Tryz.prog.info? 102=some i0∧i0.zero=some (.agg #[.int .i64 0,.int .i64 0,.int .i64 0,.bool false,.slice none 0 0])∧i0.size=5∧i0.bytes=56:=by
 obtain⟨i,hi,hz⟩:=Option.map_eq_some_iff.1 Tryz.infoBlk;simp only[Prod.mk.injEq] at hz;exact⟨i,hi,hz.1,hz.2.1,hz.2.2⟩
theorem l13Write_any (t:QT):∀(ok:Nat→Prop) (x y s:Int) (kv ev:Value) (w:World),(wrT t x y s).length≤1048576→MTr ok w t x y s kv ev→Calls Tryz.prog 59 #[.agg #[.int .i64 x,.int .i64 y,.int .i64 s,kv,ev]] w (WrP ok (wrT t x y s) w):=by
 obtain⟨i0,hi0,hz0,hz1,hz2⟩:=info_blk
 induction t with
 | leaf l=>
  intro ok x y s kv ev w _ hM;obtain⟨rfl,hI⟩:=hM;have hI2:=hI;obtain⟨eo,ec,rfl,_⟩:=hI2;have HI:Hid (IdV ok w (.slice eo l.length ec) l):=hI;obtain⟨en,hen⟩:∃en,l.length=en:=⟨_,rfl⟩;have HEN:Hid (l.length=en):=hen;rw[hen];clear hen hI;have B0:Blk (w.alloc (.cells #[.int .i64 x,.int .i64 y,.int .i64 s,.slice none 0 0,.slice eo en ec] 62)) w.heap.size [.int .i64 x,.int .i64 y,.int .i64 s,.slice none 0 0,.slice eo en ec]:=Blk.new w [.int .i64 x,.int .i64 y,.int .i64 s,.slice none 0 0,.slice eo en ec] 62 rfl;have HB:Below w.heap.size w (w.alloc (.cells #[.int .i64 x,.int .i64 y,.int .i64 s,.slice none 0 0,.slice eo en ec] 62)):=(Below.refl _ w).alloc (Nat.le_refl _) _
  go_enter Tryz.func59,Tryz.ntmps59
  go_upto_region 1 with fail;generalize (w.alloc (.cells #[.int .i64 x,.int .i64 y,.int .i64 s,.slice none 0 0,.slice eo en ec] 62))=W1 at *;have m0:=B0.c 0 rfl;have m1:=B0.c 1 rfl;have m2:=B0.c 2 rfl;have m3:=B0.c 3 rfl;have m4:=B0.c 4 rfl;have hw1:=HB.size;go_wp2;go_ret;refine⟨_,[.slice eo en ec],rfl,⟨rfl,.inr ⟨W1.heap.size,1,#[.int .i64 x,.int .i64 y,.int .i64 s,.bool false,.slice eo en ec],rfl,hw1,heap_alloc_new W1 _,Nat.le_refl _,by unfold maxLen;omega,rfl,rfl⟩⟩,⟨by rw[←HEN.out];exact HI.out,trivial⟩,HB.alloc hw1 _⟩
 | node K ih=>
  intro ok x y s kv ev w hn hM;obtain⟨eo,en,ec,rfl⟩:∃eo en ec,ev= .slice eo en ec:=by obtain⟨⟨ao,c,h,_⟩,_⟩:=hM;exact⟨_,_,_,h⟩
  obtain⟨_,A,kc,rfl,hA,_,hk⟩:=hM;have B0:Blk (w.alloc (.cells #[.int .i64 x,.int .i64 y,.int .i64 s,.slice (some ⟨A,0,none⟩) 4 kc,.slice eo en ec] 62)) w.heap.size [.int .i64 x,.int .i64 y,.int .i64 s,.slice (some ⟨A,0,none⟩) 4 kc,.slice eo en ec]:=Blk.new w [.int .i64 x,.int .i64 y,.int .i64 s,.slice (some ⟨A,0,none⟩) 4 kc,.slice eo en ec] 62 rfl;have HB:Below w.heap.size w (w.alloc (.cells #[.int .i64 x,.int .i64 y,.int .i64 s,.slice (some ⟨A,0,none⟩) 4 kc,.slice eo en ec] 62)):=(Below.refl _ w).alloc (Nat.le_refl _) _;have HSZ:Hid ((w.alloc (.cells #[.int .i64 x,.int .i64 y,.int .i64 s,.slice (some ⟨A,0,none⟩) 4 kc,.slice eo en ec] 62)).heap.size=w.heap.size+1):=by show(w.alloc (.cells #[.int .i64 x,.int .i64 y,.int .i64 s,.slice (some ⟨A,0,none⟩) 4 kc,.slice eo en ec] 62)).heap.size=_;simp
  obtain⟨hf,hhf⟩:∃hf,s / 2=hf:=⟨_,rfl⟩;have HT:Hid (wrT (.node K) x y s=((⟨x,y,s,true,[]⟩:WB)::catW (fun k=>wrT (K k) (kX x hf k) (kY y hf k) hf) 4)):=by show wrT (.node K) x y s=_;rw[←hhf];rfl
  rw[HT.out] at hn;have HLN:Hid ((catW (fun k=>wrT (K k) (kX x hf k) (kY y hf k) hf) 4).length+1≤1048576):=hn;rw[hhf] at hk;have HK:Hid (∀k,k<4→∃kv' ev',w.cell? ⟨A,k*5,none⟩=some (.int .i64 (kX x hf k))∧w.cell? ⟨A,k*5+1,none⟩=some (.int .i64 (kY y hf k))∧w.cell? ⟨A,k*5+2,none⟩=some (.int .i64 hf)∧w.cell? ⟨A,k*5+3,none⟩=some kv' ∧w.cell? ⟨A,k*5+4,none⟩=some ev' ∧MTr ok w (K k) (kX x hf k) (kY y hf k) hf kv' ev'):=hk;clear hk hn hhf
  go_enter Tryz.func59,Tryz.ntmps59
  go_upto_region 1 with fail;generalize (w.alloc (.cells #[.int .i64 x,.int .i64 y,.int .i64 s,.slice (some ⟨A,0,none⟩) 4 kc,.slice eo en ec] 62))=W1 at *;have m0:=B0.c 0 rfl;have m1:=B0.c 1 rfl;have m2:=B0.c 2 rfl;have m3:=B0.c 3 rfl;go_wp2_with fail;have HB2:Below (w.heap.size+1) W1 (W1.alloc (.cells #[.int .i64 x,.int .i64 y,.int .i64 s,.bool true,.slice none 0 0] 102)):=(Below.refl _ W1).alloc (Nat.le_of_eq HSZ.out.symm) _;have HO:(W1.alloc (.cells #[.int .i64 x,.int .i64 y,.int .i64 s,.bool true,.slice none 0 0] 102)).ownsRow (w.heap.size+1) 102 5 (.slice (some ⟨W1.heap.size,0,none⟩) 1 1) 1 [.int .i64 x,.int .i64 y,.int .i64 s,.bool true,.slice none 0 0]:=⟨rfl,.inr ⟨W1.heap.size,1,#[.int .i64 x,.int .i64 y,.int .i64 s,.bool true,.slice none 0 0],rfl,Nat.le_of_eq HSZ.out.symm,heap_alloc_new W1 _,Nat.le_refl _,by unfold maxLen;omega,rfl,rfl⟩⟩;clear m0 m1 m2 m3
  go_loopw [3,4] (fun out i wr=>∃(c:Nat) (I:List Value),c≤4∧i= .int .i64 c∧wr.ownsRow (w.heap.size+1) 102 5 out ((⟨x,y,s,true,[]⟩:WB)::catW (fun k=>wrT (K k) (kX x hf k) (kY y hf k) hf) c).length (wbCs ((⟨x,y,s,true,[]⟩:WB)::catW (fun k=>wrT (K k) (kX x hf k) (kY y hf k) hf) c) I)∧IvP ok w ((⟨x,y,s,true,[]⟩:WB)::catW (fun k=>wrT (K k) (kX x hf k) (kY y hf k) hf) c) I∧Below (w.heap.size+1) W1 wr) (fun _ i _=>4-(intOf i).toNat)
  case atStart=>exact⟨0,[.slice none 0 0],by omega,rfl,HO,⟨⟨none,0,rfl,fun i hi=>absurd hi (by simp),fun _=>rfl,fun A o sp e=>by cases e⟩,trivial⟩,HB2⟩
  case round=>
   clear HO HB2;obtain⟨c,I,hc,rfl,HO,hI,HBr⟩:=hrel;have hIP:Hid (IvP ok w ((⟨x,y,s,true,[]⟩:WB)::catW (fun k=>wrT (K k) (kX x hf k) (kY y hf k) hf) c) I):=hI;clear hI;have B0r:=B0.below HBr (by omega);have HBw:=HB.trans (HBr.mono (by omega));have hfl:=B0r.lt
   by_cases hc4:c<4
   · have hcI:(c:Int)<4:=by omega
     obtain⟨kv',ev',c0,c1,c2,c3,c4,hM⟩:=HK.out c hc4;obtain⟨ko,kn,kc',eo',en',ec',rfl,rfl⟩:=hM.vals;have hlc:=catW_len (fun k=>wrT (K k) (kX x hf k) (kY y hf k) hf) hc4;have hl4:=HLN.out;have hpl:((⟨x,y,s,true,[]⟩:WB)::catW (fun k=>wrT (K k) (kX x hf k) (kY y hf k) hf) c).length=(catW (fun k=>wrT (K k) (kX x hf k) (kY y hf k) hf) c).length+1:=rfl;have C:=ih c (fun b=>ok b∧b<w.heap.size) (kX x hf c) (kY y hf c) hf _ _ wr (by omega) (MTr.keep HBw.size (fun b _ hb=>HBw.block b hb) (fun _ h h2=>⟨h,h2⟩) hM);have hcc:∀j,wr.cell? ⟨A,j,none⟩=w.cell? ⟨A,j,none⟩:=fun j=>HBw.cell (p:=⟨A,j,none⟩) hA;have e0:=(hcc _).trans c0;have e1:=(hcc _).trans c1;have e2:=(hcc _).trans c2;have e3:=(hcc _).trans c3;have e4:=(hcc _).trans c4;have m3:=B0r.c 3 rfl;obtain⟨Lk,hLk⟩:∃Lk,wrT (K c) (kX x hf c) (kY y hf c) hf=Lk:=⟨_,rfl⟩;have HLK:Hid (wrT (K c) (kX x hf c) (kY y hf c) hf=Lk):=hLk;have hlk0:0<Lk.length:=by rw[←hLk];exact wrT_pos _ _ _ _
     rw[hLk] at C;have hlen:((⟨x,y,s,true,[]⟩:WB)::catW (fun k=>wrT (K k) (kX x hf k) (kY y hf k) hf) c).length+Lk.length≤1048576:=by rw[hpl,←hLk];omega
     obtain⟨nc,hnc⟩:∃nc,((⟨x,y,s,true,[]⟩:WB)::catW (fun k=>wrT (K k) (kX x hf k) (kY y hf k) hf) c).length=nc:=⟨_,rfl⟩;have HNC:Hid (((⟨x,y,s,true,[]⟩:WB)::catW (fun k=>wrT (K k) (kX x hf k) (kY y hf k) hf) c).length=nc):=hnc;rw[hnc] at HO hlen;clear hnc hpl hlc hl4 hLk hM hcc c0 c1 c2 c3 c4;go_wp2_with fail;refine C.mono ?_;rintro r w1 ⟨v2,I2,rfl,hO2,hI2',hB1⟩;have hI2:IvP ok w Lk I2:=hI2'.swap (fun b hb=>⟨hb.2,(HBw.block b hb.2).symm,hb.1⟩);obtain⟨g2,c2,rfl,_,_,_,_⟩:=ownQ_form hO2 hlk0;have HO1:=ownA_step HO hB1;have HB1:=HBr.trans (hB1.mono hfl);clear HO C hB1 hI2' m3 e0 e1 e2 e3 e4
     go_wp2_with (at_builtin;go_loud (refine wpList_append_own_at _ rfl _ _ 25 rfl (w.heap.size+1) 102 i0 (.agg #[.int .i64 0,.int .i64 0,.int .i64 0,.bool false,.slice none 0 0]) 5 56 Tryz.underlying25 hi0 hz0 hz1 hz2 rfl (by decide) _ _ _ rfl HO1 ⟨g2,0,none⟩ Lk.length c2 (wbCs Lk I2) rfl (by rw[hO2.1]) (hO2.cells rfl) (wbCs_one hI2) (by unfold maxLen;omega) (by omega) (Nat.le_trans (Nat.le_of_eq HSZ.out.symm) HB1.size) ?_))
     · intro v3 Wz hO2 hgrow _ _;have HON:Wz.ownsRow (w.heap.size+1) 102 5 v3 ((⟨x,y,s,true,[]⟩:WB)::catW (fun k=>wrT (K k) (kX x hf k) (kY y hf k) hf) (c+1)).length (wbCs ((⟨x,y,s,true,[]⟩:WB)::catW (fun k=>wrT (K k) (kX x hf k) (kY y hf k) hf) (c+1)) (I ++I2)):=by
        show Wz.ownsRow _ _ _ _ (((((⟨x,y,s,true,[]⟩:WB)::catW (fun k=>wrT (K k) (kX x hf k) (kY y hf k) hf) c):List WB) ++wrT (K c) (kX x hf c) (kY y hf c) hf).length) (wbCs (((⟨x,y,s,true,[]⟩:WB)::catW (fun k=>wrT (K k) (kX x hf k) (kY y hf k) hf) c) ++wrT (K c) (kX x hf c) (kY y hf c) hf) _);rw[HLK.out,wbCs_app hIP.out,List.length_append,HNC.out];exact hO2
       have HIN:Hid (IvP ok w ((⟨x,y,s,true,[]⟩:WB)::catW (fun k=>wrT (K k) (kX x hf k) (kY y hf k) hf) (c+1)) (I ++I2)):=by
        show IvP ok w (((⟨x,y,s,true,[]⟩:WB)::catW (fun k=>wrT (K k) (kX x hf k) (kY y hf k) hf) c) ++wrT (K c) (kX x hf c) (kY y hf c) hf) _;rw[HLK.out];exact hIP.out.app hI2
       have HBN:=HB1.grown hgrow (Nat.le_trans (Nat.le_of_eq HSZ.out.symm) HB1.size) (fun k hk=>(HO1.lt k hk).1);clear hgrow hO2 HO1 B0r HBw HBr HB1;go_wp2;go_roundw
       case rel=>exact⟨c+1,I ++I2,by omega,by go_num,HON,HIN.out,HBN⟩
       case measure=>simp[intOf];omega
   · obtain rfl:c=4:=by omega
     have m3:=B0r.c 3 rfl;go_wp2;go_ret;exact⟨_,I,rfl,by rw[HT.out];exact ownQ_mono2 HO (Nat.le_succ _),by rw[HT.out];exact hIP.out,HBw⟩
theorem itCs_len (Q:QD):∀l:List Nat,(itCs Q l).length=l.length*5
 | []=>rfl
 | a::l=>by
  show(it5 Q a ++itCs Q l).length=_;rw[List.length_append,itCs_len Q l,List.length_cons];show 5+l.length*5=_
  omega
theorem itCs_one (Q:QD) (l:List Nat):∀u∈itCs Q l,u.oneCell' =true:=by
 intro u hu;obtain⟨i,_,h⟩:=List.mem_flatMap.1 hu;exact it5_one Q i u h
theorem itCs_cell {Q:QD} {w:World} {ad:Addr} {l:List Nat} (h:ItIn Q w (some ad) l):∀j u,(itCs Q l)[j]? =some u→w.cell? (ad.add j)=some u:=by
 intro j u hj;have hlt:j<l.length*5:=by rw[←itCs_len Q l];exact(List.getElem?_eq_some_iff.1 hj).1
 obtain⟨i,hi⟩:∃i,l[j / 5]? =some i:=⟨_,List.getElem?_eq_getElem (by omega)⟩;have h5:=itCs_at Q l (j / 5) i (j%5) hi (by omega);rw[show j / 5*5+j%5=j by omega,hj] at h5;obtain⟨A,off,e,_,c0,c1,c2,c3,c4⟩:=h (j / 5) i hi;cases e;rw[Addr.add_lit];have hj5:off+j=off+j / 5*5+j%5:=by omega
 rw[hj5]
 rcases(show j%5=0∨j%5=1∨j%5=2∨j%5=3∨j%5=4 by omega) with e | e | e | e | e<;>rw[e] at h5⊢<;>cases h5
 · exact c0
 · exact c1
 · exact c2
 · exact c3
 · exact c4
theorem cloneIt_any (Q:QD) (ao:Option Addr) (cap:Nat) (l:List Nat) (hl:l.length≤1048576) (w:World) (hS:ItIn Q w ao l):Calls Tryz.prog 37 #[.slice ao l.length cap] w (fun r w' =>∃v,r= .returned v∧w'.ownsRow w.heap.size 40 5 v l.length (itCs Q l)∧Below w.heap.size w w'):=by
 obtain⟨i0,hi,hz0,hz1,hz2⟩:=info_item;have q:=fun(w:World) (a:Option Addr) (n c n' c' :Nat)=>Lib.run_eql_slice_nil (P:=Tryz.prog) w _ _ a n c n' c' Tryz.underlying24;have HR:Hid (ItIn Q w ao l):=hS;clear hS;cases ao with
 | none=>
  have hl0:l=[]:=by
   cases l with
   | nil=>rfl
   | cons a l=>obtain⟨A,off,e,_⟩:=HR.out 0 a rfl;cases e
  subst hl0
  go_enter Tryz.func37,Tryz.ntmps37
  go_wp2;go_ret;exact⟨_,rfl,World.ownsRow_nil _ _ _ _,Below.refl _ _⟩
 | some ad=>
  obtain⟨n,hn⟩:∃n,l.length=n:=⟨_,rfl⟩;have HN:Hid (l.length=n):=hn;rw[hn] at hl⊢;clear hn
  go_enter Tryz.func37,Tryz.ntmps37
  go_wp2_with (at_builtin;refine wpList_append_own _ rfl _ _ 24 rfl w.heap.size 40 i0 (.agg #[.int .i64 0,.int .i64 0,.int .i64 0,.int .i64 0,.int .i64 0]) 5 40 Tryz.underlying24 hi hz0 hz1 hz2 rfl (by decide) _ _ _ rfl (World.ownsRow_made w #[] 0 (Nat.le_refl _) (by decide) rfl) ad n cap (itCs Q l) rfl ?c1 ?c2 ?c3 ?c4 ?c5 ?c6 ?_)
  case c1=>rw[itCs_len,HN.out]
  case c2=>exact itCs_cell (HR.out.step ((Below.refl _ _).alloc (Nat.le_refl _) _))
  case c3=>exact itCs_one Q l
  case c4=>unfold maxLen;omega
  case c5=>omega
  case c6=>simp
  intro v w1 hown hgrow hne;have HB:Below w.heap.size w w1:=((Below.refl _ _).alloc (Nat.le_refl _) _).grown hgrow (by simp) (fun k hk=>by cases hk;exact Nat.le_refl _);clear hgrow;go_wp2;go_ret;exact⟨_,rfl,hown,HB⟩
theorem rootBlock_any (w:World):Calls Tryz.prog 38 #[] w (fun e w' =>∃g,e= .returned (.pointer (some ⟨g,0,none⟩))∧w.heap.size≤g∧Blk w' g [.int .i64 (-1048576),.int .i64 (-1048576),.int .i64 2097152,.int .i64 0,.slice none 0 0,.slice none 0 0]∧Below w.heap.size w w'):=by
 go_enter Tryz.func38,Tryz.ntmps38
 go_wp2;go_ret;exact⟨_,rfl,Nat.le_refl _,Blk.new _ [.int .i64 (-1048576),.int .i64 (-1048576),.int .i64 2097152,.int .i64 0,.slice none 0 0,.slice none 0 0] _ rfl,(Below.refl _ _).alloc (Nat.le_refl _) _⟩
def limB (m d:Int):Bool:=decide (1≤m)&&decide (m≤8)&&decide (0≤d)&&decide (d≤8)
theorem rightLimits_any (m d:Int) (w:World):Calls Tryz.prog 35 #[.int .i64 m,.int .i64 d] w (VP (.bool (limB m d)) w):=by
 by_cases h:1≤m∧m≤8∧0≤d∧d≤8
 · obtain⟨h1,h2,h3,h4⟩:=h;have HO:Hid (limB m d=true):=by show _=_;simp[limB];omega
   go_enter Tryz.func35,Tryz.ntmps35
   go_wp2;go_ret;exact⟨by rw[HO.out];rfl,Below.refl _ _⟩
 · have HO:Hid (limB m d=false):=by show _=_;rw[Bool.eq_false_iff];intro hh;simp[limB] at hh;omega
   go_enter Tryz.func35,Tryz.ntmps35
   by_cases h0:m<1
   · clear h;go_wp2;go_ret;exact⟨by rw[HO.out];rfl,Below.refl _ _⟩
   replace h0:=Int.not_lt.1 h0
   by_cases h1:8<m
   · clear h;go_wp2;go_ret;exact⟨by rw[HO.out];rfl,Below.refl _ _⟩
   replace h1:=Int.not_lt.1 h1
   by_cases h2:d<0
   · clear h;go_wp2;go_ret;exact⟨by rw[HO.out];rfl,Below.refl _ _⟩
   replace h2:=Int.not_lt.1 h2;have h3:decide (d≤8)=false:=decide_eq_false (by omega);clear h;go_wp2;go_ret;exact⟨by rw[HO.out];rfl,Below.refl _ _⟩
theorem l13Limits_any (m d:Int) (w:World):Calls Tryz.prog 45 #[.int .i64 m,.int .i64 d] w (VP (.bool (limB m d)) w):=by
 by_cases h:1≤m∧m≤8∧0≤d∧d≤8
 · obtain⟨h1,h2,h3,h4⟩:=h;have HO:Hid (limB m d=true):=by show _=_;simp[limB];omega
   go_enter Tryz.func45,Tryz.ntmps45
   go_wp2;go_ret;exact⟨by rw[HO.out];rfl,Below.refl _ _⟩
 · have HO:Hid (limB m d=false):=by show _=_;rw[Bool.eq_false_iff];intro hh;simp[limB] at hh;omega
   go_enter Tryz.func45,Tryz.ntmps45
   by_cases h0:m<1
   · clear h;go_wp2;go_ret;exact⟨by rw[HO.out];rfl,Below.refl _ _⟩
   replace h0:=Int.not_lt.1 h0
   by_cases h1:8<m
   · clear h;go_wp2;go_ret;exact⟨by rw[HO.out];rfl,Below.refl _ _⟩
   replace h1:=Int.not_lt.1 h1
   by_cases h2:d<0
   · clear h;go_wp2;go_ret;exact⟨by rw[HO.out];rfl,Below.refl _ _⟩
   replace h2:=Int.not_lt.1 h2;have h3:decide (d≤8)=false:=decide_eq_false (by omega);clear h;go_wp2;go_ret;exact⟨by rw[HO.out];rfl,Below.refl _ _⟩
theorem row_leaf (g:Nat) (w:World) (B:Blk w g [.int .i64 (-1048576),.int .i64 (-1048576),.int .i64 2097152,.int .i64 0,.slice none 0 0,.slice none 0 0]):Calls Tryz.prog 83 #[.pointer (some ⟨g,0,none⟩)] w (fun e w' =>∃h,e= .returned (.slice (some ⟨h,0,none⟩) 1 1)∧w.heap.size≤h∧Blk w' h [.int .i64 (-1048576),.int .i64 (-1048576),.int .i64 2097152,.bool false,.slice none 0 0]∧Below w.heap.size w w'):=by
 have b0:=B.c 0 rfl;have b1:=B.c 1 rfl;have b2:=B.c 2 rfl;have b3:=B.c 3 rfl;have b4:=B.c 4 rfl;have b5:=B.c 5 rfl;have bl:=B.lt;have HK:∀W,Below w.heap.size w W→(fun w' :World=>w'.cell? ⟨g,0,none⟩=some (.int .i64 (-1048576))∧w'.cell? ⟨g,1,none⟩=some (.int .i64 (-1048576))∧w'.cell? ⟨g,2,none⟩=some (.int .i64 2097152)∧w'.cell? ⟨g,3,none⟩=some (.int .i64 0)∧w'.cell? ⟨g,4,none⟩=some (.slice none 0 0)∧w'.cell? ⟨g,5,none⟩=some (.slice none 0 0)) W:=fun W h=>⟨(B.step h).c 0 rfl,(B.step h).c 1 rfl,(B.step h).c 2 rfl,(B.step h).c 3 rfl,(B.step h).c 4 rfl,(B.step h).c 5 rfl⟩;have H0:Below w.heap.size w w:=Below.refl _ _
 go_enter Tryz.func83,Tryz.ntmps83
 go_upto_region 1 with fail
 go_region_held3 (fun w' :World=>w'.cell? ⟨g,0,none⟩=some (.int .i64 (-1048576))∧w'.cell? ⟨g,1,none⟩=some (.int .i64 (-1048576))∧w'.cell? ⟨g,2,none⟩=some (.int .i64 2097152)∧w'.cell? ⟨g,3,none⟩=some (.int .i64 0)∧w'.cell? ⟨g,4,none⟩=some (.slice none 0 0)∧w'.cell? ⟨g,5,none⟩=some (.slice none 0 0)) (refine HK _ ?_<;>repeat (first | (with_reducible exact H0) | (with_reducible refine Below.drew ?_) | (with_reducible refine Below.alloc ?_ (by simp) _))) (fail)
 all_goals have B' :=(B.alloc (.cells #[.int .i64 (-1048576),.int .i64 (-1048576),.int .i64 2097152,.bool false,.slice none 0 0] 102)).drew
 all_goals have HB:Below w.heap.size w (w.alloc (.cells #[.int .i64 (-1048576),.int .i64 (-1048576),.int .i64 2097152,.bool false,.slice none 0 0] 102)).drew:=((Below.refl _ w).alloc (Nat.le_refl _) _).drew
 all_goals have C' :=(Blk.new w [.int .i64 (-1048576),.int .i64 (-1048576),.int .i64 2097152,.bool false,.slice none 0 0] 102 rfl).drew
 all_goals clear b0 b1 b2 b3 b4 b5 HK H0 bl B
 all_goals generalize (w.alloc (.cells #[.int .i64 (-1048576),.int .i64 (-1048576),.int .i64 2097152,.bool false,.slice none 0 0] 102)).drew=W at *
 all_goals have b5:=B'.c 5 rfl
 all_goals go_wp2_with fail
 all_goals go_loopw [3,36] (fun o i wr=>o= .slice (some ⟨w.heap.size,0,none⟩) 1 1∧i= .int .i64 0∧wr=W) (fun _ _ _=>0)
 case atStart=>exact⟨rfl,rfl,rfl⟩
 case round=>
  obtain⟨rfl,rfl,rfl⟩:=hrel;go_wp2;go_ret;exact⟨_,rfl,Nat.le_refl _,C',HB⟩
def ItR (Q:QD) (B:Nat) (l:List Nat) (v:Value) (W:World):Prop:=W.ownsRow B 40 5 v l.length (itCs Q l)
theorem ItR.step {Q:QD} {B:Nat} {l:List Nat} {v:Value} {W W2:World} (h:ItR Q B l v W) (hB:Below W.heap.size W W2):ItR Q B l v W2:=ownA_step h hB
def TyB (w:World) (g:Nat) (T:TypeId):Prop:=∃cur,w.heap[g]? =some (.cells cur T (0,0))
theorem TyB.step {w w' :World} {g:Nat} {T:TypeId} (h:TyB w g T) (hB:Below w.heap.size w w'):TyB w' g T:=by
 obtain⟨cur,h1⟩:=h;exact⟨cur,(hB.block g (Array.getElem?_eq_some_iff.1 h1).1).trans h1⟩
theorem rootBlock_ty (w:World):Calls Tryz.prog 38 #[] w (fun e w' =>∃g,e= .returned (.pointer (some ⟨g,0,none⟩))∧w.heap.size≤g∧Blk w' g [.int .i64 (-1048576),.int .i64 (-1048576),.int .i64 2097152,.int .i64 0,.slice none 0 0,.slice none 0 0]∧TyB w' g 83∧Below w.heap.size w w'):=by
 go_enter Tryz.func38,Tryz.ntmps38
 go_wp2;go_ret;exact⟨_,rfl,Nat.le_refl _,Blk.new _ [.int .i64 (-1048576),.int .i64 (-1048576),.int .i64 2097152,.int .i64 0,.slice none 0 0,.slice none 0 0] _ rfl,⟨_,heap_alloc_new w _⟩,(Below.refl _ _).alloc (Nat.le_refl _) _⟩
theorem it_root {Q:QD} {B:Nat} {l:List Nat} {v:Value} {W:World} {gr:Nat} (h:ItR Q B l v W) (hy:TyB W gr 83):∀b,v.ownBlock=some b→b≠gr∧b<W.heap.size:=fun b e=>by
 refine⟨fun e2=>?_,(World.ownsRow.lt h b e).2⟩
 rcases h.2 with ⟨h1,_⟩ | ⟨g,c,cur,h1,h2,h3,_⟩
 · subst h1;cases e
 · subst h1;obtain⟨cur2,h4⟩:=hy;cases e;subst e2;rw[h3] at h4
   simp at h4
def RtR (B:Nat) (v:Value) (W:World):Prop:=∃gr,v= .pointer (some ⟨gr,0,none⟩)∧B≤gr∧Blk W gr [.int .i64 (-1048576),.int .i64 (-1048576),.int .i64 2097152,.int .i64 0,.slice none 0 0,.slice none 0 0]∧TyB W gr 83
theorem RtR.step {B:Nat} {v:Value} {W W2:World} (h:RtR B v W) (hB:Below W.heap.size W W2):RtR B v W2:=by
 obtain⟨gr,h1,h2,h3,h4⟩:=h;exact⟨gr,h1,h2,h3.step hB,h4.step hB⟩
def QuA (Q:QD) (B:Nat) (l:List Nat) (m d:Int) (v:Value) (W:World):Prop:=∃io ic gr,v= .agg #[.int .i64 m,.int .i64 d,.slice io l.length ic,.pointer (some ⟨gr,0,none⟩)]∧ItR Q B l (.slice io l.length ic) W∧B≤gr∧Blk W gr [.int .i64 (-1048576),.int .i64 (-1048576),.int .i64 2097152,.int .i64 0,.slice none 0 0,.slice none 0 0]∧∀b,(Value.slice io l.length ic).ownBlock=some b→b≠gr∧b<W.heap.size
theorem QuA.step {Q:QD} {B:Nat} {l:List Nat} {m d:Int} {v:Value} {W W2:World} (h:QuA Q B l m d v W) (hB:Below W.heap.size W W2):QuA Q B l m d v W2:=by
 obtain⟨io,ic,gr,h1,h2,h3,h4,h5⟩:=h;exact⟨io,ic,gr,h1,h2.step hB,h3,h4.step hB,fun b e=>⟨(h5 b e).1,Nat.lt_of_lt_of_le (h5 b e).2 hB.size⟩⟩
def QuB (Q:QD) (B:Nat) (l:List Nat) (m d:Int) (v:Value) (W:World):Prop:=∃gq io ic gr,v= .pointer (some ⟨gq,0,none⟩)∧Blk W gq [.int .i64 m,.int .i64 d,.slice io l.length ic,.pointer (some ⟨gr,0,none⟩)]∧ItR Q B l (.slice io l.length ic) W∧B≤gr∧gr<gq∧Blk W gr [.int .i64 (-1048576),.int .i64 (-1048576),.int .i64 2097152,.int .i64 0,.slice none 0 0,.slice none 0 0]∧∀b,(Value.slice io l.length ic).ownBlock=some b→b≠gr∧b<gq
theorem QuB.step {Q:QD} {B:Nat} {l:List Nat} {m d:Int} {v:Value} {W W2:World} (h:QuB Q B l m d v W) (hB:Below W.heap.size W W2):QuB Q B l m d v W2:=by
 obtain⟨gq,io,ic,gr,h1,h0,h2,h3,h5,h4,h6⟩:=h;exact⟨gq,io,ic,gr,h1,h0.step hB,h2.step hB,h3,h5,h4.step hB,h6⟩
theorem ownB_mono {w:World} {b b' n:Nat} {e:TypeId} {size:Nat} {v:Value} {xs:List Value} (h:w.ownsRow b' e size v n xs) (hb:b≤b'):w.ownsRow b e size v n xs:=by
 rcases h with ⟨h0,h1 | ⟨g,cap,cur,h1,h2,h3⟩⟩
 · exact⟨h0,.inl h1⟩
 · exact⟨h0,.inr ⟨g,cap,cur,h1,Nat.le_trans hb h2,h3⟩⟩
theorem own_slI {Q:QD} {B:Nat} {l:List Nat} {v:Value} {W:World} (h:ItR Q B l v W):∃io ic,v= .slice io l.length ic:=by
 rcases h.2 with ⟨h1,h2⟩ | ⟨g,c,_,h1,_⟩
 · exact⟨none,0,by rw[h1,h2]⟩
 · exact⟨_,c,h1⟩
def VqfA (Qd:QD) (P:Nat) (ao:Option Addr) (cap:Nat) (its:List Nat) (m d:Int) (B:Nat):Nat→Value→World→Prop
 | 0,v,_=>v= .pointer (some ⟨P,0,none⟩)
 | 1,v,_=>v= .int .i64 m
 | 2,v,_=>v= .pointer (some ⟨P,1,none⟩)
 | 3,v,_=>v= .int .i64 d
 | 4,v,_=>v= .pointer (some ⟨P,2,none⟩)
 | 5,v,_=>v= .slice ao its.length cap
 | 6,v,W=>ItR Qd B its v W
 | 7,v,W=>RtR B v W
 | 8,v,W=>QuA Qd B its m d v W
 | 9,v,W=>QuB Qd B its m d v W
 | 10,v,W=>QuB Qd B its m d v W
 | _,_,_=>True
theorem VqfA.mono {Qd:QD} {P:Nat} {ao:Option Addr} {cap:Nat} {its:List Nat} {m d:Int} {B j:Nat} {v:Value} {W W2:World} (hB:Below W.heap.size W W2) (h:VqfA Qd P ao cap its m d B j v W):VqfA Qd P ao cap its m d B j v W2:=by
 unfold VqfA at *
 split<;>simp only at h<;>first | exact h | exact h.step hB | trivial
theorem qfA {Q:Exit→Act→World→Prop} {Qd:QD} {P:Nat} {ao:Option Addr} {cap:Nat} {its:List Nat} {m d:Int} {w0:World} {a0:Act} {idq:Nat} {t0 t1 t2 t3 t4 t5 t6 t7 t8 t9 t10:TypeId} {q0 q1 q2 q3 q4 q5 q6 q7 q8 q9 q10:String}
 (hl0:its.length≤1048576) (hS0:ItIn Qd w0 ao its) (h1:a0.tmps[1]? =some (.pointer (some ⟨P,0,none⟩))) (k0:w0.cell? ⟨P,0,none⟩=some (.int .i64 m)) (l0:(⟨P,0,none⟩:Addr).block<w0.heap.size) (k1:w0.cell? ⟨P,1,none⟩=some (.int .i64 d)) (l1:(⟨P,1,none⟩:Addr).block<w0.heap.size) (k2:w0.cell? ⟨P,2,none⟩=some (.slice ao its.length cap)) (l2:(⟨P,2,none⟩:Addr).block<w0.heap.size) (hz:a0.tmps.size=57)
 (hQ:∀aq W,aq.tmps.size=a0.tmps.size→aq.defers=a0.defers→(∀e,e∉([25,26,27,28,29,30,31,32,33,34,4]:List Nat)→aq.tmps[e]? =a0.tmps[e]?)→VqfA Qd P ao cap its m d w0.heap.size 10 (aq.tmps.getD 4 undef) W→Below w0.heap.size w0 W→Q .normal aq W) :
 (Code.region idq #[⟨some 25,.fieldAddr 27 (.tmp 1) 0,t0,q0,#[],none⟩,
 ⟨some 26,.load 2 (.tmp 25),t1,q1,#[⟨0,.data⟩],none⟩,
 ⟨some 27,.fieldAddr 27 (.tmp 1) 1,t2,q2,#[],none⟩,
 ⟨some 28,.load 2 (.tmp 27),t3,q3,#[⟨2,.data⟩],none⟩,
 ⟨some 29,.fieldAddr 27 (.tmp 1) 2,t4,q4,#[],none⟩,
 ⟨some 30,.load 24 (.tmp 29),t5,q5,#[⟨4,.data⟩],none⟩,
 ⟨some 31,.call {callee:= .value (.func 37),args:=#[.tmp 30],argTypes:=#[24]},t6,q6,#[⟨5,.data⟩],none⟩,
 ⟨some 32,.call {callee:= .value (.func 38),args:=#[],argTypes:=#[]},t7,q7,#[⟨6,.chain⟩],none⟩,
 ⟨some 33,.build 57 #[(0,.tmp 26),(1,.tmp 28),(2,.tmp 31),(3,.tmp 32)],t8,q8,#[⟨1,.data⟩,⟨3,.data⟩,⟨6,.data⟩,⟨7,.data⟩],none⟩,
 ⟨some 34,.box 57 (.tmp 33),t9,q9,#[⟨8,.data⟩],none⟩,
 ⟨some 4,.assign (.tmp 34),t10,q10,#[⟨9,.data⟩,⟨7,.chain⟩,⟨0,.phase⟩,⟨1,.phase⟩,⟨2,.phase⟩,⟨3,.phase⟩,⟨4,.phase⟩,⟨5,.phase⟩,⟨6,.phase⟩,⟨7,.phase⟩,⟨8,.phase⟩,⟨9,.phase⟩],none⟩] true).wp Tryz.prog Q a0 w0:=by
 have hS:distS [some 25,some 26,some 27,some 28,some 29,some 30,some 31,some 32,some 33,some 34,some 4]=true:=rfl;refine wp_region_q (by kernel_rfl) w0.heap.size [some 25,some 26,some 27,some 28,some 29,some 30,some 31,some 32,some 33,some 34,some 4] (VqfA Qd P ao cap its m d w0.heap.size) rfl ?_ ?_
 · intro Q lq aq W iq oq hJ2 hl ho hall;have z5:=hJ2.b;have g1:=hJ2.a h1
   have c0:=hJ2.c k0 l0;have c1:=hJ2.c k1 l1;have c2:=hJ2.c k2 l2
   clear hQ
   match iq,ho with
   | 0,ho=>
    cases ho;refine wpOp_of rfl rfl ?_;have hK:=hJ2.gO hS 0 25;generalize InvQ _ _ _ _ _ _=K at hK⊢;clear ho hall hl hJ2 hS;go_simp;exact hK _ rfl
   | 1,ho=>
    cases ho;refine wpOp_of rfl rfl ?_;have f0:_=Value.pointer (some ⟨P,0,none⟩):=hJ2.v hall 0 25;have hK:=hJ2.gO hS 1 26;generalize InvQ _ _ _ _ _ _=K at hK⊢;clear ho hall hl hJ2 hS;go_simp;exact hK _ rfl
   | 2,ho=>
    cases ho;refine wpOp_of rfl rfl ?_;have hK:=hJ2.gO hS 2 27;generalize InvQ _ _ _ _ _ _=K at hK⊢;clear ho hall hl hJ2 hS;go_simp;exact hK _ rfl
   | 3,ho=>
    cases ho;refine wpOp_of rfl rfl ?_;have f2:_=Value.pointer (some ⟨P,1,none⟩):=hJ2.v hall 2 27;have hK:=hJ2.gO hS 3 28;generalize InvQ _ _ _ _ _ _=K at hK⊢;clear ho hall hl hJ2 hS;go_simp;exact hK _ rfl
   | 4,ho=>
    cases ho;refine wpOp_of rfl rfl ?_;have hK:=hJ2.gO hS 4 29;generalize InvQ _ _ _ _ _ _=K at hK⊢;clear ho hall hl hJ2 hS;go_simp;exact hK _ rfl
   | 5,ho=>
    cases ho;refine wpOp_of rfl rfl ?_;have f4:_=Value.pointer (some ⟨P,2,none⟩):=hJ2.v hall 4 29;have hK:=hJ2.gO hS 5 30;generalize InvQ _ _ _ _ _ _=K at hK⊢;clear ho hall hl hJ2 hS;go_simp;exact hK _ rfl
   | 6,ho=>
    cases ho;refine wpOp_of rfl rfl ?_;have f5:_=Value.slice ao its.length cap:=hJ2.v hall 5 30;have hK:=hJ2.go hS 6 31;generalize InvQ _ _ _ _ _ _=K at hK⊢;clear ho hall hl hJ2 hS;go_simp;refine(cloneIt_any Qd ao cap its hl0 W (hS0.step z5)).mono ?_;rintro r v1 ⟨v,rfl,hO,hBv⟩;exact hK _ _ (z5.trans (hBv.mono z5.size)) (fun j v h=>h.mono hBv) (show ItR Qd w0.heap.size its v v1 from ownB_mono hO z5.size)
   | 7,ho=>
    cases ho;refine wpOp_of rfl rfl ?_;have hK:=hJ2.go hS 7 32;generalize InvQ _ _ _ _ _ _=K at hK⊢;clear ho hall hl hJ2 hS;go_simp;refine(rootBlock_ty W).mono ?_;rintro r v1 ⟨gr,rfl,hg,hX,hY,hBv⟩;exact hK _ _ (z5.trans (hBv.mono z5.size)) (fun j v h=>h.mono hBv) ⟨gr,rfl,Nat.le_trans z5.size hg,hX,hY⟩
   | 8,ho=>
    cases ho;refine wpOp_of rfl rfl ?_;have f1:_=Value.int .i64 m:=hJ2.v hall 1 26;have f3:_=Value.int .i64 d:=hJ2.v hall 3 28;have f6:ItR Qd w0.heap.size its (aq.tmps.getD 31 undef) W:=hJ2.v hall 6 31;have f7:RtR w0.heap.size (aq.tmps.getD 32 undef) W:=hJ2.v hall 7 32;obtain⟨gr,e7,hg7,hx7,hy7⟩:=f7;obtain⟨io,ic,e6⟩:=own_slI f6;rw[e6] at f6;have hi6:=f6;have hob6:=it_root hi6 hy7;clear hy7;rw[Array.getD_eq_getD_getElem?] at e6 e7 f1 f3;have hK:=hJ2.go hS 8 33;generalize InvQ _ _ _ _ _ _=K at hK⊢;clear ho hall hl hJ2 hS;go_simp;exact hK _ _ z5 (fun _ _ h=>h) ⟨io,ic,gr,rfl,hi6,hg7,hx7,hob6⟩
   | 9,ho=>
    cases ho;refine wpOp_of rfl rfl ?_;have f8:QuA Qd w0.heap.size its m d (aq.tmps.getD 33 undef) W:=hJ2.v hall 8 33;obtain⟨io,ic,gr,e8,hi8,hg8,hx8,hob8⟩:=f8;rw[Array.getD_eq_getD_getElem?] at e8;have hK:=hJ2.go hS 9 34;generalize InvQ _ _ _ _ _ _=K at hK⊢;clear ho hall hl hJ2 hS;go_simp;exact hK _ _ (z5.alloc z5.size _) (fun j v h=>h.mono ((Below.refl _ _).alloc (Nat.le_refl _) _)) ⟨_,io,ic,gr,rfl,Blk.new W [.int .i64 m,.int .i64 d,.slice io its.length ic,.pointer (some ⟨gr,0,none⟩)] 57 rfl,hi8.step ((Below.refl _ _).alloc (Nat.le_refl _) _),hg8,hx8.lt,hx8.alloc _,hob8⟩
   | 10,ho=>
    cases ho;refine wpOp_of rfl rfl ?_;have f9:QuB Qd w0.heap.size its m d (aq.tmps.getD 34 undef) W:=hJ2.v hall 9 34;rw[Array.getD_eq_getD_getElem?] at f9;have hK:=hJ2.go hS 10 4;generalize InvQ _ _ _ _ _ _=K at hK⊢;clear ho hall hl hJ2 hS;go_simp;exact hK _ _ z5 (fun _ _ h=>h) f9
   | iq+11,ho=>simp at ho
 · intro lq aq W hJ hr;obtain⟨z1,z2,z3,z4,z5,z6,z7⟩:=hJ;have hl:=listed_of hr [0,1,2,3,4,5,6,7,8,9,10] [] (by simp) (by kernel_rfl) (by rw[z1];decide);exact hQ aq W z2 z3 (fun e he=>z4 e (by simpa using he)) (z6 10 4 (hl 10 (by simp)) rfl) z5
end Go.Proofs.YthelolpogdcmhaaGreat
