/- Part 17 of the walks that the proof leans on. -/
import Derived.Test.YthelolpogdcmhaaGreatQx16
import Derived.Test.YthelolpogdcmhaaGreatQx15
import Derived.Test.YthelolpogdcmhaaGreatQx12
set_option maxRecDepth 100000
set_option maxHeartbeats 16000000
namespace Go.Proofs.YthelolpogdcmhaaGreat
open Go.RowKit
def delQ (Q:QD) (j:Nat):QD where
 m:=Q.m-1
 N:=Q.N
 I:=fun i=>if i<j then Q.I i else Q.I (i+1)
 S:=fun i=>if i<j then Q.S i else Q.S (i+1)
 X:=Q.X
 Y:=Q.Y
 Z:=Q.Z
 T:=Q.T
 L:=Q.L
 E:=Q.E
theorem delQ_lt {Q:QD} {j i:Nat} (h:i<j):(delQ Q j).I i=Q.I i∧(delQ Q j).S i=Q.S i:=⟨if_pos h,if_pos h⟩
theorem delQ_ge {Q:QD} {j i:Nat} (h:j≤i):(delQ Q j).I i=Q.I (i+1)∧(delQ Q j).S i=Q.S (i+1):=⟨if_neg (by omega),if_neg (by omega)⟩
theorem ins_del {Q:QD} {j:Nat} (hj:j<Q.m):insQ (delQ Q j) j (Q.I j) (Q.S j)=Q:=by
 have h1:∀i,(if i<j then(delQ Q j).I i else if i=j then Q.I j else(delQ Q j).I (i-1))=Q.I i:=fun i=>by
  by_cases h:i<j
  · rw[if_pos h,(delQ_lt h).1]
  · by_cases he:i=j
    · rw[if_neg h,if_pos he,he]
    · rw[if_neg h,if_neg he,(delQ_ge (by omega)).1,show i-1+1=i by omega]
 have h2:∀i,(if i<j then(delQ Q j).S i else if i=j then Q.S j else(delQ Q j).S (i-1))=Q.S i:=fun i=>by
  by_cases h:i<j
  · rw[if_pos h,(delQ_lt h).2]
  · by_cases he:i=j
    · rw[if_neg h,if_pos he,he]
    · rw[if_neg h,if_neg he,(delQ_ge (by omega)).2,show i-1+1=i by omega]
 unfold insQ;rw[show(delQ Q j).m+1=Q.m from by show Q.m-1+1=Q.m;omega,funext h1,funext h2]
 rfl
theorem rise_del {Q:QD} {j:Nat} (h:riseI Q) (_hj:j<Q.m):riseI (delQ Q j):=by
 intro i h0 hi;have hi' :i<Q.m-1:=hi
 by_cases h1:i<j
 · rw[(delQ_lt (show i-1<j by omega)).1,(delQ_lt h1).1];exact h i h0 (by omega)
 · by_cases h2:i-1<j
   · rw[(delQ_lt h2).1,(delQ_ge (by omega)).1];have e:=rise_lt h 1 (i-1) (by omega);rw[show i-1+1+1=i+1 by omega] at e;exact e
   · rw[(delQ_ge (by omega)).1,(delQ_ge (by omega)).1];have e:=h (i+1) (by omega) (by omega);rw[show i+1-1=i-1+1 by omega] at e;exact e
theorem rise_to {Q:QD} (h:riseI Q) {i k:Nat} (hik:i<k) (hk:k<Q.m):Q.I i<Q.I k:=by
 have e:=rise_lt h (k-i-1) i (by omega);rwa [show i+(k-i-1)+1=k by omega] at e
theorem canL_del {Q:QD} {j:Nat} (hr:riseI Q) (hj:j<Q.m) (x y s:Int):canL (delQ Q j) x y s=(canL Q x y s).filter (fun z=>decide (z≠Q.I j)):=by
 obtain⟨A,B,h1,h2,h3,h4⟩:=canL_ins (Q:=delQ Q j) (j:=j) (show j≤Q.m-1 by omega) (Q.I j) (Q.S j) x y s;rw[ins_del hj] at h2;rw[h1,h2];have hA:A.filter (fun z=>decide (z≠Q.I j))=A:=List.filter_eq_self.2 fun z hz=>by
  rw[h3] at hz;obtain⟨i,hi,rfl⟩:=canP_mem hz;rw[(delQ_lt hi).1];exact decide_eq_true (Int.ne_of_lt (rise_to hr hi hj))
 have hB:B.filter (fun z=>decide (z≠Q.I j))=B:=List.filter_eq_self.2 fun z hz=>by
  rw[h4] at hz;obtain⟨i,hi,hi2,rfl⟩:=canR_mem hz;have hi3:i<j+(Q.m-1-j):=hi2;rw[(delQ_ge hi).1];exact decide_eq_true (Int.ne_of_gt (rise_to hr (show j<i+1 by omega) (by omega)))
 rw[List.filter_append,List.filter_append,hA,hB];cases newH (Q.S j) x y s<;>simp
def upL (l:List Int):Prop:=l.Pairwise (· < ·)
theorem canL_up {Q:QD} (h:riseI Q) (x y s:Int):upL (canL Q x y s):=by
 unfold upL canL idL flQ;rw[List.pairwise_map];refine List.Pairwise.imp_of_mem ?_ (List.Pairwise.filter _ List.pairwise_lt_range);intro a b _ hb hab;exact rise_to h hab (List.mem_range.1 (List.mem_filter.1 hb).1)
theorem up_ext:∀(l l' :List Int),upL l→upL l' →(∀z,z∈l↔z∈l')→l=l'
 | [],[],_,_,_=>rfl
 | [],b::l',_,_,h=>by have:=(h b).2 (by simp);simp at this
 | a::l,[],_,_,h=>by have:=(h a).1 (by simp);simp at this
 | a ::l,b::l',h1,h2,h=>by
  obtain⟨u1,u2⟩:=List.pairwise_cons.1 h1;obtain⟨v1,v2⟩:=List.pairwise_cons.1 h2;have hab:a=b:=by
   have ha:=(h a).1 (by simp);have hb:=(h b).2 (by simp);rw[List.mem_cons] at ha hb
   rcases ha with ha | ha
   · exact ha
   · rcases hb with hb | hb
     · exact hb.symm
     · have e1:=v1 a ha;have e2:=u1 b hb
       omega
  subst hab;rw[up_ext l l' u2 v2 fun z=>⟨fun hz=>?_,fun hz=>?_⟩]
  · have e:=(h z).1 (List.mem_cons_of_mem _ hz);rw[List.mem_cons] at e
    rcases e with e | e
    · have:=u1 z hz;omega
    · exact e
  · have e:=(h z).2 (List.mem_cons_of_mem _ hz);rw[List.mem_cons] at e
    rcases e with e | e
    · have:=v1 z hz;omega
    · exact e
def withL (l:List Int) (n:Int):List Int:=l.filter (fun z=>decide (z<n)) ++n::l.filter (fun z=>decide (n<z))
theorem mem_withL (l:List Int) (n z:Int):z∈withL l n↔z∈l∨z=n:=by
 unfold withL;simp only[List.mem_append,List.mem_cons,List.mem_filter,decide_eq_true_eq]
 constructor
 · rintro(⟨h,_⟩ | rfl | ⟨h,_⟩)
   · exact .inl h
   · exact .inr rfl
   · exact .inl h
 · rintro(h | rfl)
   · rcases Int.lt_trichotomy z n with h1 | h1 | h1
     · exact .inl ⟨h,h1⟩
     · exact .inr (.inl h1)
     · exact .inr (.inr ⟨h,h1⟩)
   · exact .inr (.inl rfl)
theorem up_withL {l:List Int} (n:Int) (h:upL l):upL (withL l n):=by
 unfold upL withL;rw[List.pairwise_append,List.pairwise_cons];refine⟨List.Pairwise.filter _ h,⟨fun z hz=>of_decide_eq_true (List.mem_filter.1 hz).2,List.Pairwise.filter _ h⟩,fun a ha b hb=>?_⟩;have e1:a<n:=of_decide_eq_true (List.mem_filter.1 ha).2
 rcases List.mem_cons.1 hb with rfl | hb
 · exact e1
 · have e2:n<b:=of_decide_eq_true (List.mem_filter.1 hb).2
   omega
def mrgL (a l:List Int):List Int:=l.foldl withL a
theorem mem_mrg:∀(l a:List Int) (z:Int),z∈mrgL a l↔z∈a∨z∈l
 | [],a,z=>by simp[mrgL]
 | n::l,a,z=>by
  show z∈mrgL (withL a n) l↔_;rw[mem_mrg l,mem_withL,List.mem_cons,or_assoc]
theorem up_mrg:∀(l:List Int) {a:List Int},upL a→upL (mrgL a l)
 | [],_,h=>h
 | n::l,_,h=>up_mrg l (up_withL n h)
def idsT:QT→List Int
 | .leaf l=>l
 | .node _=>[]
def isLf:QT→Bool
 | .leaf _=>true
 | .node _=>false
def allK (K:Nat→QT):Nat→List Int
 | 0=>[]
 | k+1=>mrgL (allK K k) (idsT (K k))
def lfK (K:Nat→QT):Nat→Bool
 | 0=>true
 | k+1=>lfK K k&&isLf (K k)
theorem up_allK (K:Nat→QT):∀c,upL (allK K c)
 | 0=>List.Pairwise.nil
 | c+1=>up_mrg _ (up_allK K c)
theorem mem_allK (K:Nat→QT) (z:Int):∀c,z∈allK K c↔∃k,k<c∧z∈idsT (K k)
 | 0=>⟨fun h=>by simp[allK] at h,fun⟨k,h,_⟩=>absurd h (by omega)⟩
 | c+1=>by
  rw[allK,mem_mrg,mem_allK K z c]
  constructor
  · rintro(⟨k,h1,h2⟩ | h)
    · exact⟨k,by omega,h2⟩
    · exact⟨c,by omega,h⟩
  · rintro⟨k,h1,h2⟩
    rcases Nat.lt_or_eq_of_le (Nat.le_of_lt_succ h1) with h | h
    · exact .inl ⟨k,h,h2⟩
    · subst h;exact .inr h2
theorem lfK_iff (K:Nat→QT):∀c,lfK K c=true↔∀k,k<c→isLf (K k)=true
 | 0=>⟨fun _ k h=>absurd h (by omega),fun _=>rfl⟩
 | c+1=>by
  rw[lfK,Bool.and_eq_true,lfK_iff K c]
  constructor
  · rintro⟨h1,h2⟩ k hk
    rcases Nat.lt_or_eq_of_le (Nat.le_of_lt_succ hk) with h | h
    · exact h1 k h
    · subst h;exact h2
  · exact fun h=>⟨fun k hk=>h k (by omega),h c (by omega)⟩
def cutT (mx id:Int):QT→QT
 | .leaf l=> .leaf (l.filter (fun z=>decide (z≠id)))
 | .node K=>if lfK (fun k=>cutT mx id (K k)) 4=true∧((allK (fun k=>cutT mx id (K k)) 4).length:Int)≤mx then .leaf (allK (fun k=>cutT mx id (K k)) 4) else .node (fun k=>if k<4 then cutT mx id (K k) else K k)
def setT (Q:QD) (mx:Int):QT→Int→Int→Int→QT
 | .leaf _,x,y,s=> .leaf (canL Q x y s)
 | .node K,x,y,s=>if ((canL Q x y s).length:Int)≤mx then .leaf (canL Q x y s) else .node (fun k=>if k<4 then setT Q mx (K k) (kX x (s / 2) k) (kY y (s / 2) k) (s / 2) else K k)
theorem setT_lf {Q:QD} {mx x y s:Int}:∀{t:QT},isLf (setT Q mx t x y s)=true→idsT (setT Q mx t x y s)=canL Q x y s
 | .leaf _,_=>rfl
 | .node _,h=>by
  unfold setT at h⊢
  split at h
  · rw[if_pos (by assumption)];rfl
  · exact absurd h (by simp[isLf])
theorem setT_small {Q:QD} {mx x y s:Int} (h:((canL Q x y s).length:Int)≤mx):∀(t:QT),isLf (setT Q mx t x y s)=true
 | .leaf _=>rfl
 | .node _=>by unfold setT;rw[if_pos h];rfl
def evT:QT→Int→Prop
 | .leaf _,_=>True
 | .node K,s=>s=2*(s / 2)∧∀k,k<4→evT (K k) (s / 2)
theorem ev_of:∀(d:Nat) (t:QT) (e:Int),dpB d t→evT t (2 ^ d*e)
 | _,.leaf _,_,_=>trivial
 | 0,.node _,_,h=>by cases h
 | d+1,.node K,e,h=>by
  have h1:(2:Int) ^ (d+1)*e=2*(2 ^ d*e):=by rw[Int.pow_succ];grind
  refine⟨by omega,fun k hk=>?_⟩;rw[show(2:Int) ^ (d+1)*e / 2=2 ^ d*e by omega];exact ev_of d (K k) e (h k hk)
theorem canL_mem {Q:QD} {x y s z:Int}:z∈canL Q x y s↔∃i,i<Q.m∧hitQ Q x y s i=true∧z=Q.I i:=by
 unfold canL idL flQ;simp only[List.mem_map,List.mem_filter,List.mem_range]
 constructor
 · rintro⟨i,⟨h1,h2⟩,h3⟩;exact⟨i,h1,h2,h3.symm⟩
 · rintro⟨i,h1,h2,h3⟩;exact⟨i,⟨h1,h2⟩,h3.symm⟩
theorem canL_kid {Q:QD} {x y s:Int} (hs:0≤s) {k:Nat} (hk:k<4):(canL Q (kX x (s / 2) k) (kY y (s / 2) k) (s / 2)).length≤(canL Q x y s).length:=by
 unfold canL idL;rw[List.length_map,List.length_map,←fl_kid hs hk];exact List.length_filter_le _ _
theorem cutT_setT {Q:QD} {j:Nat} (mx:Int) (hr:riseI Q) (hj:j<Q.m) (hac:∀i,i<Q.m→(Q.S i).1≤(Q.S i).2.2.1):∀(t:QT) (x y s:Int),0≤s→evT t s→rtT Q t x y s=true→cutT mx (Q.I j) t=setT (delQ Q j) mx t x y s
 | .leaf l,x,y,s,_,_,h=>by
  have h1:l=canL Q x y s:=of_decide_eq_true h;unfold cutT setT;rw[canL_del hr hj,h1]
 | .node K,x,y,s,hs,he,h=>by
  obtain⟨he1,he2⟩:=he;have hk:∀k,k<4→cutT mx (Q.I j) (K k)=setT (delQ Q j) mx (K k) (kX x (s / 2) k) (kY y (s / 2) k) (s / 2):=fun k hk=>cutT_setT mx hr hj hac (K k) _ _ _ (by omega) (he2 k hk) ((List.all_eq_true.1 h) k (List.mem_range.2 hk));have hlf:lfK (fun k=>cutT mx (Q.I j) (K k)) 4=true→allK (fun k=>cutT mx (Q.I j) (K k)) 4=canL (delQ Q j) x y s:=fun hl=>by
   have hl2:=(lfK_iff _ 4).1 hl;refine up_ext _ _ (up_allK _ 4) (canL_up (rise_del hr hj) x y s) fun z=>?_;rw[mem_allK,canL_mem];have hid:∀k,k<4→idsT (cutT mx (Q.I j) (K k))=canL (delQ Q j) (kX x (s / 2) k) (kY y (s / 2) k) (s / 2):=fun k h4=>by
    have:=hl2 k h4;simp only[hk k h4] at this⊢;exact setT_lf this
   constructor
   · rintro⟨k,h4,hz⟩;simp only[hid k h4] at hz;obtain⟨i,h1,h2,h3⟩:=canL_mem.1 hz;exact⟨i,h1,hit_kid hs h4 h2,h3⟩
   · rintro⟨i,h1,h2,h3⟩;have hm:i<Q.m-1:=h1;have hacd:((delQ Q j).S i).1≤((delQ Q j).S i).2.2.1:=by
      by_cases hij:i<j
      · rw[(delQ_lt hij).2];exact hac i (by omega)
      · rw[(delQ_ge (by omega)).2];exact hac (i+1) (by omega)
     obtain⟨k,h4,h5⟩:=hit_some hacd hs he1 h2;refine⟨k,h4,?_⟩;simp only[hid k h4];exact canL_mem.2 ⟨i,h1,h5,h3⟩
  have hnode:(fun k=>if k<4 then cutT mx (Q.I j) (K k) else K k)=(fun k=>if k<4 then setT (delQ Q j) mx (K k) (kX x (s / 2) k) (kY y (s / 2) k) (s / 2) else K k):=funext fun k=>by
   by_cases h4:k<4
   · rw[if_pos h4,if_pos h4,hk k h4]
   · rw[if_neg h4,if_neg h4]
  unfold cutT setT
  by_cases hc:((canL (delQ Q j) x y s).length:Int)≤mx
  · have hl:lfK (fun k=>cutT mx (Q.I j) (K k)) 4=true:=(lfK_iff _ 4).2 fun k h4=>by
     show isLf (cutT mx (Q.I j) (K k))=true;rw[hk k h4];have:=canL_kid (Q:=delQ Q j) (x:=x) (y:=y) hs h4;exact setT_small (by omega) _
    rw[if_pos ⟨hl,by rw[hlf hl];exact hc⟩,if_pos hc,hlf hl]
  · rw[if_neg (fun e=>hc (by rw[←hlf e.1];exact e.2)),if_neg hc,hnode]
theorem catW_mono {f g:Nat→List WB} {c:Nat} (h:∀k,k<c→(f k).length≤(g k).length):(catW f c).length≤(catW g c).length:=by
 induction c with
 | zero=>exact Nat.le_refl _
 | succ c ih=>
  rw[catW,catW,List.length_append,List.length_append];have:=ih fun k hk=>h k (by omega);have:=h c (by omega)
  omega
theorem cut_len (mx id:Int):∀(t:QT) (x y s:Int),(wrT (cutT mx id t) x y s).length≤(wrT t x y s).length
 | .leaf l,x,y,s=>Nat.le_refl _
 | .node K,x,y,s=>by
  unfold cutT
  split
  · exact wrT_pos (.node K) x y s
  · unfold wrT;rw[List.length_cons,List.length_cons];refine Nat.succ_le_succ (catW_mono fun k hk=>?_);simp only[if_pos hk];exact cut_len mx id (K k) _ _ _
theorem tr_len (Q:QD):∀(d at_:Nat) (x y s:Int) (e:Nat),mrd Q d at_ x y s=some e→at_+(wrT (trQ Q d at_ x y s) x y s).length=e
 | 0,at_,x,y,s,e,h=>by
  unfold mrd at h
  split at h
  · cases h;rfl
  · cases h
 | d + 1, at_,x,y,s,e,h=>by
  unfold mrd at h;unfold trQ
  split at h
  · by_cases hT:Q.T at_=true
    · rw [if_pos hT] at h⊢
      split at h
      · have hc:∀c e',kp (fun a x y=>mrd Q d a x y (s / 2)) (at_+1) x y (s / 2) c=some e' →at_+1+(catW (fun k=>wrT (trQ Q d ((kp (fun a x y=>mrd Q d a x y (s / 2)) (at_+1) x y (s / 2) k).getD 0) (kX x (s / 2) k) (kY y (s / 2) k) (s / 2)) (kX x (s / 2) k) (kY y (s / 2) k) (s / 2)) c).length=e' :=by
         intro c
         induction c with
         | zero=>intro e' h';cases h';rfl
         | succ c ih=>
          intro e' h';obtain⟨a',h1,h2⟩:=Option.bind_eq_some_iff.1 h';have e1:=ih a' h1;have e2:=tr_len Q d a' _ _ _ e' h2;rw[catW,List.length_append,h1];simp only[Option.getD_some]
          omega
        have h5:=hc 4 e h;rw[Nat.add_assoc,Nat.add_comm 1] at h5;unfold wrT;rw[List.length_cons];exact h5
      · cases h
    · rw[if_neg hT] at h⊢;cases h;rfl
  · cases h
theorem takeMore {w:World} {base c:Nat} {v:Value} {L:List Int} {y:Int} (h:w.ownsRow base 2 1 v (c+1) ((L.map (Value.int .i64)).take c ++[.int .i64 y])) (hy:L[c]? =some y):w.ownsRow base 2 1 v (c+1) ((L.map (Value.int .i64)).take (c+1)):=by
 rw[List.take_add_one,List.getElem?_map,hy];exact h
theorem l7WithP_any (ao:Option Addr) (cap:Nat) (A B L:List Int) (x:Int) (hL:L=A ++x::B) (hm:L.length≤1048576) (hA:∀z∈A,z<x) (hB0:∀z∈B,x<z) (w:World) (hS:NoIn w ao L.length (fun i=>L.getD i 0)):Calls Tryz.prog 91 #[.slice ao L.length cap,.int .i64 x] w (fun r w' =>∃v,r= .returned v∧w'.ownsRow w.heap.size 2 1 v L.length (L.map (Value.int .i64))∧Below w.heap.size w w'):=by
 obtain⟨i0,hi,hz0,hz1,hz2⟩:=info_parts Tryz.infoNo;have HA:Hid (∀z∈A,z<x):=hA;have HB0:Hid (∀z∈B,x<z):=hB0;have HL:Hid (L=A ++x::B):=hL;have hAB:A.length<L.length:=by rw[hL];simp
 obtain⟨m,hmm⟩:∃m,L.length=m:=⟨_,rfl⟩;have HS:Hid (NoIn w ao m (fun i=>L.getD i 0)):=by rw[←hmm];exact hS
 have HM:Hid (L.length=m):=hmm;rw[hmm] at hm hAB⊢;clear hA hB0 hS hmm hL;have hmI:(m:Int)≤1048576:=by omega
 have HO0:(w.alloc (.cells #[] 2)).ownsRow w.heap.size 2 1 (.slice (some ⟨w.heap.size,0,none⟩) 0 0) 0 []:=World.ownsRow_made w #[] 0 (Nat.le_refl _) (by decide) rfl;have HBB:Below w.heap.size w (w.alloc (.cells #[] 2)):=(Below.refl _ w).alloc (Nat.le_refl _) _
 go_enter Tryz.func91,Tryz.ntmps91
 go_wp2_with fail
 go_loopw [5,6,7] (fun o d i wr=>∃c:Nat,c≤m∧i= .int .i64 c∧d= .bool (decide (A.length<c))∧wr.ownsRow w.heap.size 2 1 o c ((L.map (Value.int .i64)).take c)∧Below w.heap.size w wr) (fun _ _ i _=>m-(intOf i).toNat)
 case atStart=>exact⟨0,by omega,rfl,by simp,HO0,HBB⟩
 case round=>
  clear HO0 HBB;obtain⟨c,hc,rfl,rfl,HO,HB⟩:=hrel
  by_cases hcm:c<m
  · obtain⟨A1,off,rfl,hA,hcell⟩:=HS.out.step HB c hcm;have hcI:(c:Int)<m:=by omega
    obtain⟨y,hy⟩:∃y,L[c]? =some y:=⟨_,List.getElem?_eq_getElem (by rw[HM.out];exact hcm)⟩;have hgd:L.getD c 0=y:=by rw[List.getD_eq_getElem?_getD,hy];rfl
    have HY:Hid (L[c]? =some y):=hy;replace hcell:wr.cell? ⟨A1,off+c,none⟩=some (.int .i64 y):=by rw[←hgd];exact hcell
    clear hgd hy
    rcases Nat.lt_trichotomy c A.length with h1 | h1 | h1
    · have hd:decide (A.length<c)=false:=decide_eq_false (by omega);have hx:y<x:=HA.out y (by have h:=HY.out;rw[HL.out,List.getElem?_append_left h1] at h;exact List.mem_of_getElem? h);have hne:¬(y=x):=by omega
      rw[hd];clear hd
      go_wp2_with (at_builtin;refine wpList_append_own _ rfl _ _ 32 rfl w.heap.size 2 i0 (.int .i64 0) 1 8 Tryz.underlying32 hi hz0 hz1 hz2 rfl (by decide) _ _ _ rfl (ownA_step HO ((Below.refl _ _).alloc (Nat.le_refl _) _)) ⟨wr.heap.size,0,none⟩ 1 1 [.int .i64 (y)] rfl rfl (cell_one_new _ _ _) (one_cellQ _) (by unfold maxLen;omega) (by omega) (by have:=HB.size;simp;omega) ?_)
      intro v1 w1 hown1 hgrow1 _;have HBN:Below w.heap.size w w1:=(HB.alloc HB.size _).grown hgrow1 (by have:=HB.size;simp;omega) (fun k hk=>(HO.lt k hk).1);have HN:=takeMore hown1 HY.out;clear HO HB hown1 hgrow1 hcell hx hne;go_wp2;go_roundw
      case rel=>exact⟨c+1,by omega,by go_num,congrArg Value.bool (decide_eq_false (by omega)).symm,HN,HBN⟩
      case measure=>simp[intOf];omega
    · have hd:decide (A.length<c)=false:=decide_eq_false (by omega);obtain rfl:y=x:=by
       have h:=HY.out;rw[HL.out,h1,List.getElem?_append_right (Nat.le_refl _)] at h
       simpa using h.symm
      have H1:Hid (c=A.length):=h1;rw[hd];clear hd h1
      go_wp2_with (at_builtin;refine wpList_append_own _ rfl _ _ 32 rfl w.heap.size 2 i0 (.int .i64 0) 1 8 Tryz.underlying32 hi hz0 hz1 hz2 rfl (by decide) _ _ _ rfl (ownA_step HO ((Below.refl _ _).alloc (Nat.le_refl _) _)) ⟨wr.heap.size,0,none⟩ 1 1 [.int .i64 (y)] rfl rfl (cell_one_new _ _ _) (one_cellQ _) (by unfold maxLen;omega) (by omega) (by have:=HB.size;simp;omega) ?_)
      intro v1 w1 hown1 hgrow1 _;have HBN:Below w.heap.size w w1:=(HB.alloc HB.size _).grown hgrow1 (by have:=HB.size;simp;omega) (fun k hk=>(HO.lt k hk).1);have HN:=takeMore hown1 HY.out;clear HO HB hown1 hgrow1;have hcell1:w1.cell? ⟨A1,off+c,none⟩=some (.int .i64 y):=by
       obtain⟨A',off',e',_,hc'⟩:=HS.out.step HBN c hcm;cases e';rw[hc'];show some (Value.int _ (L.getD c 0))=_;rw[List.getD_eq_getElem?_getD,HY.out]
       rfl
      clear hcell;go_wp2;go_roundw
      case rel=>exact⟨c+1,by omega,by go_num,congrArg Value.bool (decide_eq_true (by have:=H1.out;omega)).symm,HN,HBN⟩
      case measure=>simp[intOf];omega
    · have hd:decide (A.length<c)=true:=decide_eq_true h1;have hx:x<y:=HB0.out y (by
       have h:=HY.out;rw[HL.out,List.getElem?_append_right (by omega)] at h;obtain⟨e,he⟩:∃e,c-A.length=e+1:=⟨c-A.length-1,by omega⟩;rw[he,List.getElem?_cons_succ] at h;exact List.mem_of_getElem? h)
      have hne:¬(y=x):=by omega
      rw[hd];clear hd
      go_wp2_with (at_builtin;refine wpList_append_own _ rfl _ _ 32 rfl w.heap.size 2 i0 (.int .i64 0) 1 8 Tryz.underlying32 hi hz0 hz1 hz2 rfl (by decide) _ _ _ rfl (ownA_step HO ((Below.refl _ _).alloc (Nat.le_refl _) _)) ⟨wr.heap.size,0,none⟩ 1 1 [.int .i64 (y)] rfl rfl (cell_one_new _ _ _) (one_cellQ _) (by unfold maxLen;omega) (by omega) (by have:=HB.size;simp;omega) ?_)
      intro v1 w1 hown1 hgrow1 _;have HBN:Below w.heap.size w w1:=(HB.alloc HB.size _).grown hgrow1 (by have:=HB.size;simp;omega) (fun k hk=>(HO.lt k hk).1);have HN:=takeMore hown1 HY.out;clear HO HB hown1 hgrow1 hcell hx hne;go_wp2;go_roundw
      case rel=>exact⟨c+1,by omega,by go_num,congrArg Value.bool (decide_eq_true (by omega)).symm,HN,HBN⟩
      case measure=>simp[intOf];omega
  · obtain rfl:c=m:=by omega
    have hd:decide (A.length<c)=true:=decide_eq_true hAB;have HF:Hid (wr.ownsRow w.heap.size 2 1 u5 c (L.map (Value.int .i64))):=by
     show wr.ownsRow _ _ _ _ _ _;rw[List.take_of_length_le (by rw[List.length_map,HM.out];exact Nat.le_refl _)] at HO;exact HO
    rw[hd];clear hd HO;go_wp2;go_ret;exact⟨_,rfl,HF.out,HB⟩
theorem up_parts {n:Int}:∀{l:List Int},upL l→n∈l→l=l.filter (fun z=>decide (z<n)) ++n::l.filter (fun z=>decide (n<z))
 | l,h,hn=>by
  refine up_ext _ _ h (up_withL n h) fun z=>?_;show z∈l↔z∈withL l n;rw[mem_withL];exact⟨.inl,fun e=>e.elim id fun e=>e▸hn⟩
theorem up_parts0 {n:Int}:∀{l:List Int},upL l→n∉l→l=l.filter (fun z=>decide (z<n)) ++l.filter (fun z=>decide (n<z))
 | [],_,_=>rfl
 | a ::l,h,hn=>by
  obtain⟨h1,h2⟩:=List.pairwise_cons.1 h;rw[List.mem_cons,not_or] at hn
  rcases Int.lt_trichotomy a n with e | e | e
  · rw[List.filter_cons_of_pos (p:=fun z=>decide (z<n)) (decide_eq_true e),List.filter_cons_of_neg (p:=fun z=>decide (n<z)) (by simp;omega),List.cons_append,←up_parts0 h2 hn.2]
  · exact absurd e.symm hn.1
  · have e1:(a::l).filter (fun z=>decide (z<n))=[]:=List.filter_eq_nil_iff.2 fun z hz=>by
     rcases List.mem_cons.1 hz with rfl | hz
     · simp;omega
     · have:=h1 z hz;simp;omega
    have e2:(a::l).filter (fun z=>decide (n<z))=a::l:=List.filter_eq_self.2 fun z hz=>by
     rcases List.mem_cons.1 hz with rfl | hz
     · exact decide_eq_true e
     · have:=h1 z hz;exact decide_eq_true (by omega)
    rw[e1,e2]
    rfl
theorem l7With_up (ao:Option Addr) (cap:Nat) (l:List Int) (n:Int) (hu:upL l) (hm:l.length≤1048576) (w:World) (hS:NoIn w ao l.length (fun i=>l.getD i 0)):Calls Tryz.prog 91 #[.slice ao l.length cap,.int .i64 n] w (fun r w' =>∃v,r= .returned v∧w'.ownsRow w.heap.size 2 1 v (withL l n).length ((withL l n).map (Value.int .i64))∧Below w.heap.size w w'):=by
 by_cases hn:n∈l
 · have e:withL l n=l:=(up_parts hu hn).symm;rw[e];exact l7WithP_any ao cap _ _ l n (up_parts hu hn) hm (fun z hz=>of_decide_eq_true (List.mem_filter.1 hz).2) (fun z hz=>of_decide_eq_true (List.mem_filter.1 hz).2) w hS
 · have e:=up_parts0 hu hn;have C:=l7WithL_any ao cap (l.filter (fun z=>decide (z<n))) (l.filter (fun z=>decide (n<z))) n (by rw[←e];exact hm) (fun z hz=>of_decide_eq_true (List.mem_filter.1 hz).2) (fun z hz=>of_decide_eq_true (List.mem_filter.1 hz).2) w (by rw[←e];exact hS);rw[←e] at C;exact C
def fltC (l:List Int) (id:Int) (c:Nat):List Int:=(l.take c).filter (fun z=>decide (z≠id))
theorem fltC_len (l:List Int) (id:Int) (c:Nat):(fltC l id c).length≤c:=Nat.le_trans (List.length_filter_le _ _) (by rw[List.length_take];omega)
theorem fltC_on {l:List Int} {id y:Int} {c:Nat} (hy:l[c]? =some y) (h:¬(y=id)):fltC l id (c+1)=fltC l id c ++[y]:=by
 unfold fltC;rw[List.take_add_one,hy,List.filter_append]
 simp[h]
theorem fltC_off {l:List Int} {id y:Int} {c:Nat} (hy:l[c]? =some y) (h:y=id):fltC l id (c+1)=fltC l id c:=by
 unfold fltC;rw[List.take_add_one,hy,List.filter_append]
 simp[h]
theorem l13Cut_leaf (x y s mx id:Int) (l:List Int) (hl:l.length≤1048576) (eo:Option Addr) (ec:Nat) (w:World) (hN:NoIn w eo l.length (fun i=>l.getD i 0)):Calls Tryz.prog 62 #[.agg #[.int .i64 x,.int .i64 y,.int .i64 s,.slice none 0 0,.slice eo l.length ec],.int .i64 id,.int .i64 mx] w (fun r w' =>∃eo1 en1 ec1,r= .returned (.agg #[.int .i64 x,.int .i64 y,.int .i64 s,.slice none 0 0,.slice eo1 en1 ec1])∧IdV (fun b=>w.heap.size≤b) w' (.slice eo1 en1 ec1) (l.filter (fun z=>decide (z≠id)))∧Below w.heap.size w w'):=by
 obtain⟨i0,hi,hz0,hz1,hz2⟩:=info_parts Tryz.infoNo;obtain⟨n,hn⟩:∃n,l.length=n:=⟨_,rfl⟩;have HS:Hid (NoIn w eo n (fun i=>l.getD i 0)):=by rw[←hn];exact hN
 have HM:Hid (l.length=n):=hn;rw[hn] at hl⊢;clear hN hn;have hnI:(n:Int)≤1048576:=by omega
 have B0:Blk ((w.alloc (.cells #[.int .i64 x,.int .i64 y,.int .i64 s,.slice none 0 0,.slice eo n ec] 62)).alloc (.cells #[.int .i64 0,.int .i64 0,.int .i64 0,.slice none 0 0,.slice none 0 0] 62)) w.heap.size [.int .i64 x,.int .i64 y,.int .i64 s,.slice none 0 0,.slice eo n ec]:=(Blk.new w [.int .i64 x,.int .i64 y,.int .i64 s,.slice none 0 0,.slice eo n ec] 62 rfl).alloc _;have B2:Blk ((w.alloc (.cells #[.int .i64 x,.int .i64 y,.int .i64 s,.slice none 0 0,.slice eo n ec] 62)).alloc (.cells #[.int .i64 0,.int .i64 0,.int .i64 0,.slice none 0 0,.slice none 0 0] 62)) (w.heap.size+1) [.int .i64 0,.int .i64 0,.int .i64 0,.slice none 0 0,.slice none 0 0]:=Blk.new (w.alloc (.cells #[.int .i64 x,.int .i64 y,.int .i64 s,.slice none 0 0,.slice eo n ec] 62)) [.int .i64 0,.int .i64 0,.int .i64 0,.slice none 0 0,.slice none 0 0] 62 (by simp);have HB:Below w.heap.size w ((w.alloc (.cells #[.int .i64 x,.int .i64 y,.int .i64 s,.slice none 0 0,.slice eo n ec] 62)).alloc (.cells #[.int .i64 0,.int .i64 0,.int .i64 0,.slice none 0 0,.slice none 0 0] 62)):=((Below.refl _ w).alloc (Nat.le_refl _) _).alloc (by simp) _
 go_enter Tryz.func62,Tryz.ntmps62
 go_upto_region 1 with fail;generalize ((w.alloc (.cells #[.int .i64 x,.int .i64 y,.int .i64 s,.slice none 0 0,.slice eo n ec] 62)).alloc (.cells #[.int .i64 0,.int .i64 0,.int .i64 0,.slice none 0 0,.slice none 0 0] 62))=W1 at *;have hsz:w.heap.size+1<W1.heap.size:=B2.lt;have HO0:(W1.alloc (.cells #[] 2)).ownsRow (w.heap.size+2) 2 1 (.slice (some ⟨W1.heap.size,0,none⟩) 0 0) 0 []:=ownQ_mono2 (World.ownsRow_made W1 #[] 0 (Nat.le_refl _) (by decide) rfl) (by omega);have m3:=B0.c 3 rfl;go_upto_region 3 with fail;clear m3;replace B0:=B0.alloc (.cells #[] 2);replace B2:=B2.alloc (.cells #[] 2);replace HB:=HB.alloc (by omega) (.cells #[] 2);generalize (W1.alloc (.cells #[] 2))=W3 at *;go_wp2_with fail
 go_loopw [7,8] (fun o i wr=>∃c:Nat,c≤n∧i= .int .i64 c∧wr.ownsRow (w.heap.size+2) 2 1 o (fltC l id c).length ((fltC l id c).map (Value.int .i64))∧Blk wr w.heap.size [.int .i64 x,.int .i64 y,.int .i64 s,.slice none 0 0,.slice eo n ec]∧Blk wr (w.heap.size+1) [.int .i64 0,.int .i64 0,.int .i64 0,.slice none 0 0,.slice none 0 0]∧Below w.heap.size w wr) (fun _ i _=>n-(intOf i).toNat)
 case atStart=>exact⟨0,by omega,rfl,HO0,B0,B2,HB⟩
 case round=>
  clear HO0 HB B0 B2;obtain⟨c,hc,rfl,HO,B0,B2,HB⟩:=hrel;have hwl:=fltC_len l id c;have hsw:w.heap.size+1<wr.heap.size:=B2.lt;obtain⟨n1,hn1⟩:∃n1,(fltC l id c).length=n1:=⟨_,rfl⟩;have HN1:Hid ((fltC l id c).length=n1):=hn1;rw[hn1] at HO hwl;clear hn1
  by_cases hcm:c<n
  · obtain⟨A1,off,rfl,hA,hcell⟩:=HS.out.step HB c hcm;have hcI:(c:Int)<n:=by omega
    obtain⟨z,hz⟩:∃z,l[c]? =some z:=⟨_,List.getElem?_eq_getElem (by rw[HM.out];exact hcm)⟩;have hgd:l.getD c 0=z:=by rw[List.getD_eq_getElem?_getD,hz];rfl
    have HY:Hid (l[c]? =some z):=hz;replace hcell:wr.cell? ⟨A1,off+c,none⟩=some (.int .i64 z):=by rw[←hgd];exact hcell
    clear hgd hz;have m4:=B0.c 4 rfl
    by_cases hne:z=id
    · subst hne;have HN:Hid (wr.ownsRow (w.heap.size+2) 2 1 u7 (fltC l z (c+1)).length ((fltC l z (c+1)).map (Value.int .i64))):=by
       show wr.ownsRow _ _ _ _ _ _;rw[fltC_off HY.out rfl,HN1.out];exact HO
      clear HO;go_wp2;go_roundw
      case rel=>exact⟨c+1,by omega,by go_num,HN.out,B0,B2,HB⟩
      case measure=>simp[intOf];omega
    · go_wp2_with (at_builtin;refine wpList_append_own _ rfl _ _ 32 rfl (w.heap.size+2) 2 i0 (.int .i64 0) 1 8 Tryz.underlying32 hi hz0 hz1 hz2 rfl (by decide) _ _ _ rfl (ownA_step HO ((Below.refl _ _).alloc (Nat.le_refl _) _)) ⟨wr.heap.size,0,none⟩ 1 1 [.int .i64 (z)] rfl rfl (cell_one_new _ _ _) (one_cellQ _) (by unfold maxLen;omega) (by omega) (by have:=HB.size;simp;omega) ?_)
      intro v1 w1 hown1 hgrow1 _;have hgb:∀b,b<w.heap.size+2→w1.heap[b]? =wr.heap[b]? :=fun b hb=>(hgrow1.block b (by simp;omega) (fun e=>by have:=(HO.lt b e.symm).1;omega)).trans (((Below.refl _ wr).alloc (Nat.le_refl _) _).block b (by omega));have hgs:wr.heap.size≤w1.heap.size:=by have:=hgrow1.size;simp at this;omega
      have HBN:Below w.heap.size w w1:=(HB.alloc (by omega) _).grown hgrow1 (by simp;omega) (fun k hk=>by have:=(HO.lt k hk).1;omega);have HN:=intsMore (M:=fltC l id (c+1)) hown1 HN1.out (fltC_on HY.out hne);replace B0:=B0.keep hgs (hgb _ (by omega));replace B2:=B2.keep hgs (hgb _ (by omega));clear HO HB hown1 hgrow1 hcell hne m4 hgb hgs;go_wp2;go_roundw
      case rel=>exact⟨c+1,by omega,by go_num,HN,B0,B2,HBN⟩
      case measure=>simp[intOf];omega
  · obtain rfl:c=n:=by omega
    have HF0:Hid (fltC l id c=l.filter (fun z=>decide (z≠id))):=by
     show _=_;unfold fltC;rw[List.take_of_length_le (by rw[HM.out];exact Nat.le_refl _)]
    obtain⟨eo1,ec1,rfl⟩:=ownQ_slice HO;have hI:IdV (fun b=>w.heap.size+2≤b) wr (.slice eo1 n1 ec1) (fltC l id c):=IdV.of (by rw[HN1.out];exact HO);have B0N:Blk (wr.setCell ⟨w.heap.size,4,none⟩ (.slice eo1 n1 ec1)) w.heap.size [.int .i64 x,.int .i64 y,.int .i64 s,.slice none 0 0,.slice eo1 n1 ec1]:=B0.setI 4 (by simp) _;have B2N:Blk (wr.setCell ⟨w.heap.size,4,none⟩ (.slice eo1 n1 ec1)) (w.heap.size+1) [.int .i64 0,.int .i64 0,.int .i64 0,.slice none 0 0,.slice none 0 0]:=B2.keep (by simp[World.setCell]) (Below.heap_setCell _ _ _ _ (by show w.heap.size+1≠w.heap.size;omega));have HBN:Below w.heap.size w (wr.setCell ⟨w.heap.size,4,none⟩ (.slice eo1 n1 ec1)):=HB.setCell (Nat.le_refl _) _;have hIN:IdV (fun b=>w.heap.size+2≤b) (wr.setCell ⟨w.heap.size,4,none⟩ (.slice eo1 n1 ec1)) (.slice eo1 n1 ec1) (fltC l id c):=hI.keep (by simp[World.setCell]) (fun b hb _=>Below.heap_setCell _ _ _ _ (by show b≠w.heap.size;omega)) (fun _ h _=>h);have m0:=B0.c 0 rfl;have m1:=B0.c 1 rfl;have m2:=B0.c 2 rfl;have m3:=B0.c 3 rfl;have m4:=B0.c 4 rfl;have y0:=B0.f 0 rfl;have y1:=B0.f 1 rfl;have y2:=B0.f 2 rfl;have y3:=B0.f 3 rfl;have y4:=B0.f 4 rfl;clear hI HO;go_upto_region 9 with fail;clear m0 m1 m2 m3 m4 y0 y1 y2 y3 y4 B0 B2 HB;generalize (wr.setCell ⟨w.heap.size,4,none⟩ (.slice eo1 n1 ec1))=W4 at *;have m0:=B0N.c 0 rfl;have m1:=B0N.c 1 rfl;have m2:=B0N.c 2 rfl;have m3:=B0N.c 3 rfl;have m4:=B0N.c 4 rfl;have y0:=B2N.f 0 rfl;have y1:=B2N.f 1 rfl;have y2:=B2N.f 2 rfl;have y3:=B2N.f 3 rfl;have y4:=B2N.f 4 rfl;have z0:=B2N.c 0 rfl;have z1:=B2N.c 1 rfl;have z2:=B2N.c 2 rfl;have z3:=B2N.c 3 rfl;have z4:=B2N.c 4 rfl;have BF:=set5_blk B2N (.int .i64 x) (.int .i64 y) (.int .i64 s) (.slice none 0 0) (.slice eo1 n1 ec1);have HF:=set5_below HBN (show w.heap.size≤w.heap.size+1 by omega) (.int .i64 x) (.int .i64 y) (.int .i64 s) (.slice none 0 0) (.slice eo1 n1 ec1);have HI9:Hid (IdV (fun b=>w.heap.size≤b) (((((W4.setCell ⟨w.heap.size+1,0,none⟩ (.int .i64 x)).setCell ⟨w.heap.size+1,1,none⟩ (.int .i64 y)).setCell ⟨w.heap.size+1,2,none⟩ (.int .i64 s)).setCell ⟨w.heap.size+1,3,none⟩ (.slice none 0 0)).setCell ⟨w.heap.size+1,4,none⟩ (.slice eo1 n1 ec1)) (.slice eo1 n1 ec1) (fltC l id c)):=hIN.keep (by simp[World.setCell]) (fun b hb _=>set5_heap (by show b≠w.heap.size+1;omega)) (fun b hb _=>by omega);clear hIN;go_wp2;have r0:=BF.out.c 0 rfl;have r1:=BF.out.c 1 rfl;have r2:=BF.out.c 2 rfl;have r3:=BF.out.c 3 rfl;have r4:=BF.out.c 4 rfl;refine bodyPost_ret (v:= .agg #[.int .i64 x,.int .i64 y,.int .i64 s,.slice none 0 0,.slice eo1 n1 ec1]) (by simp[results,Tryz.results62,go_sem,r0,r1,r2,r3,r4]) rfl ?_;exact⟨eo1,n1,ec1,rfl,by rw[←HF0.out];exact HI9.out,HF⟩
def smT (n:Nat):QT→Prop
 | .leaf l=>l.length≤n
 | .node K=>∀k,k<4→smT n (K k)
theorem withL_len (n:Int):∀(l:List Int),(withL l n).length≤l.length+1
 | []=>Nat.le_refl _
 | a::l=>by
  have h:=withL_len n l;unfold withL at h⊢;simp only[List.length_append,List.length_cons] at h⊢
  rcases Int.lt_trichotomy a n with e | e | e
  · rw[List.filter_cons_of_pos (p:=fun z=>decide (z<n)) (decide_eq_true e),List.filter_cons_of_neg (p:=fun z=>decide (n<z)) (by simp;omega),List.length_cons]
    omega
  · rw[List.filter_cons_of_neg (p:=fun z=>decide (z<n)) (by simp;omega),List.filter_cons_of_neg (p:=fun z=>decide (n<z)) (by simp;omega)]
    omega
  · rw[List.filter_cons_of_neg (p:=fun z=>decide (z<n)) (by simp;omega),List.filter_cons_of_pos (p:=fun z=>decide (n<z)) (decide_eq_true e),List.length_cons]
    omega
theorem mrg_len:∀(l a:List Int),(mrgL a l).length≤a.length+l.length
 | [],_=>Nat.le_refl _
 | n::l,a=>by
  have h1:=mrg_len l (withL a n);have h2:=withL_len n a;show(mrgL (withL a n) l).length≤a.length+(l.length+1)
  omega
theorem allK_len {K:Nat→QT} {n:Nat}:∀{c:Nat},(∀k,k<c→(idsT (K k)).length≤n)→(allK K c).length≤c*n
 | 0,_=>Nat.zero_le _
 | c+1,h=>by
  have h1:=allK_len (K:=K) (n:=n) (c:=c) fun k hk=>h k (by omega);have h2:=h c (by omega);have h3:=mrg_len (idsT (K c)) (allK K c);rw[Nat.succ_mul];show(mrgL (allK K c) (idsT (K c))).length≤_
  omega
theorem cut_ids {mx id:Int} {n:Nat} (hn:mx≤n):∀{t:QT},smT n t→(idsT (cutT mx id t)).length≤n
 | .leaf l,h=>Nat.le_trans (List.length_filter_le _ _) h
 | .node K,_=>by
  unfold cutT
  split
  · rename_i h1
    have:=h1.2;show(allK _ 4).length≤n
    omega
  · exact Nat.zero_le _
theorem mrg_take (a:List Int) {l:List Int} {i:Nat} {z:Int} (h:l[i]? =some z):mrgL a (l.take (i+1))=withL (mrgL a (l.take i)) z:=by
 unfold mrgL;rw[List.take_add_one,h,List.foldl_append]
 rfl
theorem MTr.ids {ok:Nat→Prop} {w:World} {t:QT} {x y s:Int} {kv ev:Value} (h:MTr ok w t x y s kv ev):IdV ok w ev (idsT t):=by
 cases t with
 | leaf l=>exact h.2
 | node K=>exact h.1
theorem MTr.lf {ok:Nat→Prop} {w:World} {t:QT} {x y s:Int} {ko:Option Addr} {kn kc:Nat} {ev:Value} (h:MTr ok w t x y s (.slice ko kn kc) ev):(kn=0∧isLf t=true)∨(kn=4∧isLf t=false):=by
 cases t with
 | leaf l=>have h1:=h.1;cases h1;exact .inl ⟨rfl,rfl⟩
 | node K=>obtain⟨_,A,kc',h1,_⟩:=h;cases h1;exact .inr ⟨rfl,rfl⟩
def okC (ok:Nat→Prop) (P:Nat) (v:Value) (b:Nat):Prop:=(ok b∧b<P)∨(P+1<b∧some b≠v.ownBlock)
theorem cut_node {mx id:Int} {K TK:Nat→QT} (h:(fun k=>cutT mx id (K k))=TK):∃TR:Nat→QT,(∀k,k<4→TR k=TK k)∧cutT mx id (.node K)=if lfK TK 4=true∧((allK TK 4).length:Int)≤mx then .leaf (allK TK 4) else .node TR:=by
 refine⟨fun k=>if k<4 then cutT mx id (K k) else K k,fun k hk=>?_,?_⟩
 · rw[←h];exact if_pos hk
 · rw[←h]
   rfl
theorem l13Cut_any (mx id:Int) (n:Nat) (hmx:mx≤n) (hn:n≤1000) (t:QT):∀(x y s:Int) (ok:Nat→Prop) (kv ev:Value) (w:World),smT n t→MTr ok w t x y s kv ev→Calls Tryz.prog 62 #[.agg #[.int .i64 x,.int .i64 y,.int .i64 s,kv,ev],.int .i64 id,.int .i64 mx] w (PuM ok (cutT mx id t) x y s w):=by
 obtain⟨i0,hi0,hz0,hz1,hz2⟩:=info_b13
 induction t with
 | leaf l=>
  intro x y s ok kv ev w hsm hM;obtain⟨rfl,eo,ec,rfl,hN,hn0,hok⟩:=hM;have hl:l.length≤n:=hsm;refine(l13Cut_leaf x y s mx id l (by omega) eo ec w hN).mono ?_;rintro r w' ⟨eo1,en1,ec1,rfl,hI,hB⟩;exact⟨none,0,0,eo1,en1,ec1,rfl,⟨rfl,hI.keep (Nat.le_refl _) (fun _ _ _=>rfl) (fun _ h _=> .inr h)⟩,hB⟩
 | node K ih=>
  intro x y s ok kv ev w hsm hM;obtain⟨hE,A,kc,rfl,hA,hoA,hk⟩:=hM;have HE:Hid (IdV ok w ev []):=hE;obtain⟨eo,ec,rfl,_⟩:=hE;obtain⟨hf,hhf⟩:∃hf,s / 2=hf:=⟨_,rfl⟩;have HHF:Hid (s / 2=hf):=hhf;rw[hhf] at hk;obtain⟨TK,hTK⟩:∃TK:Nat→QT,(fun k=>cutT mx id (K k))=TK:=⟨_,rfl⟩;have HTK:Hid ((fun k=>cutT mx id (K k))=TK):=hTK;obtain⟨TR,hTR,hcut0⟩:=cut_node hTK;have HTR:Hid (∀k,k<4→TR k=TK k):=hTR;obtain⟨TT,hTT⟩:∃TT:QT,cutT mx id (.node K)=TT:=⟨_,rfl⟩;have HTT:Hid (TT=if lfK TK 4=true∧((allK TK 4).length:Int)≤mx then .leaf (allK TK 4) else .node TR):=by rw[←hTT];exact hcut0
  rw[hTT];clear hTT;have HID:Hid (∀k,k<4→(idsT (TK k)).length≤n):=fun k hk4=>by rw[←hTK];exact cut_ids hmx (hsm k hk4)
  have HSM:Hid (∀k,k<4→smT n (K k)):=hsm;have HK:Hid (∀k,k<4→∃kv' ev',w.cell? ⟨A,k*5,none⟩=some (.int .i64 (kX x hf k))∧w.cell? ⟨A,k*5+1,none⟩=some (.int .i64 (kY y hf k))∧w.cell? ⟨A,k*5+2,none⟩=some (.int .i64 hf)∧w.cell? ⟨A,k*5+3,none⟩=some kv' ∧w.cell? ⟨A,k*5+4,none⟩=some ev' ∧MTr ok w (K k) (kX x hf k) (kY y hf k) hf kv' ev'):=hk;change Calls _ _ #[.agg #[.int .i64 x,.int .i64 y,.int .i64 s,.slice (some ⟨A,0,none⟩) 4 kc,.slice eo 0 ec],_,_] _ _;clear hhf hTK hk hsm hTR hcut0;have B0:Blk ((w.alloc (.cells #[.int .i64 x,.int .i64 y,.int .i64 s,.slice (some ⟨A,0,none⟩) 4 kc,.slice eo 0 ec] 62)).alloc (.cells #[.int .i64 0,.int .i64 0,.int .i64 0,.slice none 0 0,.slice none 0 0] 62)) w.heap.size [.int .i64 x,.int .i64 y,.int .i64 s,.slice (some ⟨A,0,none⟩) 4 kc,.slice eo 0 ec]:=(Blk.new w [.int .i64 x,.int .i64 y,.int .i64 s,.slice (some ⟨A,0,none⟩) 4 kc,.slice eo 0 ec] 62 rfl).alloc _;have B2:Blk ((w.alloc (.cells #[.int .i64 x,.int .i64 y,.int .i64 s,.slice (some ⟨A,0,none⟩) 4 kc,.slice eo 0 ec] 62)).alloc (.cells #[.int .i64 0,.int .i64 0,.int .i64 0,.slice none 0 0,.slice none 0 0] 62)) (w.heap.size+1) [.int .i64 0,.int .i64 0,.int .i64 0,.slice none 0 0,.slice none 0 0]:=Blk.new (w.alloc (.cells #[.int .i64 x,.int .i64 y,.int .i64 s,.slice (some ⟨A,0,none⟩) 4 kc,.slice eo 0 ec] 62)) [.int .i64 0,.int .i64 0,.int .i64 0,.slice none 0 0,.slice none 0 0] 62 (by simp);have HB:Below w.heap.size w ((w.alloc (.cells #[.int .i64 x,.int .i64 y,.int .i64 s,.slice (some ⟨A,0,none⟩) 4 kc,.slice eo 0 ec] 62)).alloc (.cells #[.int .i64 0,.int .i64 0,.int .i64 0,.slice none 0 0,.slice none 0 0] 62)):=((Below.refl _ w).alloc (Nat.le_refl _) _).alloc (by simp) _
  go_enter Tryz.func62,Tryz.ntmps62
  go_upto_region 1 with fail;generalize ((w.alloc (.cells #[.int .i64 x,.int .i64 y,.int .i64 s,.slice (some ⟨A,0,none⟩) 4 kc,.slice eo 0 ec] 62)).alloc (.cells #[.int .i64 0,.int .i64 0,.int .i64 0,.slice none 0 0,.slice none 0 0] 62))=W1 at *;have hsz:w.heap.size+1<W1.heap.size:=B2.lt;have HO0:(W1.alloc (.cells #[] 62)).ownsRow (w.heap.size+2) 62 5 (.slice (some ⟨W1.heap.size,0,none⟩) 0 0) 0 []:=ownQ_mono2 (World.ownsRow_made W1 #[] 0 (Nat.le_refl _) (by decide) rfl) (by omega);have m3:=B0.c 3 rfl;go_upto_region 11 with fail;clear m3;replace B0:=B0.alloc (.cells #[] 62);replace B2:=B2.alloc (.cells #[] 62);replace HB:=HB.alloc (by omega) (.cells #[] 62);have hs2:W1.heap.size<(W1.alloc (.cells #[] 62)).heap.size:=by simp
  generalize (W1.alloc (.cells #[] 62))=W2 at *;have HA0:(W2.alloc (.cells #[] 2)).ownsRow (w.heap.size+2) 2 1 (.slice (some ⟨W2.heap.size,0,none⟩) 0 0) 0 []:=ownQ_mono2 (World.ownsRow_made W2 #[] 0 (Nat.le_refl _) (by decide) rfl) (by omega);go_upto_region 12 with fail;replace HO0:=ownA_step HO0 ((Below.refl _ _).alloc (Nat.le_refl _) (.cells #[] 2));replace B0:=B0.alloc (.cells #[] 2);replace B2:=B2.alloc (.cells #[] 2);replace HB:=HB.alloc (by omega) (.cells #[] 2);generalize (W2.alloc (.cells #[] 2))=W3 at *;go_wp2_with fail
  go_loopw [9,10,11,12] (fun v av lf ic wr=>∃(c:Nat) (kvf evf:Nat→Value) (vv aa:Value),vv=v∧aa=av∧c≤4∧lf= .bool (lfK TK c)∧ic= .int .i64 c∧Blk wr w.heap.size [.int .i64 x,.int .i64 y,.int .i64 s,.slice (some ⟨A,0,none⟩) 4 kc,.slice eo 0 ec]∧Blk wr (w.heap.size+1) [.int .i64 0,.int .i64 0,.int .i64 0,.slice none 0 0,.slice none 0 0]∧wr.ownsRow (w.heap.size+2) 62 5 vv c (kdL x y hf kvf evf c)∧wr.ownsRow (w.heap.size+2) 2 1 aa (allK TK c).length ((allK TK c).map (Value.int .i64))∧(∀b,aa.ownBlock=some b→some b≠vv.ownBlock)∧(∀i,i<c→MTr (okC ok w.heap.size vv) wr (TK i) (kX x hf i) (kY y hf i) hf (kvf i) (evf i))∧Below w.heap.size w wr) (fun _ _ _ i _=>4-(intOf i).toNat)
  case atStart=>exact⟨0,fun _=> .slice none 0 0,fun _=> .slice none 0 0,_,_,rfl,rfl,by omega,rfl,rfl,B0,B2,HO0,HA0,fun b hb e=>(by have h1:W2.heap.size=b:=Option.some.inj hb;have h2:b=W1.heap.size:=Option.some.inj e;omega),fun i hi=>absurd hi (by omega),HB⟩
  case round=>
   clear B0 B2 HO0 HA0 HB hs2 hsz;obtain⟨c,kvf,evf,vv,aa,rfl,rfl,hc,rfl,rfl,B0,B2,HO,HOA,hne,HM,HB⟩:=hrel;have hPl:w.heap.size+1<wr.heap.size:=B2.lt;obtain⟨b1,hb1⟩:∃b1,lfK TK c=b1:=⟨_,rfl⟩;have HB1:Hid (lfK TK c=b1):=hb1;rw[hb1];clear hb1
   by_cases hc4:c<4
   · have hcI:(c:Int)<4:=by omega
     obtain⟨kv',ev',c0,c1,c2,c3,c4,hMk⟩:=HK.out c hc4;obtain⟨ko,kn,kc',eo',en',ec',rfl,rfl⟩:=hMk.vals;have hM2:MTr (fun b=>ok b∧b<w.heap.size) wr (K c) (kX x hf c) (kY y hf c) hf (.slice ko kn kc') (.slice eo' en' ec'):=MTr.keep HB.size (fun b _ hb=>HB.block b hb) (fun b h h2=>⟨h,h2⟩) hMk;have C:=ih c (kX x hf c) (kY y hf c) hf (fun b=>ok b∧b<w.heap.size) _ _ wr (HSM.out c hc4) hM2;rw[show cutT mx id (K c)=TK c from by rw[←HTK.out]] at C;have hcc:∀i,wr.cell? ⟨A,i,none⟩=w.cell? ⟨A,i,none⟩:=fun i=>HB.cell (p:=⟨A,i,none⟩) hA;have e0:=(hcc _).trans c0;have e1:=(hcc _).trans c1;have e2:=(hcc _).trans c2;have e3:=(hcc _).trans c3;have e4:=(hcc _).trans c4;have m3:=B0.c 3 rfl;clear hM2 hMk c0 c1 c2 c3 c4 hcc;go_wp2_with fail;refine C.mono ?_;rintro r w1 ⟨ko1,kn1,kc1,eo1,en1,ec1,rfl,hT,hB1⟩;clear C m3 e0 e1 e2 e3 e4;have B5:Blk (w1.alloc (.cells #[.int .i64 (kX x hf c),.int .i64 (kY y hf c),.int .i64 hf,.slice ko1 kn1 kc1,.slice eo1 en1 ec1] 62)) w1.heap.size [.int .i64 (kX x hf c),.int .i64 (kY y hf c),.int .i64 hf,.slice ko1 kn1 kc1,.slice eo1 en1 ec1]:=Blk.new w1 [.int .i64 (kX x hf c),.int .i64 (kY y hf c),.int .i64 hf,.slice ko1 kn1 kc1,.slice eo1 en1 ec1] 62 rfl;have HB15:Below wr.heap.size wr (w1.alloc (.cells #[.int .i64 (kX x hf c),.int .i64 (kY y hf c),.int .i64 hf,.slice ko1 kn1 kc1,.slice eo1 en1 ec1] 62)):=hB1.alloc hB1.size _;have HM5:Hid (∀j,j<c→MTr (okC ok w.heap.size vv) (w1.alloc (.cells #[.int .i64 (kX x hf c),.int .i64 (kY y hf c),.int .i64 hf,.slice ko1 kn1 kc1,.slice eo1 en1 ec1] 62)) (TK j) (kX x hf j) (kY y hf j) hf (kvf j) (evf j)):=fun j hj=>(HM j hj).step HB15;have hT5:MTr (fun b=>(ok b∧b<w.heap.size)∨wr.heap.size≤b) (w1.alloc (.cells #[.int .i64 (kX x hf c),.int .i64 (kY y hf c),.int .i64 hf,.slice ko1 kn1 kc1,.slice eo1 en1 ec1] 62)) (TK c) (kX x hf c) (kY y hf c) hf (.slice ko1 kn1 kc1) (.slice eo1 en1 ec1):=hT.step ((Below.refl _ _).alloc (Nat.le_refl _) _);have hvb:∀b,vv.ownBlock=some b→w.heap.size+2≤b∧b<wr.heap.size:=fun b hb=>HO.lt b hb;go_upto_region 17 with fail;replace B0:=B0.step HB15;replace B2:=B2.step HB15;replace HO:=ownA_step HO HB15;replace HOA:=ownA_step HOA HB15;replace HB:=HB.trans (HB15.mono HB.size);have hwr5:=HB15.size;have hw15:=hB1.size;have hPl5:w1.heap.size<(w1.alloc (.cells #[.int .i64 (kX x hf c),.int .i64 (kY y hf c),.int .i64 hf,.slice ko1 kn1 kc1,.slice eo1 en1 ec1] 62)).heap.size:=by simp
     clear HM hT HB15 hB1;generalize (w1.alloc (.cells #[.int .i64 (kX x hf c),.int .i64 (kY y hf c),.int .i64 hf,.slice ko1 kn1 kc1,.slice eo1 en1 ec1] 62))=W5 at *;obtain⟨G5,hG5⟩:∃G5,w1.heap.size=G5:=⟨_,rfl⟩;rw[hG5] at B5 hw15 hPl5⊢;clear hG5;have p0:=B5.c 0 rfl;have p1:=B5.c 1 rfl;have p2:=B5.c 2 rfl;have p3:=B5.c 3 rfl;have p4:=B5.c 4 rfl;have HO6:=ownA_step HO ((Below.refl _ _).alloc (Nat.le_refl _) (.cells #[.int .i64 (kX x hf c),.int .i64 (kY y hf c),.int .i64 hf,.slice ko1 kn1 kc1,.slice eo1 en1 ec1] 62));have hs6:Hid ((W5.alloc (.cells #[.int .i64 (kX x hf c),.int .i64 (kY y hf c),.int .i64 hf,.slice ko1 kn1 kc1,.slice eo1 en1 ec1] 62)).heap.size=W5.heap.size+1):=by show(W5.alloc _).heap.size=_;simp
     go_wp2_with (at_builtin;go_loud (refine wpList_append_own_at _ rfl _ _ 60 rfl (w.heap.size+2) 62 i0 (.agg #[.int .i64 0,.int .i64 0,.int .i64 0,.slice none 0 0,.slice none 0 0]) 5 72 Tryz.underlying60 hi0 hz0 hz1 hz2 rfl (by decide) _ _ _ rfl HO6 ⟨W5.heap.size,0,none⟩ 1 1 [.int .i64 (kX x hf c),.int .i64 (kY y hf c),.int .i64 hf,.slice ko1 kn1 kc1,.slice eo1 en1 ec1] rfl rfl (new_cells _ _ _) (one5 _ _ _ _ _ _ _ _ _) (by unfold maxLen;omega) (by omega) (by have:=hs6.out;omega) ?_))
     intro v' w' hown hgrow _ hob;have hold:∀b,b<W5.heap.size→some b≠vv.ownBlock→w'.heap[b]? =W5.heap[b]? :=fun b hb hne2=>(hgrow.block b (by have:=hs6.out;omega) hne2).trans (((Below.refl W5.heap.size W5).alloc (Nat.le_refl _) _).block b hb);have hsz5:W5.heap.size≤w'.heap.size:=by have h:=hgrow.size;have:=hs6.out;omega
     have HKN:Hid (∀j,j<c+1→MTr (okC ok w.heap.size v') w' (TK j) (kX x hf j) (kY y hf j) hf (setV kvf c (.slice ko1 kn1 kc1) j) (setV evf c (.slice eo1 en1 ec1) j)):=fun j hj=>by
      by_cases e2:j=c
      · subst e2;rw[show setV kvf j (.slice ko1 kn1 kc1) j= .slice ko1 kn1 kc1 from if_pos rfl,show setV evf j (.slice eo1 en1 ec1) j= .slice eo1 en1 ec1 from if_pos rfl];refine MTr.keep hsz5 (fun b hb hb2=>hold b hb2 (fun e3=>by have:=hvb b e3.symm;rcases hb with hb | hb<;>omega)) (fun b hb hb2=>?_) hT5
        rcases hb with hb | hb
        · exact .inl hb
        · refine .inr ⟨by omega,fun e3=>?_⟩
          rcases hob with h | h
          · rw[h] at e3;have:=hvb b e3.symm;omega
          · rw[h] at e3;have:=Option.some.inj e3;have:=hs6.out;omega
      · rw[show setV kvf c (.slice ko1 kn1 kc1) j=kvf j from if_neg e2,show setV evf c (.slice eo1 en1 ec1) j=evf j from if_neg e2];refine MTr.keep hsz5 (fun b hb hb2=>hold b hb2 (fun e3=>?_)) (fun b hb hb2=>?_) (HM5.out j (by omega))
        · rcases hb with hb | hb
          · have:=hvb b e3.symm;omega
          · exact hb.2 e3
        · rcases hb with hb | hb
          · exact .inl hb
          · refine .inr ⟨hb.1,fun e3=>?_⟩
            rcases hob with h | h
            · rw[h] at e3;exact hb.2 e3
            · rw[h] at e3;have:=Option.some.inj e3;have:=hs6.out;omega
     have HOA7:w'.ownsRow (w.heap.size+2) 2 1 aa (allK TK c).length ((allK TK c).map (Value.int .i64)):=ownQ_heap HOA (fun b hb=>hold b (HOA.lt b hb).2 (hne b hb));have hne7:∀b,aa.ownBlock=some b→some b≠v'.ownBlock:=fun b hb e3=>by
      have hb2:=(HOA.lt b hb).2
      rcases hob with h | h
      · rw[h] at e3;exact hne b hb e3
      · rw[h] at e3;have:=Option.some.inj e3;have:=hs6.out;omega
     have hT7:=HKN.out c (by omega);rw[show setV kvf c (.slice ko1 kn1 kc1) c= .slice ko1 kn1 kc1 from if_pos rfl,show setV evf c (.slice eo1 en1 ec1) c= .slice eo1 en1 ec1 from if_pos rfl] at hT7;have hlf:=hT7.lf;have hI7:=hT7.ids;obtain⟨ao',cap',rfl⟩:=ownQ_slice hown;rw[←kdL_set] at hown;have B57:Blk w' G5 [.int .i64 (kX x hf c),.int .i64 (kY y hf c),.int .i64 hf,.slice ko1 kn1 kc1,.slice eo1 en1 ec1]:=B5.keep hsz5 (hold G5 B5.lt (fun e3=>by have:=hvb G5 e3.symm;omega));have B07:=B0.keep hsz5 (hold _ B0.lt (fun e3=>by have:=hvb _ e3.symm;omega));have B27:=B2.keep hsz5 (hold _ B2.lt (fun e3=>by have:=hvb _ e3.symm;omega));have HB7:Below w.heap.size w w' :=(HB.alloc (by omega) _).grown hgrow (by have:=hs6.out;omega) (fun b hb=>by have:=hvb b hb;omega);have hvb7:∀b,(Value.slice ao' (c+1) cap').ownBlock=some b→b<w'.heap.size:=fun b hb=>(hown.lt b hb).2;clear hold hsz5 hgrow hob HO6 hs6 p0 p1 p2 p3 p4 HO HOA B0 B2 HB hT5 HM5 B5 hvb hT7 hne hPl5 hwr5 hw15;have p3:=B57.c 3 rfl;obtain⟨b2,hb2⟩:∃b2,isLf (TK c)=b2:=⟨_,rfl⟩;rw[hb2] at hlf;have HLF:Hid (lfK TK (c+1)=(b1&&b2)):=by show(lfK TK c&&isLf (TK c))=(b1&&b2);rw[HB1.out,hb2]
     clear hb2;go_upto_region 18 with fail
     go_cut [11] (fun p wx=>p= .bool (b1&&b2)∧w' =wx)
     case first=>
      rcases hlf with ⟨h0,h1⟩ | ⟨h0,h1⟩<;>subst h0<;>subst h1<;>cases b1<;>go_wp2<;>go_meet<;>exact⟨rfl,rfl⟩
     case rest=>
      obtain⟨rfl,rfl⟩:=hcut;clear hlf p3;obtain⟨ai,ci,h1,hNo,_,_⟩:=hI7;obtain⟨L,hL⟩:∃L,idsT (TK c)=L:=⟨_,rfl⟩;have HL:Hid (idsT (TK c)=L):=hL;have hLn:=HID.out c hc4;rw[hL] at h1 hNo hLn;clear hL;cases h1;obtain⟨en,hen⟩:∃en,L.length=en:=⟨_,rfl⟩;have HEN:Hid (L.length=en):=hen;rw[hen] at hNo hLn B57 hown;have HKN2:Hid (∀j,j<c+1→MTr (okC ok w.heap.size (.slice ao' (c+1) cap')) w' (TK j) (kX x hf j) (kY y hf j) hf (setV kvf c (.slice ko1 kn1 kc1) j) (setV evf c (.slice eo1 en ec1) j)):=by
       have:=HKN.out;rw[hen] at this;exact this
      have HNO:Hid (NoIn w' eo1 en (fun i=>L.getD i 0)):=hNo;have hAl:=allK_len (n:=n) (K:=TK) (c:=c) (fun k hk=>HID.out k (by omega));clear hen HKN hNo;have hcn:c*n≤4*1000:=Nat.mul_le_mul (by omega) hn;go_wp2_with fail
      go_loopw [10,14] (fun av ii wr=>∃(i:Nat) (az:Value),az=av∧i≤en∧ii= .int .i64 i∧wr.ownsRow (w.heap.size+2) 2 1 az (mrgL (allK TK c) (L.take i)).length ((mrgL (allK TK c) (L.take i)).map (Value.int .i64))∧(∀b,az.ownBlock=some b→some b≠(Value.slice ao' (c+1) cap').ownBlock)∧Below w'.heap.size w' wr) (fun _ i _=>en-(intOf i).toNat)
      case atStart=>exact⟨0,aa,rfl,by omega,rfl,HOA7,hne7,Below.refl _ _⟩
      case round=>
       clear HOA7 hne7;obtain⟨i,az,rfl,hi,rfl,HOZ,hnz,HBZ⟩:=hrel
       by_cases hie:i<en
       · have hiI:(i:Int)<en:=by omega
         obtain⟨A1,off,rfl,hA1,hcell⟩:=HNO.out.step HBZ i hie;obtain⟨z,hz⟩:∃z,L[i]? =some z:=⟨_,List.getElem?_eq_getElem (by rw[HEN.out];exact hie)⟩;have hgd:L.getD i 0=z:=by rw[List.getD_eq_getElem?_getD,hz];rfl
         have HY:Hid (L[i]? =some z):=hz;replace hcell:wr.cell? ⟨A1,off+i,none⟩=some (.int .i64 z):=by rw[←hgd];exact hcell
         clear hgd hz;have hml:=mrg_len (L.take i) (allK TK c);rw[List.length_take] at hml;obtain⟨a3,n3,h3,hN3,_,_⟩:=IdV.of HOZ;subst h3;have hWl:w.heap.size+1<wr.heap.size:=Nat.lt_of_lt_of_le B27.lt HBZ.size;have C:=l7With_up a3 n3 (mrgL (allK TK c) (L.take i)) z (up_mrg _ (up_allK TK c)) (by omega) wr hN3;rw[←mrg_take _ HY.out] at C;obtain⟨nl,hnl⟩:∃nl,(mrgL (allK TK c) (L.take i)).length=nl:=⟨_,rfl⟩;rw[hnl] at C HOZ⊢;have p4:=(B57.step HBZ).c 4 rfl;clear hN3 hml hnl;go_wp2_with fail;refine C.mono ?_;rintro r w2 ⟨v2,rfl,hown2,hB2⟩;clear C p4 hcell;have HN2:Hid (w2.ownsRow (w.heap.size+2) 2 1 v2 (mrgL (allK TK c) (L.take (i+1))).length ((mrgL (allK TK c) (L.take (i+1))).map (Value.int .i64))):=ownQ_mono2 hown2 (by omega);have hnz2:Hid (∀b,v2.ownBlock=some b→some b≠(Value.slice ao' (c+1) cap').ownBlock):=fun b hb e3=>by
          have h4:=(hown2.lt b hb).1;have h5:=hvb7 b e3.symm;have h6:=HBZ.size
          omega
         replace HBZ:=HBZ.trans (hB2.mono HBZ.size);clear hown2 hB2 HOZ hnz;go_wp2;go_roundw
         case rel=>exact⟨i+1,v2,rfl,by omega,by go_num,HN2.out,hnz2.out,HBZ⟩
         case measure=>simp[intOf];omega
       · obtain rfl:i=en:=by omega
         have HAN:Hid (wr.ownsRow (w.heap.size+2) 2 1 az (allK TK (c+1)).length ((allK TK (c+1)).map (Value.int .i64))):=by
          show wr.ownsRow _ _ _ _ _ _;rw[List.take_of_length_le (by rw[HEN.out];exact Nat.le_refl _)] at HOZ;rw[show allK TK (c+1)=mrgL (allK TK c) L from by rw[←HL.out];rfl];exact HOZ
         replace B07:=B07.step HBZ;replace B27:=B27.step HBZ;have p4:=(B57.step HBZ).c 4 rfl;have HON:=ownA_step hown HBZ;have HMN:Hid (∀j,j<c+1→MTr (okC ok w.heap.size (.slice ao' (c+1) cap')) wr (TK j) (kX x hf j) (kY y hf j) hf (setV kvf c (.slice ko1 kn1 kc1) j) (setV evf c (.slice eo1 i ec1) j)):=fun j hj=>(HKN2.out j hj).step HBZ;have HBN:=HB7.trans (HBZ.mono HB7.size);have HNZ:Hid (∀b,az.ownBlock=some b→some b≠(Value.slice ao' (c+1) cap').ownBlock):=hnz;clear HOZ hnz HBZ hown B57 HB7 HKN2 HNO hvb7;go_wp2;go_roundw
         case rel=>exact⟨c+1,_,_,_,_,rfl,rfl,by omega,congrArg Value.bool HLF.out.symm,by go_num,B07,B27,HON,HAN.out,HNZ.out,HMN.out,HBN⟩
         case measure=>simp[intOf];omega
   · obtain rfl:c=4:=by omega
     have hA4:=allK_len (n:=n) (K:=TK) (c:=4) HID.out;obtain⟨a4,c4,hI4⟩:=ownQ_slice HOA;subst hI4;have hI4:=IdV.of HOA;obtain⟨n4,hn4⟩:∃n4,(allK TK 4).length=n4:=⟨_,rfl⟩;have HT4:Hid (TT=if lfK TK 4=true∧(n4:Int)≤mx then .leaf (allK TK 4) else .node TR):=by show _=_;rw[←hn4];exact HTT.out
     rw[hn4] at HOA hA4 hI4⊢;have HN4:Hid ((allK TK 4).length=n4):=hn4;clear hn4
     by_cases hres:b1=true∧(n4:Int)≤mx
     · obtain⟨rfl,hle⟩:=hres;obtain rfl:TT= .leaf (allK TK 4):=by rw[HT4.out,if_pos ⟨HB1.out,hle⟩]
       clear HT4 HTT;have m0:=B0.c 0 rfl;have m1:=B0.c 1 rfl;have m2:=B0.c 2 rfl;have m3:=B0.c 3 rfl;have m4:=B0.c 4 rfl;have y0:=B0.f 0 rfl;have y1:=B0.f 1 rfl;have y2:=B0.f 2 rfl;have y3:=B0.f 3 rfl;have y4:=B0.f 4 rfl;have B0N:Blk ((wr.setCell ⟨w.heap.size,3,none⟩ (.slice none 0 0)).setCell ⟨w.heap.size,4,none⟩ (.slice a4 n4 c4)) w.heap.size [.int .i64 x,.int .i64 y,.int .i64 s,.slice none 0 0,.slice a4 n4 c4]:=(B0.setI 3 (by simp) _).setI 4 (by simp) _;have hne0:∀b,b≠w.heap.size→((wr.setCell ⟨w.heap.size,3,none⟩ (.slice none 0 0)).setCell ⟨w.heap.size,4,none⟩ (.slice a4 n4 c4)).heap[b]? =wr.heap[b]? :=fun b hb=>(Below.heap_setCell _ _ _ _ hb).trans (Below.heap_setCell _ _ _ _ hb);have hss:wr.heap.size≤((wr.setCell ⟨w.heap.size,3,none⟩ (.slice none 0 0)).setCell ⟨w.heap.size,4,none⟩ (.slice a4 n4 c4)).heap.size:=by simp[World.setCell]
       have B2N:Blk ((wr.setCell ⟨w.heap.size,3,none⟩ (.slice none 0 0)).setCell ⟨w.heap.size,4,none⟩ (.slice a4 n4 c4)) (w.heap.size+1) [.int .i64 0,.int .i64 0,.int .i64 0,.slice none 0 0,.slice none 0 0]:=B2.keep hss (hne0 _ (by omega));have HBN:Below w.heap.size w ((wr.setCell ⟨w.heap.size,3,none⟩ (.slice none 0 0)).setCell ⟨w.heap.size,4,none⟩ (.slice a4 n4 c4)):=(HB.setCell (Nat.le_refl _) _).setCell (Nat.le_refl _) _;have hIN:IdV (fun b=>w.heap.size+2≤b) ((wr.setCell ⟨w.heap.size,3,none⟩ (.slice none 0 0)).setCell ⟨w.heap.size,4,none⟩ (.slice a4 n4 c4)) (.slice a4 n4 c4) (allK TK 4):=hI4.keep hss (fun b hb _=>hne0 b (by omega)) (fun _ h _=>h);clear hI4 HOA HO HM hne hne0 hss;go_upto_region 26 with fail;clear m0 m1 m2 m3 m4 y0 y1 y2 y3 y4 B0 B2 HB;generalize ((wr.setCell ⟨w.heap.size,3,none⟩ (.slice none 0 0)).setCell ⟨w.heap.size,4,none⟩ (.slice a4 n4 c4))=W4 at *;have m0:=B0N.c 0 rfl;have m1:=B0N.c 1 rfl;have m2:=B0N.c 2 rfl;have m3:=B0N.c 3 rfl;have m4:=B0N.c 4 rfl;have y0:=B2N.f 0 rfl;have y1:=B2N.f 1 rfl;have y2:=B2N.f 2 rfl;have y3:=B2N.f 3 rfl;have y4:=B2N.f 4 rfl;have z0:=B2N.c 0 rfl;have z1:=B2N.c 1 rfl;have z2:=B2N.c 2 rfl;have z3:=B2N.c 3 rfl;have z4:=B2N.c 4 rfl;have BF:=set5_blk B2N (.int .i64 x) (.int .i64 y) (.int .i64 s) (.slice none 0 0) (.slice a4 n4 c4);have HF:=set5_below HBN (show w.heap.size≤w.heap.size+1 by omega) (.int .i64 x) (.int .i64 y) (.int .i64 s) (.slice none 0 0) (.slice a4 n4 c4);have HI9:Hid (IdV (fun b=>w.heap.size≤b) (((((W4.setCell ⟨w.heap.size+1,0,none⟩ (.int .i64 x)).setCell ⟨w.heap.size+1,1,none⟩ (.int .i64 y)).setCell ⟨w.heap.size+1,2,none⟩ (.int .i64 s)).setCell ⟨w.heap.size+1,3,none⟩ (.slice none 0 0)).setCell ⟨w.heap.size+1,4,none⟩ (.slice a4 n4 c4)) (.slice a4 n4 c4) (allK TK 4)):=hIN.keep (by simp[World.setCell]) (fun b hb _=>set5_heap (by show b≠w.heap.size+1;omega)) (fun b hb _=>by omega);clear hIN;go_wp2;have r0:=BF.out.c 0 rfl;have r1:=BF.out.c 1 rfl;have r2:=BF.out.c 2 rfl;have r3:=BF.out.c 3 rfl;have r4:=BF.out.c 4 rfl;refine bodyPost_ret (v:= .agg #[.int .i64 x,.int .i64 y,.int .i64 s,.slice none 0 0,.slice a4 n4 c4]) (by simp[results,Tryz.results62,go_sem,r0,r1,r2,r3,r4]) rfl ?_;exact⟨none,0,0,a4,n4,c4,rfl,⟨rfl,HI9.out.keep (Nat.le_refl _) (fun _ _ _=>rfl) (fun _ h _=> .inr h)⟩,HF⟩
     · obtain rfl:TT= .node TR:=by rw[HT4.out,if_neg (fun e=>hres ⟨HB1.out.symm.trans e.1,e.2⟩)]
       clear HT4 HTT;go_upto_region 23 with fail
       go_cut [90] (fun p wx=>p= .bool false∧wr=wx)
       case first=>
        cases b1
        · go_wp2;go_meet;exact⟨rfl,rfl⟩
        · have hgt:¬((n4:Int)≤mx):=fun e=>hres ⟨rfl,e⟩;go_wp2;go_meet;exact⟨by first | rfl | exact congrArg Value.bool (decide_eq_false hgt),rfl⟩
       case rest=>
        obtain⟨rfl,rfl⟩:=hcut;clear hres hI4 HOA hne;obtain⟨gk,ck,rfl,hgk1,hgk2,_,_⟩:=ownQ_form HO (by omega);have m0:=B0.c 0 rfl;have m1:=B0.c 1 rfl;have m2:=B0.c 2 rfl;have m3:=B0.c 3 rfl;have m4:=B0.c 4 rfl;have y0:=B0.f 0 rfl;have y1:=B0.f 1 rfl;have y2:=B0.f 2 rfl;have y3:=B0.f 3 rfl;have y4:=B0.f 4 rfl;have B0N:Blk (wr.setCell ⟨w.heap.size,3,none⟩ (.slice (some ⟨gk,0,none⟩) 4 ck)) w.heap.size [.int .i64 x,.int .i64 y,.int .i64 s,.slice (some ⟨gk,0,none⟩) 4 ck,.slice eo 0 ec]:=B0.setI 3 (by simp) _;have hne0:∀b,b≠w.heap.size→(wr.setCell ⟨w.heap.size,3,none⟩ (.slice (some ⟨gk,0,none⟩) 4 ck)).heap[b]? =wr.heap[b]? :=fun b hb=>Below.heap_setCell _ _ _ _ hb;have hss:wr.heap.size≤(wr.setCell ⟨w.heap.size,3,none⟩ (.slice (some ⟨gk,0,none⟩) 4 ck)).heap.size:=by simp[World.setCell]
        have B2N:Blk (wr.setCell ⟨w.heap.size,3,none⟩ (.slice (some ⟨gk,0,none⟩) 4 ck)) (w.heap.size+1) [.int .i64 0,.int .i64 0,.int .i64 0,.slice none 0 0,.slice none 0 0]:=B2.keep hss (hne0 _ (by omega));have HBN:Below w.heap.size w (wr.setCell ⟨w.heap.size,3,none⟩ (.slice (some ⟨gk,0,none⟩) 4 ck)):=HB.setCell (Nat.le_refl _) _;have MN:Hid (MTr (fun b=>(ok b∧b<w.heap.size)∨w.heap.size+1<b) (wr.setCell ⟨w.heap.size,3,none⟩ (.slice (some ⟨gk,0,none⟩) 4 ck)) (.node TR) x y s (.slice (some ⟨gk,0,none⟩) 4 ck) (.slice eo 0 ec)):=by
         refine MTr.node_of (kv' :=kvf) (ev' :=evf) (base:=w.heap.size+2) (fun b hb=> .inr (by omega)) ?_ ?_ (fun k hk4=>?_)
         · exact(HE.out.keep (w' :=wr) (ok' :=fun b=>ok b∧b<w.heap.size) HB.size (fun b _ hb=>HB.block b hb) (fun b h h2=>⟨h,h2⟩)).keep hss (fun b hb _=>hne0 b (by omega)) (fun b hb _=> .inl hb)
         · rw[HHF.out];exact ownQ_heap HO (fun b hb=>hne0 b (by have:=(HO.lt b hb).1;omega))
         · rw[HHF.out,HTR.out k hk4];exact MTr.keep hss (fun b hb _=>hne0 b (by rcases hb with hb | hb<;>omega)) (fun b hb _=>hb.elim .inl (fun h=> .inr h.1)) (HM k hk4)
        go_upto_region 28 with fail;clear m0 m1 m2 m3 m4 y0 y1 y2 y3 y4 B0 B2 HB HO HM hne0 hss;generalize (wr.setCell ⟨w.heap.size,3,none⟩ (.slice (some ⟨gk,0,none⟩) 4 ck))=W4 at *;have m0:=B0N.c 0 rfl;have m1:=B0N.c 1 rfl;have m2:=B0N.c 2 rfl;have m3:=B0N.c 3 rfl;have m4:=B0N.c 4 rfl;have y0:=B2N.f 0 rfl;have y1:=B2N.f 1 rfl;have y2:=B2N.f 2 rfl;have y3:=B2N.f 3 rfl;have y4:=B2N.f 4 rfl;have z0:=B2N.c 0 rfl;have z1:=B2N.c 1 rfl;have z2:=B2N.c 2 rfl;have z3:=B2N.c 3 rfl;have z4:=B2N.c 4 rfl;have BF:=set5_blk B2N (.int .i64 x) (.int .i64 y) (.int .i64 s) (.slice (some ⟨gk,0,none⟩) 4 ck) (.slice eo 0 ec);have HF:=set5_below HBN (show w.heap.size≤w.heap.size+1 by omega) (.int .i64 x) (.int .i64 y) (.int .i64 s) (.slice (some ⟨gk,0,none⟩) 4 ck) (.slice eo 0 ec);have MF:Hid (MTr (fun b=>ok b∨w.heap.size≤b) (((((W4.setCell ⟨w.heap.size+1,0,none⟩ (.int .i64 x)).setCell ⟨w.heap.size+1,1,none⟩ (.int .i64 y)).setCell ⟨w.heap.size+1,2,none⟩ (.int .i64 s)).setCell ⟨w.heap.size+1,3,none⟩ (.slice (some ⟨gk,0,none⟩) 4 ck)).setCell ⟨w.heap.size+1,4,none⟩ (.slice eo 0 ec)) (.node TR) x y s (.slice (some ⟨gk,0,none⟩) 4 ck) (.slice eo 0 ec)):=MTr.keep (by simp[World.setCell]) (fun b hb _=>set5_heap (by show b≠w.heap.size+1;rcases hb with hb | hb<;>omega)) (fun b hb _=>hb.elim (fun h=> .inl h.1) (fun h=> .inr (by omega))) MN.out;clear MN;go_wp2;have r0:=BF.out.c 0 rfl;have r1:=BF.out.c 1 rfl;have r2:=BF.out.c 2 rfl;have r3:=BF.out.c 3 rfl;have r4:=BF.out.c 4 rfl;refine bodyPost_ret (v:= .agg #[.int .i64 x,.int .i64 y,.int .i64 s,.slice (some ⟨gk,0,none⟩) 4 ck,.slice eo 0 ec]) (by simp[results,Tryz.results62,go_sem,r0,r1,r2,r3,r4]) rfl ?_;exact⟨some ⟨gk,0,none⟩,4,ck,eo,0,ec,rfl,MF.out,HF⟩
end Go.Proofs.YthelolpogdcmhaaGreat
