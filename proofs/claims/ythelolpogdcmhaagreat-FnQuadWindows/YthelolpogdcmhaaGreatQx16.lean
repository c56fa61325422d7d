/- Part 16 of the walks that the proof leans on. -/
import Derived.Test.YthelolpogdcmhaaGreatQx8
import Derived.Shelf.Spec.SlicesInsertGrow
import Derived.Test.YthelolpogdcmhaaGreatQx2
import Derived.Test.YthelolpogdcmhaaGreatQx12
import Derived.Test.YthelolpogdcmhaaGreatQx15
import Derived.Test.YthelolpogdcmhaaGreatQx13
set_option maxRecDepth 100000
set_option maxHeartbeats 16000000
namespace Go.Proofs.YthelolpogdcmhaaGreat
open Go.RowKit
def InsP (base:Nat) (T:TypeId) (k:Nat) (v:Value) (n i:Nat) (xs vs:List Value) (w:World) (e:Ending) (w' :World):Prop:=
 ∃v',e= .returned v' ∧w'.ownsRow base T k v' (n+1) (xs.take (i*k) ++vs ++xs.drop (i*k))∧w.grownBy w' v.ownBlock∧(v'.ownBlock=v.ownBlock∨v'.ownBlock=some w.heap.size)
theorem ins_list {k n c i:Nat} {cur xs vs:List Value} (hct:cur.take (n*k)=xs) (hvl:vs.length=k) (hcl:cur.length=c*k) (hi:i<n) (hc:n+1≤c) :
 ((((cur.take ((i+1)*k) ++xs.drop (i*k) ++cur.drop ((i+1)*k+(xs.drop (i*k)).length)).toArray.toList.take (i*k) ++vs ++(cur.take ((i+1)*k) ++xs.drop (i*k) ++cur.drop ((i+1)*k+(xs.drop (i*k)).length)).toArray.toList.drop (i*k+vs.length)).toArray.toList).take ((n+1)*k))=xs.take (i*k) ++vs ++xs.drop (i*k):=by
 have m1:(i+1)*k=i*k+k:=Nat.succ_mul i k;have m2:(n+1)*k=n*k+k:=Nat.succ_mul n k;have m3:i*k+k≤n*k:=by rw[←m1];exact Nat.mul_le_mul_right k hi
 have m4:n*k+k≤c*k:=by rw[←m2];exact Nat.mul_le_mul_right k hc
 have hxl:xs.length=n*k:=by rw[←hct,List.length_take];omega
 have hdl:(xs.drop (i*k)).length=n*k-i*k:=by rw[List.length_drop,hxl]
 simp only[hdl,hvl,m1,m2];have e1:(cur.take (i*k+k) ++xs.drop (i*k) ++cur.drop (i*k+k+(n*k-i*k))).take (i*k)=xs.take (i*k):=by
  rw[List.append_assoc,List.take_append_of_le_length (by rw[List.length_take];omega),List.take_take,←hct,List.take_take]
  congr 1
  omega
 have e2:(cur.take (i*k+k) ++xs.drop (i*k) ++cur.drop (i*k+k+(n*k-i*k))).drop (i*k+k)=xs.drop (i*k) ++cur.drop (i*k+k+(n*k-i*k)):=by
  rw[List.append_assoc,List.drop_append_of_le_length (by rw[List.length_take];omega),List.drop_of_length_le (by rw[List.length_take];omega),List.nil_append]
 rw[e1,e2,←List.append_assoc,List.take_append_of_le_length (by rw[List.length_append,List.length_append,hdl,hvl,List.length_take,hxl];omega),List.take_of_length_le (by rw[List.length_append,List.length_append,hdl,hvl,List.length_take,hxl];omega)]
theorem ins_list2 {k n i:Nat} {row xs vs:List Value} (hrt:row.take (i*k)=xs.take (i*k)) (hvl:vs.length=k) (hxl:xs.length=n*k) (hi:i<n) :
 (((row.take (i*k) ++vs ++row.drop (i*k+vs.length)).toArray.toList.take ((i+1)*k) ++xs.drop (i*k) ++(row.take (i*k) ++vs ++row.drop (i*k+vs.length)).toArray.toList.drop ((i+1)*k+(xs.drop (i*k)).length)).toArray.toList).take ((n+1)*k)=xs.take (i*k) ++vs ++xs.drop (i*k):=by
 have m1:(i+1)*k=i*k+k:=Nat.succ_mul i k;have m2:(n+1)*k=n*k+k:=Nat.succ_mul n k;have m3:i*k+k≤n*k:=by rw[←m1];exact Nat.mul_le_mul_right k hi
 have hdl:(xs.drop (i*k)).length=n*k-i*k:=by rw[List.length_drop,hxl]
 have htl:(xs.take (i*k)).length=i*k:=by rw[List.length_take,hxl];omega
 simp only[hdl,hvl,m1,m2,hrt];have e1:(xs.take (i*k) ++vs ++row.drop (i*k+k)).take (i*k+k)=xs.take (i*k) ++vs:=by
  rw[List.take_append_of_le_length (by rw[List.length_append,htl,hvl];omega),List.take_of_length_le (by rw[List.length_append,htl,hvl];omega)]
 rw[e1,List.take_append_of_le_length (by rw[List.length_append,List.length_append,hdl,htl,hvl];omega),List.take_of_length_le (by rw[List.length_append,List.length_append,hdl,htl,hvl];omega)]
open Go.Lib in
theorem copy_rowK {P:Program} (w:World) (dT sT ty elem:TypeId) (k g o dLen dCap:Nat) (a:Addr) (sLen sCap:Nat) (cur:Array Value) (t:TypeId) (cs:List Value)
 (hu:P.underlying dT=some (.slice elem)) (hs:(P.info? elem).map (·.size)=some k)
 (hg:w.heap[g]? =some (.cells cur t (0,0))) (hn:cs.length=Nat.min sLen dLen*k)
 (hsrc:∀j v,cs[j]? =some v→w.cell? (a.add j)=some v) (hfit:o+cs.length≤cur.size) (h1:∀v∈cs,v.oneCell' =true) :
 (Builtin.copy_ #[dT,sT] ty #[.slice (some ⟨g,o,none⟩) dLen dCap,.slice (some a) sLen sCap]).run P w =
  .ok (goInt (Nat.min sLen dLen)) (w.setRow g (cur.toList.take o ++cs ++cur.toList.drop (o+cs.length)).toArray):=by
 have hl:=run_loadCells_list (P:=P) w a cs hsrc;have hst:=run_storeCells_at P g o t cs 0 cur w hg (by simpa using hfit) h1;cases hq:P.info? elem with
 | none=>simp[hq] at hs
 | some i=>
  have hi:i.size=k:=by simpa [hq] using hs
  simp[Builtin.copy_,run_underlying hu,Builtin.lenOf,Builtin.firstCells,sizeOf,typeInfo,hq,hi,←hn,hl,hst]
open Go.Lib in
theorem insEIt_any (base n vb:Nat) (v:Value) (xs vs:List Value) (w:World) (hn:n≤1048576) (hb:base≤w.heap.size) (hO:w.ownsRow base 40 5 v n xs) (hv:w.heap[vb]? =some (.cells vs.toArray 40 (0,0))) (hvl:vs.length=5) (h1v:∀v∈vs,v.oneCell' =true):Calls Tryz.prog 57 #[v,.int .i64 (n:Int),.slice (some ⟨vb,0,none⟩) 1 1] w (InsP base 40 5 v n n xs vs w):=by
 obtain⟨i0,hi0,hz0,hzs,hzb⟩:=info_item;have hxl:=hO.1;have hvw:∀j v,vs[j]? =some v→w.cell? ⟨vb,0+j,none⟩=some v:=fun j v hj=>by
  rw[Nat.zero_add]
  simp[World.cell?,hv,hj]
 have hnI:(n:Int)≤1048576:=by omega
 rcases hO.2 with ⟨rfl,rfl⟩ | ⟨b,c,cur,rfl,_,_,hnc,_,_⟩
 · clear hnI hv
   go_enter Tryz.func57,Tryz.ntmps57
   go_wp2_with (at_builtin;refine wpList_append_own_at _ rfl _ _ 24 rfl base 40 i0 (.agg #[.int .i64 0,.int .i64 0,.int .i64 0,.int .i64 0,.int .i64 0]) 5 40 Tryz.underlying24 hi0 hz0 hzs hzb rfl (by decide) _ _ _ rfl hO ⟨vb,0,none⟩ 1 1 vs rfl (by rw[hvl]) (fun j v hj=>by rw[Addr.add_lit];exact hvw j v hj) h1v (by unfold maxLen;omega) (by omega) (by omega) ?_)
   all_goals
    intro v' w' hown hgrow _ hob;go_wp2;go_ret;refine⟨v',rfl,?_,hgrow,hob⟩;rw[show xs.take (0*5)=xs from List.take_of_length_le (by omega),show xs.drop (0*5)=[] from List.drop_of_length_le (by omega),List.append_nil];exact hown
 · clear hv
   go_enter Tryz.func57,Tryz.ntmps57
   go_wp2_with (at_builtin;refine wpList_append_own_at _ rfl _ _ 24 rfl base 40 i0 (.agg #[.int .i64 0,.int .i64 0,.int .i64 0,.int .i64 0,.int .i64 0]) 5 40 Tryz.underlying24 hi0 hz0 hzs hzb rfl (by decide) _ _ _ rfl hO ⟨vb,0,none⟩ 1 1 vs rfl (by rw[hvl]) (fun j v hj=>by rw[Addr.add_lit];exact hvw j v hj) h1v (by unfold maxLen;omega) (by omega) (by omega) ?_)
   all_goals
    intro v' w' hown hgrow _ hob;go_wp2;go_ret;refine⟨v',rfl,?_,hgrow,hob⟩;rw[show xs.take (n*5)=xs from List.take_of_length_le (by omega),show xs.drop (n*5)=[] from List.drop_of_length_le (by omega),List.append_nil];exact hown
open Go.Lib in
theorem insIt_any (base b n c i vb:Nat) (xs vs:List Value) (w:World) (hi:i<n) (hn:n≤1048576) (hO:w.ownsRow base 40 5 (.slice (some ⟨b,0,none⟩) n c) n xs) (hv:w.heap[vb]? =some (.cells vs.toArray 40 (0,0))) (hvl:vs.length=5) (hvb:vb≠b) (h1v:∀v∈vs,v.oneCell' =true) (h1x:∀v∈xs,v.oneCell' =true):Calls Tryz.prog 57 #[.slice (some ⟨b,0,none⟩) n c,.int .i64 (i:Int),.slice (some ⟨vb,0,none⟩) 1 1] w (InsP base 40 5 (.slice (some ⟨b,0,none⟩) n c) n i xs vs w):=by
 obtain⟨i0,hi0,hz0,hzs,hzb⟩:=info_item;obtain⟨hxl,hcase⟩:=hO
 rcases hcase with ⟨e,_⟩ | ⟨g,cap,cur,e,hbg,hg,hnc,hcm,hcs,hct⟩
 · cases e
 cases e;have hvw:∀j v,vs[j]? =some v→w.cell? ⟨vb,0+j,none⟩=some v:=fun j v hj=>by
  rw[Nat.zero_add]
  simp[World.cell?,hv,hj]
 have hbw:b<w.heap.size:=(Array.getElem?_eq_some_iff.1 hg).1;have hvw2:vb<w.heap.size:=(Array.getElem?_eq_some_iff.1 hv).1;have hz2:¬((i:Int)=(n:Int)):=by omega
 have hltI:(i:Int)<(n:Int):=by omega
 have hnI:(n:Int)≤1048576:=by omega
 have hsz:(Tryz.prog.info? 40).map (·.size)=some 5:=by rw[hi0];simp[hzs]
 have hxc:∀j v,xs[j]? =some v→w.cell? ⟨b,j,none⟩=some v:=fun j v hj=>by
  rw[←hct] at hj;rw[List.getElem?_take] at hj
  split at hj
  · simp[World.cell?,hg];simpa using hj
  · cases hj
 by_cases hroom:n+1≤c
 · have hroomI:(n:Int)+1≤(c:Int):=by omega
   have hc63:c≤9223372036854775807:=by have:=hcm;unfold maxLen at this;omega
   have hci:¬(c=i):=by omega
   have hci1:¬(c=i+1):=by omega
   have hov:∀(A:Addr) lb cb,A.block=b→(callFunc 86 #[.slice (some ⟨vb,0,none⟩) 1 1,.slice (some A) lb cb]).run Tryz.prog w= .ok (.value (.bool false)) w:=fun A lb cb hA=>by
    rw[run_callFunc_extern Tryz.func86 (by kernel_rfl) (by kernel_rfl) (by kernel_rfl) (e:=Extern.SlicesOverlaps.overlaps #[24,24] #[4]) (by kernel_rfl),
     Lib.run_overlaps_apart w 24 4 40 Tryz.underlying24 5 Tryz.sizeOf40 ⟨vb,0,none⟩ A 1 1 lb cb (by rw[hA];exact hvb) 40 40 5 (c*5) (by simp[World.shape?,hv,hvl]) (by rw[hA];simp[World.shape?,hg,hcs]) (by omega) (by simp[World.frozen?,hv]) (by simp[World.frozen?,hv])]
    rfl
   have hov1:=fun lb cb=>hov ⟨b,(i+1)*5,none⟩ lb cb rfl;clear hov
   go_enter Tryz.func57,Tryz.ntmps57
   obtain⟨C1,hC1⟩:∃C1:Array Value,C1=(cur.toList.take ((i+1)*5) ++xs.drop (i*5) ++cur.toList.drop ((i+1)*5+(xs.drop (i*5)).length)).toArray:=⟨_,rfl⟩;have hdl:(xs.drop (i*5)).length=(n-i)*5:=by rw[List.length_drop,hxl];omega
   have hcp1:∀ty dc sc,(Builtin.copy_ #[24,24] ty #[.slice (some ⟨b,(i+1)*5,none⟩) (n-i) dc,.slice (some ⟨b,i*5,none⟩) (n+1-i) sc]).run Tryz.prog w.drew= .ok (goInt (Nat.min (n+1-i) (n-i))) (w.drew.setRow b C1):=fun ty dc sc=>by
    rw[hC1];exact copy_rowK w.drew 24 24 ty 40 5 b ((i+1)*5) (n-i) dc ⟨b,i*5,none⟩ (n+1-i) sc cur 40 (xs.drop (i*5)) Tryz.underlying24 hsz hg (by rw[hdl,show Nat.min (n+1-i) (n-i)=n-i from Nat.min_eq_right (by omega)])
     (fun j v hj=>by rw[Addr.add_lit];exact hxc _ v (by rwa [List.getElem?_drop] at hj)) (by rw[hdl,hcs];omega) (fun v hv=>h1x v (List.mem_of_mem_drop hv))
   have hC1s:C1.size=c*5:=by rw[hC1];simp[hxl,hcs];omega
   obtain⟨C2,hC2⟩:∃C2:Array Value,C2=(C1.toList.take (i*5) ++vs ++C1.toList.drop (i*5+vs.length)).toArray:=⟨_,rfl⟩;have hcp2:∀(W:World),W.heap=(w.setRow b C1).heap→∀ty dc,(Builtin.copy_ #[24,24] ty #[.slice (some ⟨b,i*5,none⟩) (n+1-i) dc,.slice (some ⟨vb,0,none⟩) 1 1]).run Tryz.prog W= .ok (goInt (Nat.min 1 (n+1-i))) (W.setRow b C2):=fun W hW ty dc=>by
    rw[hC2];exact copy_rowK W 24 24 ty 40 5 b (i*5) (n+1-i) dc ⟨vb,0,none⟩ 1 1 C1 40 vs Tryz.underlying24 hsz (by rw[hW];exact setRow_heap w b cur C1 _ _ hg) (by rw[hvl,show Nat.min 1 (n+1-i)=1 from Nat.min_eq_left (by omega)])
     (fun j v hj=>by
      rw[Addr.add_lit];have:=hvw j v hj;rw[←this];exact World.cell?_of_block (w:=w) (a:=⟨vb,0+j,none⟩) (by show W.heap[vb]? =_;rw[hW];exact setRow_other w b vb C1 hvb)) (by rw[hvl,hC1s];omega) h1v
   have HF:Hid (C2.toList.take ((n+1)*5)=xs.take (i*5) ++vs ++xs.drop (i*5)∧C2.size=c*5):=by
    refine⟨?_,?_⟩
    · rw[hC2,hC1];have h:=ins_list (k:=5) (n:=n) (c:=c) (i:=i) (cur:=cur.toList) (xs:=xs) (vs:=vs) hct hvl (by simpa using hcs) (by omega) hroom
      first | exact h | (simp only[Nat.mul_one] at h⊢;exact h)
    · rw[hC2]
      simp[hvl,hC1s]
      omega
   clear hC1 hC2 hxc hvw hct;have mixed:Tryz.prog.follows Departure.mixedOrders=true:=by kernel_rfl
   have hw1:IntKind.i64.wrap ((i:Int)+1)=(i:Int)+1:=by rw[IntKind.wrap_i64];omega
   have hb1:(0:Int)≤(i:Int)+1:=by omega
   have htn:((i:Int)+1).toNat=i+1:=by omega
   have hb3:(i:Int)+1≤(n:Int)+1:=by omega
   have hb5:(i:Int)≤(n:Int)+1:=by omega
   go_wp2_with (simp only[hov1])
   go_region_law_o (refine step_copy_runI rfl _ _ 24 24 rfl (.slice (some ⟨b,(i+1)*5,none⟩) (n-i) (c-(i+1))) (.slice (some ⟨b,i*5,none⟩) (n+1-i) (c-i)) (by simp[Act.eval,Act.put]) (by simp[Act.eval,Act.put]) (hcp1 _ _ _) ?_)
   have hcp3:=hcp2 (w.drew.setRow b C1) rfl;clear hcp2 hcp1;go_wp2;go_ret;have e1:(w.drew.setRow b C1).heap[b]? =some (.cells C1 40 (0,0)):=setRow_heap w.drew b cur C1 _ _ hg;refine⟨_,rfl,⟨?_,.inr ⟨b,c,C2,rfl,hbg,setRow_heap _ b C1 C2 _ _ e1,hroom,hcm,HF.out.2,HF.out.1⟩⟩,⟨rfl,rfl,rfl,by simp,fun k hk hne=>?_⟩,.inl rfl⟩
   · rw[List.length_append,List.length_append,List.length_take,List.length_drop,hxl,hvl]
     omega
   · have hkb:k≠b:=fun e=>hne (congrArg some e);rw[setRow_other _ b k C2 hkb,setRow_other _ b k C1 hkb]
     rfl
 · obtain⟨G,hG⟩:∃G,G=grownCap w (n+1) c 40:=⟨_,rfl⟩;obtain⟨ROW,hROW⟩:∃ROW:Array Value,ROW=(xs.take (i*5)).toArray ++Builtin.zeroCells (.agg #[.int .i64 0,.int .i64 0,.int .i64 0,.int .i64 0,.int .i64 0]:Value).cells (n+1-i) ++Builtin.zeroCells (.agg #[.int .i64 0,.int .i64 0,.int .i64 0,.int .i64 0,.int .i64 0]:Value).cells (G-(n+1)):=⟨_,rfl⟩;have hGn:n+1≤G:=by rw[hG];exact grownCap_ge w _ _ _
   have hGm:G≤maxLen:=by rw[hG];exact grownCap_le_maxLen w (n+1) c 40 (by unfold maxLen;omega)
   have hRl:ROW.size=G*5:=by
    rw[hROW]
    simp[Builtin.zeroCells,Value.cells,hxl]
    omega
   have hRt:ROW.toList.take (i*5)=xs.take (i*5):=by
    rw[hROW];simp only[Array.toList_append,List.append_assoc];rw[List.take_append_of_le_length (by simp[hxl];omega),List.take_of_length_le (by simp[hxl];omega)]
   have hold:(Builtin.firstCells i0.size i (.slice (some ⟨b,0,none⟩) i c)).run Tryz.prog w.drew= .ok (xs.take (i*5)).toArray w.drew:=by
    rw[hzs];exact run_firstCells_some w.drew 5 i ⟨b,0,none⟩ i c (xs.take (i*5)) (by rw[List.length_take,hxl];omega) (fun j v hj=>by
     rw[Addr.add_lit,Nat.zero_add];rw[List.getElem?_take] at hj
     split at hj
     · exact hxc j v hj
     · cases hj)
   have hrz:∀ty,(Builtin.append_ #[24,3] ty #[.slice (some ⟨b,0,none⟩) i c,.int .i64 ((n:Int)+1-(i:Int))]).run Tryz.prog w= .ok (.slice (some ⟨w.heap.size,0,none⟩) (n+1) G) (w.drew.alloc (.cells ROW 40)):=fun ty=>by
    have h:=Lib.run_append_grow_zeros w 24 3 ty 40 i0 _ .i64 .i64 Tryz.underlying24 Tryz.underlying3 hi0 hz0 (some ⟨b,0,none⟩) i c (xs.take (i*5)) hold (n+1-i) (by omega) (by omega) (by omega) (by omega) (by rw[hzb];omega) (by rw[hzb,show i+(n+1-i)=n+1 by omega];exact growslice_fits (by omega) (by omega));rw[show i+(n+1-i)=n+1 by omega,←hG,←hROW] at h;rw[show(n:Int)+1-(i:Int)=((n+1-i:Nat):Int) by omega];exact h
   obtain⟨R1,hR1⟩:∃R1:Array Value,R1=(ROW.toList.take (i*5) ++vs ++ROW.toList.drop (i*5+vs.length)).toArray:=⟨_,rfl⟩;have hR1s:R1.size=G*5:=by rw[hR1];simp[hvl,hRl];omega
   obtain⟨R2,hR2⟩:∃R2:Array Value,R2=(R1.toList.take ((i+1)*5) ++xs.drop (i*5) ++R1.toList.drop ((i+1)*5+(xs.drop (i*5)).length)).toArray:=⟨_,rfl⟩;have hdl:(xs.drop (i*5)).length=(n-i)*5:=by rw[List.length_drop,hxl];omega
   have hR2s:R2.size=G*5:=by rw[hR2];simp[hxl,hR1s];omega
   have hNw:w.heap.size≠vb:=by omega
   have hNb:w.heap.size≠b:=by omega
   have a1:(w.alloc (.cells ROW 40)).heap[w.heap.size]? =some (.cells ROW 40 (0,0)):=heap_alloc_new w _;have hcpA:∀(W:World),W.heap=(w.alloc (.cells ROW 40)).heap→∀ty dc,(Builtin.copy_ #[24,24] ty #[.slice (some ⟨w.heap.size,i*5,none⟩) (n+1-i) dc,.slice (some ⟨vb,0,none⟩) 1 1]).run Tryz.prog W= .ok (goInt (Nat.min 1 (n+1-i))) (W.setRow w.heap.size R1):=fun W hW ty dc=>by
    rw[hR1];exact copy_rowK W 24 24 ty 40 5 w.heap.size (i*5) (n+1-i) dc ⟨vb,0,none⟩ 1 1 ROW 40 vs Tryz.underlying24 hsz (by rw[hW];exact a1) (by rw[hvl,show Nat.min 1 (n+1-i)=1 from Nat.min_eq_left (by omega)])
     (fun j v hj=>by
      rw[Addr.add_lit];have:=hvw j v hj;rw[←this];exact World.cell?_of_block (w:=w) (a:=⟨vb,0+j,none⟩) (by show W.heap[vb]? =_;rw[hW];exact Below.heap_alloc _ _ _ hvw2)) (by rw[hvl,hRl];omega) h1v
   have hcpB:∀(W:World),W.heap=((w.alloc (.cells ROW 40)).setRow w.heap.size R1).heap→∀ty dc sc,(Builtin.copy_ #[24,24] ty #[.slice (some ⟨w.heap.size,(i+1)*5,none⟩) (n-i) dc,.slice (some ⟨b,i*5,none⟩) (n-i) sc]).run Tryz.prog W= .ok (goInt (Nat.min (n-i) (n-i))) (W.setRow w.heap.size R2):=fun W hW ty dc sc=>by
    rw[hR2];exact copy_rowK W 24 24 ty 40 5 w.heap.size ((i+1)*5) (n-i) dc ⟨b,i*5,none⟩ (n-i) sc R1 40 (xs.drop (i*5)) Tryz.underlying24 hsz (by rw[hW];exact setRow_heap _ w.heap.size ROW R1 _ _ a1) (by rw[hdl,show Nat.min (n-i) (n-i)=n-i from Nat.min_self _])
     (fun j v hj=>by
      rw[Addr.add_lit];have:=hxc (i*5+j) v (by rwa [List.getElem?_drop] at hj);rw[←this];exact World.cell?_of_block (w:=w) (a:=⟨b,i*5+j,none⟩) (by show W.heap[b]? =_;rw[hW,setRow_other _ _ _ _ (Ne.symm hNb)];exact Below.heap_alloc _ _ _ hbw)) (by rw[hdl,hR1s];omega) (fun v hv=>h1x v (List.mem_of_mem_drop hv))
   have HF:Hid (R2.toList.take ((n+1)*5)=xs.take (i*5) ++vs ++xs.drop (i*5)):=by
    show _=_;rw[hR2,hR1];have h:=ins_list2 (k:=5) (n:=n) (i:=i) (row:=ROW.toList) (xs:=xs) (vs:=vs) (by first | exact hRt | (simp only[Nat.mul_one];exact hRt)) hvl hxl (by omega)
    first | exact h | (simp only[Nat.mul_one] at h⊢;exact h)
   have hcI:(c:Int)<(n:Int)+1:=by omega
   have hci:¬(c=i):=by omega
   have hGi:¬(G=i):=by omega
   have hGi1:¬(G=i+1):=by omega
   have mixed:Tryz.prog.follows Departure.mixedOrders=true:=by kernel_rfl
   have hw1:IntKind.i64.wrap ((i:Int)+1)=(i:Int)+1:=by rw[IntKind.wrap_i64];omega
   have hb1:(0:Int)≤(i:Int)+1:=by omega
   have htn:((i:Int)+1).toNat=i+1:=by omega
   have hb3:(i:Int)+1≤(n:Int)+1:=by omega
   have hb5:(i:Int)≤(n:Int)+1:=by omega
   have hb6:(i:Int)≤(n:Int):=by omega
   have hG63:G≤9223372036854775807:=by have:=hGm;unfold maxLen at this;omega
   have hA:=hcpA (w.alloc (.cells ROW 40)).drew rfl;have hB:=hcpB ((w.alloc (.cells ROW 40)).drew.setRow w.heap.size R1).drew rfl;clear hROW hG hR1 hR2 hRt hold hxc hvw hct a1 hcpA hcpB
   go_enter Tryz.func57,Tryz.ntmps57
   go_wp2_with (at_builtin;refine Lib.wpList_append_run _ rfl _ _ _ _ rfl _ _ rfl rfl _ _ (hrz _) ?_)
   go_region_law_o (refine step_copy_runI rfl _ _ 24 24 rfl (.slice (some ⟨w.heap.size,(i+1)*5,none⟩) (n-i) (G-(i+1))) (.slice (some ⟨b,i*5,none⟩) (n-i) (c-i)) (by simp[Act.eval,Act.put]) (by simp[Act.eval,Act.put]) (hB _ _ _) ?_)
   go_wp2;go_ret;have e0:(w.alloc (.cells ROW 40)).drew.heap[w.heap.size]? =some (.cells ROW 40 (0,0)):=heap_alloc_new w _;have e1:((w.alloc (.cells ROW 40)).drew.setRow w.heap.size R1).drew.heap[w.heap.size]? =some (.cells R1 40 (0,0)):=setRow_heap (w.alloc (.cells ROW 40)).drew w.heap.size ROW R1 _ _ e0;refine⟨_,rfl,⟨?_,.inr ⟨w.heap.size,G,R2,rfl,by omega,setRow_heap _ w.heap.size R1 R2 _ _ e1,hGn,hGm,hR2s,HF.out⟩⟩,⟨rfl,rfl,rfl,by simp,fun k hk hne=>?_⟩,.inr rfl⟩
   · rw[List.length_append,List.length_append,List.length_take,List.length_drop,hxl,hvl]
     omega
   · rw[setRow_other _ w.heap.size k R2 (by omega)];show((w.alloc (.cells ROW 40)).drew.setRow w.heap.size R1).heap[k]? =_;rw[setRow_other _ w.heap.size k R1 (by omega)];exact Below.heap_alloc w _ _ hk
def ordN (x y:Int):Int:=if x<y then -1 else if y<x then 1 else 0
theorem cmpNo_any (x y:Int) (w:World):Calls Tryz.prog 103 #[.int .i64 x,.int .i64 y] w (VP (.int .i64 (ordN x y)) w):=by
 unfold ordN
 by_cases h1:x<y
 · rw[if_pos h1]
   go_enter Tryz.func103,Tryz.ntmps103
   go_wp2;go_ret;exact⟨rfl,Below.refl _ _⟩
 · rw[if_neg h1]
   by_cases h2:y<x
   · rw[if_pos h2]
     go_enter Tryz.func103,Tryz.ntmps103
     go_wp2;go_ret;exact⟨rfl,Below.refl _ _⟩
   · rw[if_neg h2]
     go_enter Tryz.func103,Tryz.ntmps103
     go_wp2;go_ret;exact⟨rfl,Below.refl _ _⟩
theorem orderItem_any (x a bb cc d y:Int) (w:World):Calls Tryz.prog 85 #[.agg #[.int .i64 x,.int .i64 a,.int .i64 bb,.int .i64 cc,.int .i64 d],.int .i64 y] w (VP (.int .i64 (ordN x y)) w):=by
 have B0:Blk (w.alloc (.cells #[.int .i64 x,.int .i64 a,.int .i64 bb,.int .i64 cc,.int .i64 d] 40)) w.heap.size [.int .i64 x,.int .i64 a,.int .i64 bb,.int .i64 cc,.int .i64 d]:=Blk.new w [.int .i64 x,.int .i64 a,.int .i64 bb,.int .i64 cc,.int .i64 d] 40 rfl;have HB:Below w.heap.size w (w.alloc (.cells #[.int .i64 x,.int .i64 a,.int .i64 bb,.int .i64 cc,.int .i64 d] 40)):=(Below.refl _ w).alloc (Nat.le_refl _) _
 go_enter Tryz.func85,Tryz.ntmps85
 go_upto_region 1 with fail;generalize (w.alloc (.cells #[.int .i64 x,.int .i64 a,.int .i64 bb,.int .i64 cc,.int .i64 d] 40))=W1 at *;have m0:=B0.c 0 rfl;go_wp2_with fail;refine(cmpNo_any x y W1).mono ?_;rintro r w1 ⟨rfl,hB⟩;have HB2:=HB.trans (hB.mono HB.size);clear hB HB m0 B0;go_wp2;go_ret;exact⟨rfl,HB2⟩
theorem ordN_lt (x y:Int):(ordN x y<0)↔x<y:=by
 unfold ordN
 split
 · exact⟨fun _=>by assumption,fun _=>by omega⟩
 · split<;>exact⟨fun h=>absurd h (by omega),fun h=>absurd h (by assumption)⟩
theorem ordN_zero (x y:Int):(ordN x y=0)↔x=y:=by
 unfold ordN
 split
 · exact⟨fun h=>absurd h (by omega),fun h=>by omega⟩
 · split
   · exact⟨fun h=>absurd h (by omega),fun h=>by omega⟩
   · exact⟨fun _=>by omega,fun _=>rfl⟩
theorem bsfItem_any (Q:QD) (ao:Option Addr) (n cap:Nat) (id:Int) (j:Nat) (th:Bool) (hn:n≤1048576) (hj:j≤n) (hlo:∀i,i<j→Q.I i<id) (hhi:∀i,j≤i→i<n→id≤Q.I i) (hth:th=true↔(j<n∧Q.I j=id)) (w:World) (hS:ItIn Q w ao (List.range n)):Calls Tryz.prog 84 #[.slice ao n cap,.int .i64 id,.func (.func 85) #[] #[]] w (VP (.tuple #[.int .i64 (j:Int),.bool th]) w):=by
 have HS:Hid (ItIn Q w ao (List.range n)):=hS;have HLO:Hid (∀i,i<j→Q.I i<id):=hlo;have HHI:Hid (∀i,j≤i→i<n→id≤Q.I i):=hhi;have HTH:Hid (th=true↔(j<n∧Q.I j=id)):=hth;clear hS hlo hhi hth;have hnI:(n:Int)≤1048576:=by omega
 go_enter Tryz.func84,Tryz.ntmps84
 go_wp2_with fail
 go_loopw [9,10] (fun a b wr=>∃l r:Nat,a= .int .i64 l∧b= .int .i64 r∧l≤j∧j≤r∧r≤n∧Below w.heap.size w wr) (fun a b _=>(intOf b).toNat-(intOf a).toNat)
 case atStart=>exact⟨0,n,rfl,rfl,by omega,hj,by omega,Below.refl _ _⟩
 case round=>
  obtain⟨l,r,rfl,rfl,hl,hr,hrm,HB⟩:=hrel
  by_cases hlr:l<r
  · have hlI:(l:Int)<r:=by omega
    have hrI:(r:Int)≤1048576:=by omega
    obtain⟨hf,hh0⟩:∃h:Nat,h=(l+r) / 2:=⟨_,rfl⟩;have hhI:((l:Int)+(r:Int)) / 2=(hf:Int):=by omega
    have hh:l≤hf∧hf<r:=by omega
    clear hh0;obtain⟨A,off,rfl,hA,q0,q1,q2,q3,q4⟩:=HS.out.step HB hf hf (by simp[show hf<n by omega]);obtain⟨ov,hov⟩:∃ov,ordN (Q.I hf) id=ov:=⟨_,rfl⟩;have HOV:Hid (ordN (Q.I hf) id=ov):=hov;have C:=orderItem_any (Q.I hf) (Q.S hf).1 (Q.S hf).2.1 (Q.S hf).2.2.1 (Q.S hf).2.2.2 id wr;rw[hov] at C;clear hov;go_wp2_with fail;refine C.mono ?_;rintro e w1 ⟨rfl,hBz⟩;replace HB:=HB.trans (hBz.mono HB.size);clear C hBz hA q0 q1 q2 q3 q4
    by_cases hx:ov<0
    · have hfj:Hid (hf<j):=Nat.lt_of_not_le fun hle=>by have:=HHI.out hf hle (by omega);have:=(ordN_lt _ _).1 (by rw[HOV.out];exact hx);omega
      go_wp2;go_roundw
      case rel=>exact⟨hf+1,r,by go_num,rfl,hfj.out,hr,hrm,HB⟩
      case measure=>simp[intOf];omega
    · have hfj:Hid (j≤hf):=Nat.le_of_not_lt fun hlt=>hx (by rw[←HOV.out];exact(ordN_lt _ _).2 (HLO.out hf hlt));go_wp2;go_roundw
      case rel=>exact⟨l,hf,rfl,rfl,hl,hfj.out,by omega,HB⟩
      case measure=>simp[intOf];omega
  · obtain rfl:l=j:=by omega
    obtain rfl:r=l:=by omega
    by_cases hlm:r<n
    · have hlI:(r:Int)<n:=by omega
      obtain⟨A,off,rfl,hA,q0,q1,q2,q3,q4⟩:=HS.out.step HB r r (by simp[hlm]);obtain⟨ov,hov⟩:∃ov,ordN (Q.I r) id=ov:=⟨_,rfl⟩;have hth:(ov==0)=th:=by
       cases th with
       | true=>exact beq_iff_eq.2 (hov.symm.trans ((ordN_zero _ _).2 (HTH.out.1 rfl).2))
       | false=>exact Bool.eq_false_iff.2 (fun h=>by have:=HTH.out.2 ⟨hlm,(ordN_zero _ _).1 (hov.trans (beq_iff_eq.1 h))⟩;cases this)
      have C:=orderItem_any (Q.I r) (Q.S r).1 (Q.S r).2.1 (Q.S r).2.2.1 (Q.S r).2.2.2 id wr;rw[hov] at C;clear hov;go_wp2_with fail;refine C.mono ?_;rintro e w1 ⟨rfl,hBz⟩;replace HB:=HB.trans (hBz.mono HB.size);clear C hBz hA q0 q1 q2 q3 q4;go_wp2;refine bodyPost_ret (v:= .tuple #[.int .i64 (r:Int),.bool th]) (by simp[results,Tryz.results84,go_sem]) rfl ?_;exact⟨rfl,HB⟩
    · obtain rfl:r=n:=by omega
      have htf:th=false:=by cases th with | false=>rfl | true=>have:=(HTH.out.1 rfl).1;omega
      subst htf;go_wp2;refine bodyPost_ret (v:= .tuple #[.int .i64 (r:Int),.bool false]) (by simp[results,Tryz.results84,go_sem]) rfl ?_;exact⟨rfl,HB⟩
theorem place_ex {Q:QD} (hr:riseI Q) (id:Int):∀n,n≤Q.m→∃j,j≤n∧(∀i,i<j→Q.I i<id)∧∀i,j≤i→i<n→id≤Q.I i
 | 0,_=>⟨0,Nat.le_refl _,fun i hi=>absurd hi (by omega),fun i _ hi=>absurd hi (by omega)⟩
 | n + 1,hn=>by
  obtain⟨j,h1,h2,h3⟩:=place_ex hr id n (by omega)
  by_cases hj:j<n
  · refine⟨j,by omega,h2,fun i hi hi2=>?_⟩
    rcases Nat.lt_or_ge i n with h | h
    · exact h3 i hi h
    · have h4:=h3 j (Nat.le_refl _) hj;have h5:=rise_lt hr (i-j-1) j (by omega);rw[show j+(i-j-1)+1=i by omega] at h5
      omega
  · obtain rfl:j=n:=by omega
    by_cases hid:Q.I j<id
    · exact⟨j+1,by omega,fun i hi=>by
       rcases Nat.lt_or_ge i j with h | h
       · exact h2 i h
       · rw[show i=j by omega];exact hid,fun i hi hi2=>absurd hi (by omega)⟩
    · exact⟨j,by omega,h2,fun i hi hi2=>by rw[show i=j by omega];omega⟩
theorem place_any (Q:QD) (gq ic:Nat) (io:Option Addr) (m d id:Int) (pv:Value) (j:Nat) (th:Bool) (hn:Q.m≤1048576) (hj:j≤Q.m) (hlo:∀i,i<j→Q.I i<id) (hhi:∀i,j≤i→i<Q.m→id≤Q.I i) (hth:th=true↔(j<Q.m∧Q.I j=id)) (w:World) (BQ:Blk w gq [.int .i64 m,.int .i64 d,.slice io Q.m ic,pv]) (hS:ItIn Q w io (List.range Q.m)):Calls Tryz.prog 56 #[.pointer (some ⟨gq,0,none⟩),.int .i64 id] w (VP (.tuple #[.int .i64 (j:Int),.bool th]) w):=by
 have C:=bsfItem_any Q io Q.m ic id j th hn hj hlo hhi hth w hS;have q2:=BQ.c 2 rfl;clear hlo hhi hth hS BQ
 go_enter Tryz.func56,Tryz.ntmps56
 go_wp2_with fail;refine C.mono ?_;rintro r w1 ⟨rfl,hB⟩;clear C q2;go_wp2;refine bodyPost_ret (v:= .tuple #[.int .i64 (j:Int),.bool th]) (by simp[results,Tryz.results56,go_sem]) rfl ?_;exact⟨rfl,hB⟩
theorem tr_small {Q:QD} {m d:Int} (h:qOk Q m d=true):d.toNat≤8∧nlT (trQ Q d.toNat 0 (-1048576) (-1048576) 2097152)≤65536∧dpT (trQ Q d.toNat 0 (-1048576) (-1048576) 2097152)≤8:=by
 have h8:d.toNat≤8:=by
  unfold qOk limB at h
  simp at h
  omega
 exact⟨h8,nl_small h8 (dp_tr Q _ _ _ _ _),Nat.le_trans (dp_le _ _ (dp_tr Q _ _ _ _ _)) h8⟩
theorem own_set4 {w1:World} {b g size n:Nat} {T:TypeId} {v v0 v1 v2 v3:Value} {xs:List Value} (hO:w1.ownsRow b T size v n xs) (hg:g<b):((((w1.setCell ⟨g,0,none⟩ v0).setCell ⟨g,1,none⟩ v1).setCell ⟨g,2,none⟩ v2).setCell ⟨g,3,none⟩ v3).drew.ownsRow g T size v n xs:=
 World.ownsRow.drew (ownQ_mono2 (ownQ_heap hO (fun k hk=>set4_heap (W:=w1) (g:=g) (by have:=(World.ownsRow.lt hO k hk).1;omega))) (by omega))
def ToldP (m d:Int) (iv:Value) (ok:Nat→Prop) (L:List WB) (w:World) (r:Ending) (w' :World):Prop:=
 Below w.heap.size w w' ∧((2000<L.length∧r= .returned (.tuple #[.agg #[.int .i64 0,.int .i64 0,.slice none 0 0,.slice none 0 0],.bool false]))∨(L.length≤2000∧∃u I,r= .returned (.tuple #[.agg #[.int .i64 m,.int .i64 d,iv,u],.bool true])∧w'.ownsRow w.heap.size 102 5 u L.length (wbCs L I)∧IsP ok w L I))
theorem toldS_any (t:QT) (gq gr n ic:Nat) (io:Option Addr) (m d:Int) (ok:Nat→Prop) (w:World) (hL:(wrT t (-1048576) (-1048576) 2097152).length≤1048576) (Bq:Blk w gq [.int .i64 m,.int .i64 d,.slice io n ic,.pointer (some ⟨gr,0,none⟩)]) (hT:STr ok w t (-1048576) (-1048576) 2097152 0 gr):Calls Tryz.prog 54 #[.pointer (some ⟨gq,0,none⟩)] w (ToldP m d (.slice io n ic) ok (wrT t (-1048576) (-1048576) 2097152) w):=by
 have H1:Below w.heap.size w (w.alloc (.cells #[.int .i64 0,.int .i64 0,.slice none 0 0,.slice none 0 0] 27)):=(Below.refl _ w).alloc (Nat.le_refl _) _;have BZ:=Blk.new w [.int .i64 0,.int .i64 0,.slice none 0 0,.slice none 0 0] 27 rfl;have HKq:∀W,Below w.heap.size w W→(fun w' :World=>w'.cell? ⟨gq,0,none⟩=some (.int .i64 m)∧w'.cell? ⟨gq,1,none⟩=some (.int .i64 d)∧w'.cell? ⟨gq,2,none⟩=some (.slice io n ic)) W:=fun W h=>⟨(Bq.below h Bq.lt).c 0 rfl,(Bq.below h Bq.lt).c 1 rfl,(Bq.below h Bq.lt).c 2 rfl⟩;have hT1:STr (fun b=>ok b∧b<w.heap.size) w t (-1048576) (-1048576) 2097152 0 gr:=STr.keep (Nat.le_refl _) (fun _ _ _=>rfl) (fun b hb hl=>⟨hb,hl⟩) hT;replace Bq:=Bq.step H1;replace hT1:=hT1.step H1;have RL:=row_any t _ _ _ _ _ gr _ hL hT1;have hpos:=wrT_pos t (-1048576) (-1048576) 2097152;obtain⟨L,hLL⟩:∃L,wrT t (-1048576) (-1048576) 2097152=L:=⟨_,rfl⟩;rw[hLL] at hL RL hpos⊢;clear hLL hT hT1
 go_enter Tryz.func54,Tryz.ntmps54
 go_upto_region 1 with fail;generalize w.alloc (.cells #[.int .i64 0,.int .i64 0,.slice none 0 0,.slice none 0 0] 27)=W at *;have q3:=Bq.c 3 rfl;go_wp2_with fail;refine RL.mono ?_;rintro e w1 ⟨v,I,rfl,hO,hI,hB⟩;have hzl:=BZ.lt;have hIW:Hid (IsP ok w L I):=hI.keep (fun b hb _=>(H1.block b hb.2).symm) (fun b hb _=>hb.1);replace BZ:=BZ.step hB;replace H1:=H1.trans (hB.mono H1.size);obtain⟨N,hN⟩:∃N,L.length=N:=⟨_,rfl⟩;have HN:Hid (L.length=N):=hN;rw[hN] at hO hL hpos;obtain⟨h,hc,rfl,hh1,hh2,_,_⟩:=ownQ_form hO hpos;have hnI:(N:Int)≤1048576:=by omega
 clear hB RL q3 Bq hI hN;have z0:=BZ.c 0 rfl;have z1:=BZ.c 1 rfl;have z2:=BZ.c 2 rfl;have z3:=BZ.c 3 rfl;have y0:=BZ.f 0 rfl;have y1:=BZ.f 1 rfl;have y2:=BZ.f 2 rfl;have y3:=BZ.f 3 rfl;have zl:=BZ.lt
 by_cases h2:2000<N
 · have h2I:(2000:Int)<(N:Int):=by omega
   have BF:=set4_blk BZ (.int .i64 0) (.int .i64 0) (.slice none 0 0) (.slice none 0 0);have HF:=set4_below H1 (Nat.le_refl _) (.int .i64 0) (.int .i64 0) (.slice none 0 0) (.slice none 0 0);clear BZ H1 hO HKq hIW;go_wp2;have r0:=BF.out.c 0 rfl;have r1:=BF.out.c 1 rfl;have r2:=BF.out.c 2 rfl;have r3:=BF.out.c 3 rfl;refine bodyPost_ret (v:= .tuple #[.agg #[.int .i64 0,.int .i64 0,.slice none 0 0,.slice none 0 0],.bool false]) (by simp[results,Tryz.results54,go_sem,r0,r1,r2,r3]) rfl ?_;exact⟨HF,.inl ⟨by rw[HN.out];exact h2,rfl⟩⟩
 · have h2I:(N:Int)≤2000:=by omega
   go_upto_region 4 with fail
   go_region_held3 (fun w' :World=>w'.cell? ⟨gq,0,none⟩=some (.int .i64 m)∧w'.cell? ⟨gq,1,none⟩=some (.int .i64 d)∧w'.cell? ⟨gq,2,none⟩=some (.slice io n ic)) (refine HKq _ ?_<;>repeat (first | (with_reducible exact H1) | (with_reducible refine Below.drew ?_) | (with_reducible refine Below.setCell ?_ (by first | exact Nat.le_refl _ | simp) _))) (fail)
   all_goals have RN:Blk ((((w1.setCell ⟨w.heap.size,0,none⟩ (.int .i64 m)).setCell ⟨w.heap.size,1,none⟩ (.int .i64 d)).setCell ⟨w.heap.size,2,none⟩ (.slice io n ic)).setCell ⟨w.heap.size,3,none⟩ (.slice (some ⟨h,0,none⟩) N hc)).drew w.heap.size [.int .i64 m,.int .i64 d,.slice io n ic,.slice (some ⟨h,0,none⟩) N hc]:=((((BZ.setI 0 (by simp) _).setI 1 (by simp) _).setI 2 (by simp) _).setI 3 (by simp) _).drew
   all_goals have HNN:Below w.heap.size w ((((w1.setCell ⟨w.heap.size,0,none⟩ (.int .i64 m)).setCell ⟨w.heap.size,1,none⟩ (.int .i64 d)).setCell ⟨w.heap.size,2,none⟩ (.slice io n ic)).setCell ⟨w.heap.size,3,none⟩ (.slice (some ⟨h,0,none⟩) N hc)).drew:=((((H1.setCell (p:=⟨w.heap.size,0,none⟩) (Nat.le_refl _) _).setCell (p:=⟨w.heap.size,1,none⟩) (Nat.le_refl _) _).setCell (p:=⟨w.heap.size,2,none⟩) (Nat.le_refl _) _).setCell (p:=⟨w.heap.size,3,none⟩) (Nat.le_refl _) _).drew
   all_goals have HON:Hid (((((w1.setCell ⟨w.heap.size,0,none⟩ (.int .i64 m)).setCell ⟨w.heap.size,1,none⟩ (.int .i64 d)).setCell ⟨w.heap.size,2,none⟩ (.slice io n ic)).setCell ⟨w.heap.size,3,none⟩ (.slice (some ⟨h,0,none⟩) N hc)).drew.ownsRow w.heap.size 102 5 (.slice (some ⟨h,0,none⟩) N hc) L.length (wbCs L I)):=by rw[HN.out];exact own_set4 hO hzl
   all_goals clear BZ hO H1 HKq z0 z1 z2 z3 y0 y1 y2 y3 zl
   all_goals have r0:=RN.c 0 rfl;have r1:=RN.c 1 rfl;have r2:=RN.c 2 rfl;have r3:=RN.c 3 rfl
   all_goals go_wp2
   all_goals refine bodyPost_ret (v:= .tuple #[.agg #[.int .i64 m,.int .i64 d,.slice io n ic,.slice (some ⟨h,0,none⟩) N hc],.bool true]) (by simp[results,Tryz.results54,go_sem,r0,r1,r2,r3]) rfl ?_
   all_goals exact⟨HNN,.inr ⟨by rw[HN.out];omega,_,I,rfl,HON.out,hIW.out⟩⟩
theorem insA_any (base n j vb ic:Nat) (io:Option Addr) (xs vs:List Value) (w:World) (hj:j≤n) (hn:n≤1048576) (hb:base≤w.heap.size) (hO:w.ownsRow base 40 5 (.slice io n ic) n xs) (hv:w.heap[vb]? =some (.cells vs.toArray 40 (0,0))) (hvl:vs.length=5) (hvb:∀b,(Value.slice io n ic).ownBlock=some b→vb≠b) (h1v:∀v∈vs,v.oneCell' =true) (h1x:∀v∈xs,v.oneCell' =true):Calls Tryz.prog 57 #[.slice io n ic,.int .i64 (j:Int),.slice (some ⟨vb,0,none⟩) 1 1] w (InsP base 40 5 (.slice io n ic) n j xs vs w):=by
 rcases Nat.lt_or_ge j n with h | h
 · obtain⟨g,c,e,_⟩:=ownQ_form hO (by omega);cases e;exact insIt_any base g n ic j vb xs vs w h hn hO hv hvl (hvb g rfl) h1v h1x
 · obtain rfl:j=n:=by omega
   exact insEIt_any base j vb _ xs vs w hn hb hO hv hvl h1v
theorem implSegQ_any (a b c d:Int) (w:World):Calls Tryz.prog 24 #[Sg a b c d] w (VP (.bool (segOk a b c d)) w):=(implSegOk_any a b c d _ rfl w).mono fun _ _ h=>h
theorem itCs_take {Q:QD} {j:Nat}:∀n,(itCs Q (List.range (j+n))).take (j*5)=itCs Q (List.range j)
 | 0=>List.take_of_length_le (by rw[itCs_len,List.length_range];omega)
 | n+1=>by
  rw[←Nat.add_assoc,itCs_more,List.take_append_of_le_length (by rw[itCs_len,List.length_range];omega)];exact itCs_take n
theorem itCs_insN {Q:QD} {id:Int} {sg:Int×Int×Int×Int} {j:Nat}:∀n,itCs (insQ Q j id sg) (List.range (j+n+1))=itCs Q (List.range j) ++[.int .i64 id,.int .i64 sg.1,.int .i64 sg.2.1,.int .i64 sg.2.2.1,.int .i64 sg.2.2.2] ++(itCs Q (List.range (j+n))).drop (j*5)
 | 0=>by
  rw[Nat.add_zero,itCs_put,List.drop_of_length_le (by rw[itCs_len,List.length_range];omega),List.append_nil]
 | n+1=>by
  rw[←Nat.add_assoc,itCs_gt (show j≤j+n by omega),itCs_insN n,itCs_more Q (j+n),List.drop_append_of_le_length (by rw[itCs_len,List.length_range];omega)];simp only[List.append_assoc]
theorem itCs_insert {Q:QD} {id:Int} {sg:Int×Int×Int×Int} {j:Nat} (hj:j≤Q.m):(itCs Q (List.range Q.m)).take (j*5) ++[.int .i64 id,.int .i64 sg.1,.int .i64 sg.2.1,.int .i64 sg.2.2.1,.int .i64 sg.2.2.2] ++(itCs Q (List.range Q.m)).drop (j*5)=itCs (insQ Q j id sg) (List.range (Q.m+1)):=by
 have h1:=itCs_take (Q:=Q) (j:=j) (Q.m-j);have h2:=itCs_insN (Q:=Q) (id:=id) (sg:=sg) (j:=j) (Q.m-j);rw[show j+(Q.m-j)=Q.m by omega] at h1 h2;rw[h1,h2]
structure MidP (Q:QD) (j:Nat) (m d id a bb cc dd:Int) (w:World) (base gq gr:Nat) (okx:Nat→Prop) (ao7:Option Addr) (cap7:Nat) (wx:World):Prop where
 below:Below w.heap.size w wx
 seg:Blk wx (w.heap.size+1) [.int .i64 a,.int .i64 bb,.int .i64 cc,.int .i64 dd]
 res:Blk wx (w.heap.size+2) [.int .i64 0,.int .i64 0,.slice none 0 0,.slice none 0 0]
 quad:Blk wx gq [.int .i64 m,.int .i64 d,.slice ao7 (Q.m+1) cap7,.pointer (some ⟨gr,0,none⟩)]
 tree:STr okx wx (trQ Q d.toNat 0 (-1048576) (-1048576) 2097152) (-1048576) (-1048576) 2097152 0 gr
 oks:∀b,okx b→base≤b∧b<wx.heap.size∧b≠gq∧(Value.slice ao7 (Q.m+1) cap7).ownBlock≠some b
 items:wx.ownsRow base 40 5 (.slice ao7 (Q.m+1) cap7) (Q.m+1) (itCs (insQ Q j id (a,bb,cc,dd)) (List.range (Q.m+1)))
 gqi:(Value.slice ao7 (Q.m+1) cap7).ownBlock≠some gq
 size:base≤wx.heap.size
theorem mid_of {Q:QD} {j:Nat} {m d id a bb cc dd:Int} {w wA w7:World} {base s5 gq gr ic cap7:Nat} {io ao7:Option Addr} (hj:j≤Q.m) (hb0:w.heap.size+2<base) (hbq:base≤gq) (hgq5:gq<s5) (hs5:s5<wA.heap.size) (HBQ:Blk wA gq [.int .i64 m,.int .i64 d,.slice io Q.m ic,.pointer (some ⟨gr,0,none⟩)]) (HB1:Blk wA (w.heap.size+1) [.int .i64 a,.int .i64 bb,.int .i64 cc,.int .i64 dd]) (HB2:Blk wA (w.heap.size+2) [.int .i64 0,.int .i64 0,.slice none 0 0,.slice none 0 0]) (HB:Below w.heap.size w wA) (hST:STr (fun b=>(base≤b∧b<s5)∧b≠gq∧∀c,(Value.slice io Q.m ic).ownBlock=some c→b≠c) wA (trQ Q d.toNat 0 (-1048576) (-1048576) 2097152) (-1048576) (-1048576) 2097152 0 gr) (hIl:∀c,(Value.slice io Q.m ic).ownBlock=some c→base≤c∧c<s5) (hneq:∀c,(Value.slice io Q.m ic).ownBlock=some c→c≠gq) (hO7:w7.ownsRow base 40 5 (.slice ao7 (Q.m+1) cap7) (Q.m+1) ((itCs Q (List.range Q.m)).take (j*5) ++[.int .i64 id,.int .i64 a,.int .i64 bb,.int .i64 cc,.int .i64 dd] ++(itCs Q (List.range Q.m)).drop (j*5))) (hG7:wA.grownBy w7 (Value.slice io Q.m ic).ownBlock) (hob7:(Value.slice ao7 (Q.m+1) cap7).ownBlock=(Value.slice io Q.m ic).ownBlock∨(Value.slice ao7 (Q.m+1) cap7).ownBlock=some wA.heap.size):∃okx,MidP Q j m d id a bb cc dd w base gq gr okx ao7 cap7 (w7.setCell ⟨gq,2,none⟩ (.slice ao7 (Q.m+1) cap7)):=by
 have hG7s:=hG7.size;have hsz:(w7.setCell ⟨gq,2,none⟩ (.slice ao7 (Q.m+1) cap7)).heap.size=w7.heap.size:=by simp[World.setCell]
 have hne:∀b,b≠gq→(w7.setCell ⟨gq,2,none⟩ (.slice ao7 (Q.m+1) cap7)).heap[b]? =w7.heap[b]? :=fun b hb=>Below.heap_setCell _ _ _ _ hb;have hv7:∀c,(Value.slice ao7 (Q.m+1) cap7).ownBlock=some c→c≠gq∧((Value.slice io Q.m ic).ownBlock=some c∨s5≤c):=fun c e=>by
  rcases hob7 with h | h
  · rw[h] at e;exact⟨hneq c e,.inl e⟩
  · rw[h] at e;have:=Option.some.inj e;exact⟨by omega,.inr (by omega)⟩
 have BQ7:=HBQ.grown hG7 (fun e=>hneq gq e.symm rfl);refine⟨fun b=>(base≤b∧b<s5)∧b≠gq∧∀c,(Value.slice io Q.m ic).ownBlock=some c→b≠c,?_,?_,?_,BQ7.setI 2 (by simp) _,?_,fun b hb=>?_,?_,fun e=>(hv7 gq e).1 rfl,by omega⟩
 · exact(HB.grown hG7 HB.size (fun c e=>by have:=(hIl c e).1;omega)).setCell (p:=⟨gq,2,none⟩) (by show w.heap.size≤gq;omega) _
 · exact(HB1.grown hG7 (fun e=>by have:=(hIl _ e.symm).1;omega)).keep (by omega) (hne _ (by omega))
 · exact(HB2.grown hG7 (fun e=>by have:=(hIl _ e.symm).1;omega)).keep (by omega) (hne _ (by omega))
 · exact STr.keep (by omega) (fun b hb _=>(hne b hb.2.1).trans (hG7.block b (by have:=hb.1.2;omega) (fun e=>hb.2.2 b e.symm rfl))) (fun _ h _=>h) hST
 · refine⟨hb.1.1,by have:=hb.1.2;omega,hb.2.1,fun e=>?_⟩
   rcases(hv7 b e).2 with h | h
   · exact hb.2.2 b h rfl
   · have:=hb.1.2;omega
 · rw[←itCs_insert hj];exact ownQ_heap hO7 (fun k hk=>hne k (hv7 k hk).1)
def PutG (Q:QD) (m d id a bb cc dd:Int) (w:World) (r:Ending) (w' :World):Prop:=
 Below w.heap.size w w' ∧((putB Q m d id (a,bb,cc,dd)=false∧r= .returned (.tuple #[.agg #[.int .i64 0,.int .i64 0,.slice none 0 0,.slice none 0 0],.bool false]))∨(putB Q m d id (a,bb,cc,dd)=true∧∃j,plcJ Q id j∧((2000<(putL Q m d id (a,bb,cc,dd) j).length∧r= .returned (.tuple #[.agg #[.int .i64 0,.int .i64 0,.slice none 0 0,.slice none 0 0],.bool false]))∨((putL Q m d id (a,bb,cc,dd) j).length≤2000∧∃v u I,r= .returned (.tuple #[.agg #[.int .i64 m,.int .i64 d,v,u],.bool true])∧w'.ownsRow w.heap.size 40 5 v (Q.m+1) (itCs (insQ Q j id (a,bb,cc,dd)) (List.range (Q.m+1)))∧w'.ownsRow w.heap.size 102 5 u (putL Q m d id (a,bb,cc,dd) j).length (wbCs (putL Q m d id (a,bb,cc,dd) j) I)∧IsP (fun b=>w.heap.size≤b∧v.ownBlock≠some b∧u.ownBlock≠some b) w' (putL Q m d id (a,bb,cc,dd) j) I∧∀b,v.ownBlock=some b→u.ownBlock≠some b))))
theorem implQuadPut_any (w:World) (Q:QD) (ao bo:Option Addr) (cap bcap A off:Nat) (so:Nat→Option Addr×Nat) (m d:Int) (hm:Q.m≤1048576) (hN:Q.N≤1048576) (hcap:Q.N≤bcap) (hL:∀i,i<Q.N→Q.L i≤1048576) (hbo:0<Q.N→bo=some ⟨A,off,none⟩) (hao:∀A o sp,ao=some ⟨A,o,sp⟩→A<w.heap.size) (hS:ItIn Q w ao (List.range Q.m)) (hBl:BlIn Q w A off so) (id a bb cc dd:Int):Calls Tryz.prog 27 #[.agg #[.int .i64 m,.int .i64 d,.slice ao Q.m cap,.slice bo Q.N bcap],.int .i64 id,Sg a bb cc dd] w (PutG Q m d id a bb cc dd w):=by
 have B0:Blk (((w.alloc (.cells #[.int .i64 m,.int .i64 d,.slice ao Q.m cap,.slice bo Q.N bcap] 27)).alloc (.cells #[.int .i64 a,.int .i64 bb,.int .i64 cc,.int .i64 dd] 38)).alloc (.cells #[.int .i64 0,.int .i64 0,.slice none 0 0,.slice none 0 0] 27)) w.heap.size [.int .i64 m,.int .i64 d,.slice ao Q.m cap,.slice bo Q.N bcap]:=((Blk.new w [.int .i64 m,.int .i64 d,.slice ao Q.m cap,.slice bo Q.N bcap] 27 rfl).alloc _).alloc _;have B1:Blk (((w.alloc (.cells #[.int .i64 m,.int .i64 d,.slice ao Q.m cap,.slice bo Q.N bcap] 27)).alloc (.cells #[.int .i64 a,.int .i64 bb,.int .i64 cc,.int .i64 dd] 38)).alloc (.cells #[.int .i64 0,.int .i64 0,.slice none 0 0,.slice none 0 0] 27)) (w.heap.size+1) [.int .i64 a,.int .i64 bb,.int .i64 cc,.int .i64 dd]:=(Blk.new (w.alloc (.cells #[.int .i64 m,.int .i64 d,.slice ao Q.m cap,.slice bo Q.N bcap] 27)) [.int .i64 a,.int .i64 bb,.int .i64 cc,.int .i64 dd] 38 (by simp)).alloc _;have B2:Blk (((w.alloc (.cells #[.int .i64 m,.int .i64 d,.slice ao Q.m cap,.slice bo Q.N bcap] 27)).alloc (.cells #[.int .i64 a,.int .i64 bb,.int .i64 cc,.int .i64 dd] 38)).alloc (.cells #[.int .i64 0,.int .i64 0,.slice none 0 0,.slice none 0 0] 27)) (w.heap.size+2) [.int .i64 0,.int .i64 0,.slice none 0 0,.slice none 0 0]:=Blk.new ((w.alloc (.cells #[.int .i64 m,.int .i64 d,.slice ao Q.m cap,.slice bo Q.N bcap] 27)).alloc (.cells #[.int .i64 a,.int .i64 bb,.int .i64 cc,.int .i64 dd] 38)) [.int .i64 0,.int .i64 0,.slice none 0 0,.slice none 0 0] 27 (by simp);have HB:Below w.heap.size w (((w.alloc (.cells #[.int .i64 m,.int .i64 d,.slice ao Q.m cap,.slice bo Q.N bcap] 27)).alloc (.cells #[.int .i64 a,.int .i64 bb,.int .i64 cc,.int .i64 dd] 38)).alloc (.cells #[.int .i64 0,.int .i64 0,.slice none 0 0,.slice none 0 0] 27)):=(((Below.refl _ w).alloc (Nat.le_refl _) _).alloc (by simp) _).alloc (by simp;omega) _;have C:=quadOf_any (((w.alloc (.cells #[.int .i64 m,.int .i64 d,.slice ao Q.m cap,.slice bo Q.N bcap] 27)).alloc (.cells #[.int .i64 a,.int .i64 bb,.int .i64 cc,.int .i64 dd] 38)).alloc (.cells #[.int .i64 0,.int .i64 0,.slice none 0 0,.slice none 0 0] 27)) Q ao bo cap bcap A off so m d hm hN hcap hL hbo (fun A o sp e=>Nat.lt_of_lt_of_le (hao A o sp e) HB.size) (hS.step HB) (hBl.below HB);have hmI:(Q.m:Int)≤1048576:=by omega
 clear hS hBl hao
 go_enter Tryz.func27,Tryz.ntmps27
 go_upto_region 1 with fail;generalize (((w.alloc (.cells #[.int .i64 m,.int .i64 d,.slice ao Q.m cap,.slice bo Q.N bcap] 27)).alloc (.cells #[.int .i64 a,.int .i64 bb,.int .i64 cc,.int .i64 dd] 38)).alloc (.cells #[.int .i64 0,.int .i64 0,.slice none 0 0,.slice none 0 0] 27))=W1 at *;have c0:=B0.c 0 rfl;have c1:=B0.c 1 rfl;have c2:=B0.c 2 rfl;have c3:=B0.c 3 rfl;go_wp2_with fail;refine C.mono ?_;rintro r w1 ⟨pv,rfl,hB1,hQT⟩;have hP2:w.heap.size+2<W1.heap.size:=B2.lt;have hW1:=hB1.size;replace B0:=B0.step hB1;replace B1:=B1.step hB1;replace B2:=B2.step hB1;replace HB:=HB.trans (hB1.mono HB.size);clear C c0 c1 c2 c3 hB1;cases hq:qOk Q m d with
 | false=>
  have HP:Hid (putB Q m d id (a,bb,cc,dd)=false):=by show _=_;unfold putB;rw[hq];rfl
  clear hq hQT;have y0:=B2.f 0 rfl;have y1:=B2.f 1 rfl;have y2:=B2.f 2 rfl;have y3:=B2.f 3 rfl;have z0:=B2.c 0 rfl;have z1:=B2.c 1 rfl;have z2:=B2.c 2 rfl;have z3:=B2.c 3 rfl;have BF:=set4_blk B2 (.int .i64 0) (.int .i64 0) (.slice none 0 0) (.slice none 0 0);have HF:=set4_below HB (show w.heap.size≤w.heap.size+2 by omega) (.int .i64 0) (.int .i64 0) (.slice none 0 0) (.slice none 0 0);go_wp2;have r0:=BF.out.c 0 rfl;have r1:=BF.out.c 1 rfl;have r2:=BF.out.c 2 rfl;have r3:=BF.out.c 3 rfl;refine bodyPost_ret (v:= .tuple #[.agg #[.int .i64 0,.int .i64 0,.slice none 0 0,.slice none 0 0],.bool false]) (by simp[results,Tryz.results27,go_sem,r0,r1,r2,r3]) rfl ?_;exact⟨HF,.inl ⟨HP.out,rfl⟩⟩
 | true =>
  obtain⟨gq,io,ic,gr,rfl,BQ,hIt,hbq,hST,hOI,hneq⟩:=hQT hq;have HQ:Hid (qOk Q m d=true):=hq;obtain⟨⟨hm1,hm8⟩,⟨hd0,hd8⟩,hits,_⟩:=qOk_all hq;have h6:=its6_of hits;have hri:=rise_of hits;have h40:Q.m≤40:=(of_decide_eq_true hits).1;clear hq hits hQT;go_wp2_with fail;refine(isItem_any id _).mono ?_;rintro r w3 ⟨rfl,hB3⟩;replace B0:=B0.step hB3;replace B1:=B1.step hB3;replace B2:=B2.step hB3;replace HB:=HB.trans (hB3.mono HB.size);replace BQ:=BQ.step hB3;replace hIt:=hIt.step hB3;replace hST:=hST.step hB3;replace hOI:=ownA_step hOI hB3;have hw3:=hB3.size;clear hB3
  by_cases hid:1≤id∧id≤1000
  rotate_left
  · rw[decide_eq_false hid];have HP:Hid (putB Q m d id (a,bb,cc,dd)=false):=by show _=_;unfold putB;rw[decide_eq_false (fun h=>hid h.1),Bool.and_false]
    clear hid;have y0:=B2.f 0 rfl;have y1:=B2.f 1 rfl;have y2:=B2.f 2 rfl;have y3:=B2.f 3 rfl;have z0:=B2.c 0 rfl;have z1:=B2.c 1 rfl;have z2:=B2.c 2 rfl;have z3:=B2.c 3 rfl;have BF:=set4_blk B2 (.int .i64 0) (.int .i64 0) (.slice none 0 0) (.slice none 0 0);have HF:=set4_below HB (show w.heap.size≤w.heap.size+2 by omega) (.int .i64 0) (.int .i64 0) (.slice none 0 0) (.slice none 0 0);go_wp2;have r0:=BF.out.c 0 rfl;have r1:=BF.out.c 1 rfl;have r2:=BF.out.c 2 rfl;have r3:=BF.out.c 3 rfl;refine bodyPost_ret (v:= .tuple #[.agg #[.int .i64 0,.int .i64 0,.slice none 0 0,.slice none 0 0],.bool false]) (by simp[results,Tryz.results27,go_sem,r0,r1,r2,r3]) rfl ?_;exact⟨HF,.inl ⟨HP.out,rfl⟩⟩
  rw[decide_eq_true hid];have n0:=B1.c 0 rfl;have n1:=B1.c 1 rfl;have n2:=B1.c 2 rfl;have n3:=B1.c 3 rfl;go_wp2_with fail;refine(implSegQ_any a bb cc dd w3).mono ?_;rintro r w4 ⟨rfl,hB4⟩;clear n0 n1 n2 n3;replace B0:=B0.step hB4;replace B1:=B1.step hB4;replace B2:=B2.step hB4;replace HB:=HB.trans (hB4.mono HB.size);replace BQ:=BQ.step hB4;replace hIt:=hIt.step hB4;replace hST:=hST.step hB4;replace hOI:=ownA_step hOI hB4;have hw4:=hB4.size;clear hB4;cases hsg:segOk a bb cc dd with
  | false=>
   have HP:Hid (putB Q m d id (a,bb,cc,dd)=false):=by show _=_;unfold putB;rw[decide_eq_false (fun h=>by have:=h.2.1;simp only at this;rw[hsg] at this;cases this),Bool.and_false]
   clear hsg hid;have y0:=B2.f 0 rfl;have y1:=B2.f 1 rfl;have y2:=B2.f 2 rfl;have y3:=B2.f 3 rfl;have z0:=B2.c 0 rfl;have z1:=B2.c 1 rfl;have z2:=B2.c 2 rfl;have z3:=B2.c 3 rfl;have BF:=set4_blk B2 (.int .i64 0) (.int .i64 0) (.slice none 0 0) (.slice none 0 0);have HF:=set4_below HB (show w.heap.size≤w.heap.size+2 by omega) (.int .i64 0) (.int .i64 0) (.slice none 0 0) (.slice none 0 0);go_wp2;have r0:=BF.out.c 0 rfl;have r1:=BF.out.c 1 rfl;have r2:=BF.out.c 2 rfl;have r3:=BF.out.c 3 rfl;refine bodyPost_ret (v:= .tuple #[.agg #[.int .i64 0,.int .i64 0,.slice none 0 0,.slice none 0 0],.bool false]) (by simp[results,Tryz.results27,go_sem,r0,r1,r2,r3]) rfl ?_;exact⟨HF,.inl ⟨HP.out,rfl⟩⟩
  | true =>
   have HSG:Hid (segOk a bb cc dd=true):=hsg;have HID:Hid (1≤id∧id≤1000):=hid;clear hsg hid;have q2:=BQ.c 2 rfl
   by_cases hm40:Q.m=40
   · have HP:Hid (putB Q m d id (a,bb,cc,dd)=false):=by show _=_;unfold putB;rw[decide_eq_false (fun h=>by have:=h.2.2.1;omega),Bool.and_false]
     have hmI4:(Q.m:Int)=40:=by omega
     have hmB:((Q.m:Int)==40)=true:=by simpa using hmI4
     clear hm40;have y0:=B2.f 0 rfl;have y1:=B2.f 1 rfl;have y2:=B2.f 2 rfl;have y3:=B2.f 3 rfl;have z0:=B2.c 0 rfl;have z1:=B2.c 1 rfl;have z2:=B2.c 2 rfl;have z3:=B2.c 3 rfl;have BF:=set4_blk B2 (.int .i64 0) (.int .i64 0) (.slice none 0 0) (.slice none 0 0);have HF:=set4_below HB (show w.heap.size≤w.heap.size+2 by omega) (.int .i64 0) (.int .i64 0) (.slice none 0 0) (.slice none 0 0);clear hmI4;go_wp2;have r0:=BF.out.c 0 rfl;have r1:=BF.out.c 1 rfl;have r2:=BF.out.c 2 rfl;have r3:=BF.out.c 3 rfl;refine bodyPost_ret (v:= .tuple #[.agg #[.int .i64 0,.int .i64 0,.slice none 0 0,.slice none 0 0],.bool false]) (by simp[results,Tryz.results27,go_sem,r0,r1,r2,r3]) rfl ?_;exact⟨HF,.inl ⟨HP.out,rfl⟩⟩
   have hmB:((Q.m:Int)==40)=false:=by simp;omega
   obtain⟨j,hj,hlo,hhi⟩:=place_ex hri id Q.m (Nat.le_refl _);have HLO:Hid (∀i,i<j→Q.I i<id):=hlo;have HHI:Hid (∀i,j≤i→i<Q.m→id≤Q.I i):=hhi;obtain⟨th,hth⟩:∃th,decide (j<Q.m∧Q.I j=id)=th:=⟨_,rfl⟩;have HTH:Hid (decide (j<Q.m∧Q.I j=id)=th):=hth;have CP:=place_any Q gq ic io m d id (.pointer (some ⟨gr,0,none⟩)) j th hm hj hlo hhi (by rw[←hth];simp) w4 BQ hIt;clear hlo hhi hth;go_wp2_with fail;refine CP.mono ?_;rintro r w5 ⟨rfl,hB5⟩;clear CP q2 hmB;replace B0:=B0.step hB5;replace B1:=B1.step hB5;replace B2:=B2.step hB5;replace HB:=HB.trans (hB5.mono HB.size);replace BQ:=BQ.step hB5;replace hIt:=hIt.step hB5;replace hST:=hST.step hB5;replace hOI:=ownA_step hOI hB5;have hw5:=hB5.size;clear hB5;cases th with
   | true=>
    have HP:Hid (putB Q m d id (a,bb,cc,dd)=false):=by
     show _=_;obtain⟨h1,h2⟩:=of_decide_eq_true HTH.out;unfold putB;rw[decide_eq_false (fun h=>h.2.2.2 j h1 h2),Bool.and_false]
    have y0:=B2.f 0 rfl;have y1:=B2.f 1 rfl;have y2:=B2.f 2 rfl;have y3:=B2.f 3 rfl;have z0:=B2.c 0 rfl;have z1:=B2.c 1 rfl;have z2:=B2.c 2 rfl;have z3:=B2.c 3 rfl;have BF:=set4_blk B2 (.int .i64 0) (.int .i64 0) (.slice none 0 0) (.slice none 0 0);have HF:=set4_below HB (show w.heap.size≤w.heap.size+2 by omega) (.int .i64 0) (.int .i64 0) (.slice none 0 0) (.slice none 0 0);go_wp2;have r0:=BF.out.c 0 rfl;have r1:=BF.out.c 1 rfl;have r2:=BF.out.c 2 rfl;have r3:=BF.out.c 3 rfl;refine bodyPost_ret (v:= .tuple #[.agg #[.int .i64 0,.int .i64 0,.slice none 0 0,.slice none 0 0],.bool false]) (by simp[results,Tryz.results27,go_sem,r0,r1,r2,r3]) rfl ?_;exact⟨HF,.inl ⟨HP.out,rfl⟩⟩
   | false=>
    have HPL:Hid (plcJ Q id j):=⟨hj,HLO.out,fun i h1 h2=>by
     have h3:=HHI.out i h1 h2;have h4:¬(j<Q.m∧Q.I j=id):=of_decide_eq_false HTH.out
     rcases Nat.lt_or_ge j i with h5 | h5
     · have h6:=rise_lt hri (i-j-1) j (by omega);rw[show j+(i-j-1)+1=i by omega] at h6;have h7:=HHI.out j (Nat.le_refl _) (by omega)
       omega
     · obtain rfl:i=j:=by omega
       have h8:¬(Q.I i=id):=fun e=>h4 ⟨h2,e⟩
       omega⟩
    have HP:Hid (putB Q m d id (a,bb,cc,dd)=true):=by
     show _=_;unfold putB;rw[HQ.out,Bool.true_and];refine decide_eq_true ⟨HID.out,HSG.out,by omega,fun i hi e=>?_⟩
     rcases Nat.lt_or_ge i j with h | h
     · have:=HLO.out i h;omega
     · have:=HPL.out.2.2 i h hi;omega
    clear HTH HHI HLO;go_upto_region 7 with fail
    go_cut [] (fun wx=>∃ao7 cap7 okx,MidP Q j m d id a bb cc dd w W1.heap.size gq gr okx ao7 cap7 wx)
    case first=>
     have n0:=B1.c 0 rfl;have n1:=B1.c 1 rfl;have n2:=B1.c 2 rfl;have n3:=B1.c 3 rfl;have q2:=BQ.c 2 rfl;have f2:=BQ.f 2 rfl;have hgq5:gq<w5.heap.size:=BQ.lt;have hOIl:Hid (∀c,(Value.slice io Q.m ic).ownBlock=some c→W1.heap.size≤c∧c<w5.heap.size):=fun c e=>World.ownsRow.lt hOI c e;have hW15:W1.heap.size≤w5.heap.size:=by omega
     have hA1:Below w5.heap.size w5 (w5.alloc (.cells #[.int .i64 id,.int .i64 a,.int .i64 bb,.int .i64 cc,.int .i64 dd] 40)).drew:=((Below.refl _ w5).alloc (Nat.le_refl _) _).drew;have hA1s:(w5.alloc (.cells #[.int .i64 id,.int .i64 a,.int .i64 bb,.int .i64 cc,.int .i64 dd] 40)).drew.heap.size=w5.heap.size+1:=by simp
     have HI:=insA_any W1.heap.size Q.m j w5.heap.size ic io (itCs Q (List.range Q.m)) [.int .i64 id,.int .i64 a,.int .i64 bb,.int .i64 cc,.int .i64 dd] (w5.alloc (.cells #[.int .i64 id,.int .i64 a,.int .i64 bb,.int .i64 cc,.int .i64 dd] 40)).drew hj hm (by rw[hA1s];omega) (ownA_step hOI hA1) (heap_alloc_new w5 _) rfl (fun b e=>by have:=(hOIl.out b e).2;omega) (int5_one _ _ _ _ _) (itCs_one Q _);have HA1S:Hid ((w5.alloc (.cells #[.int .i64 id,.int .i64 a,.int .i64 bb,.int .i64 cc,.int .i64 dd] 40)).drew.heap.size=w5.heap.size+1):=hA1s;have HAB:Hid (Below w5.heap.size w5 (w5.alloc (.cells #[.int .i64 id,.int .i64 a,.int .i64 bb,.int .i64 cc,.int .i64 dd] 40)).drew):=hA1;have HSTW:Hid (STr (fun b=>(W1.heap.size≤b∧b<w5.heap.size)∧b≠gq∧∀c,(Value.slice io Q.m ic).ownBlock=some c→b≠c) (w5.alloc (.cells #[.int .i64 id,.int .i64 a,.int .i64 bb,.int .i64 cc,.int .i64 dd] 40)).drew (trQ Q d.toNat 0 (-1048576) (-1048576) 2097152) (-1048576) (-1048576) 2097152 0 gr):=STr.step hA1 (STr.keep (Nat.le_refl _) (fun _ _ _=>rfl) (fun b hb hl=>⟨⟨hb.1,hl⟩,hb.2⟩) hST);have HBQ1:Hid (Blk (w5.alloc (.cells #[.int .i64 id,.int .i64 a,.int .i64 bb,.int .i64 cc,.int .i64 dd] 40)).drew gq [.int .i64 m,.int .i64 d,.slice io Q.m ic,.pointer (some ⟨gr,0,none⟩)]):=BQ.step hA1;have HB11:Hid (Blk (w5.alloc (.cells #[.int .i64 id,.int .i64 a,.int .i64 bb,.int .i64 cc,.int .i64 dd] 40)).drew (w.heap.size+1) [.int .i64 a,.int .i64 bb,.int .i64 cc,.int .i64 dd]):=B1.step hA1;have HB21:Hid (Blk (w5.alloc (.cells #[.int .i64 id,.int .i64 a,.int .i64 bb,.int .i64 cc,.int .i64 dd] 40)).drew (w.heap.size+2) [.int .i64 0,.int .i64 0,.slice none 0 0,.slice none 0 0]):=B2.step hA1;have HBB1:Hid (Below w.heap.size w (w5.alloc (.cells #[.int .i64 id,.int .i64 a,.int .i64 bb,.int .i64 cc,.int .i64 dd] 40)).drew):=HB.trans (hA1.mono HB.size);clear hA1 hA1s hST hOI hIt
     go_region_with ((go_at_call 57;refine HI.mono ?_;rintro r w7 ⟨v7,rfl,hO7,hG7,hob7⟩;obtain⟨ao7,cap7,rfl⟩:=ownQ_slice hO7;have BQ7:=HBQ1.out.grown hG7 (fun e=>hneq gq e.symm rfl);have q27:=BQ7.c 2 rfl;have f27:=BQ7.f 2 rfl;have HREL:Hid (∃okx,MidP Q j m d id a bb cc dd w W1.heap.size gq gr okx ao7 cap7 (w7.setCell ⟨gq,2,none⟩ (.slice ao7 (Q.m+1) cap7))):=mid_of hj hP2 hbq hgq5 (by have:=HA1S.out;omega) HBQ1.out HB11.out HB21.out HBB1.out HSTW.out hOIl.out hneq hO7 hG7 hob7))
     all_goals (go_wp2;go_meet;case rel=>exact⟨ao7,cap7,HREL.out⟩)
    case rest=>
     obtain⟨ao7,cap7,okx,M⟩:=hcut
     rename ∀(a:Act) (w_1:World),Code.wp _ (Go.Code.seq _ _) _ _ _→_=>hk
     refine hk _ _ ?_;clear hk BQ hIt hST hOI B0 B1 B2 HB;obtain⟨HB,B1,B2,BQ,hST,hoks,hIW,hgqi,hWs⟩:=M;have hsn:nlT (trQ Q d.toNat 0 (-1048576) (-1048576) 2097152)≤1048576:=Nat.le_trans (tr_small HQ.out).2.1 (by omega);have hIt:ItIn (insQ Q j id (a,bb,cc,dd)) wc ao7 (List.range (insQ Q j id (a,bb,cc,dd)).m):=by
      obtain⟨ao9,cap9,e9,hI9⟩:=ItIn.of (Q:=insQ Q j id (a,bb,cc,dd)) (l:=List.range (Q.m+1)) (by rw[List.length_range];exact hIW);rw[List.length_range] at e9;cases e9;exact hI9
     have CU:=quadPut_any (insQ Q j id (a,bb,cc,dd)) j d.toNat m d _ gq gr ao7 cap7 okx wc (Nat.lt_succ_of_le hj) (by omega) hd8 (dp_tr Q _ _ _ _ _) hsn (insQ_its6 h6 (in6_seg HSG.out) hj) (by show Q.m+1≤1048576;omega) hST BQ (fun h=>(hoks gq h).2.2.1 rfl) hIt (fun A o sp e=>⟨fun h=>(hoks A h).2.2.2 (by subst e;rfl),(World.ownsRow.lt hIW A (by subst e;rfl)).2⟩);rw[(insQ_at Q j id (a,bb,cc,dd)).2] at CU;have HOKS:Hid (∀b,okx b→W1.heap.size≤b∧b<wc.heap.size∧b≠gq∧(Value.slice ao7 (Q.m+1) cap7).ownBlock≠some b):=hoks;have HIWL:Hid (∀c,(Value.slice ao7 (Q.m+1) cap7).ownBlock=some c→W1.heap.size≤c∧c<wc.heap.size):=fun c e=>World.ownsRow.lt hIW c e;have n0:=B1.c 0 rfl;have n1:=B1.c 1 rfl;have n2:=B1.c 2 rfl;have n3:=B1.c 3 rfl;clear hST hIt hoks;go_wp2_with fail;refine CU.mono ?_;rintro r w9 ⟨rfl,ok9,hS9,ho9,hF9⟩;clear CU n0 n1 n2 n3;have hB9:Below W1.heap.size wc w9:=hF9.below hWs (fun b h=>(HOKS.out b h.1).1);replace HB:=HB.trans (hB9.mono (by omega));replace B2:=B2.below hB9 (by omega);replace BQ:=hF9.blk BQ (fun h=>(HOKS.out gq h.1).2.2.1 rfl);replace hIW:=ownQ_heap hIW (fun k hk=>hF9.block k (HIWL.out k hk).2 (fun h=>(HOKS.out k h.1).2.2.2 hk));have hs9:=hF9.size;have TO:=toldS_any _ gq gr (Q.m+1) cap7 ao7 m d ok9 w9 (Nat.le_trans (putL_le (Q:=Q) (m:=m) (d:=d) (id:=id) (sg:=(a,bb,cc,dd)) (j:=j) hd0 hd8) (by omega)) BQ hS9;change Calls _ _ _ _ (ToldP m d (.slice ao7 (Q.m+1) cap7) ok9 (putL Q m d id (a,bb,cc,dd) j) w9) at TO;clear hB9 hF9 hS9 B1 BQ;go_wp2_with fail;refine TO.mono ?_;rintro r wx ⟨hBx,hTx⟩;clear TO;replace HB:=HB.trans (hBx.mono HB.size);replace hIW:=ownA_step hIW hBx;have hP9:w.heap.size+2<w9.heap.size:=B2.lt;replace B2:=B2.step hBx;have hsx:=hBx.size
     rcases hTx with ⟨h2000,rfl⟩ | ⟨h2000,u,I,rfl,hU,hIs⟩
     · have HF9:Hid (2000<(putL Q m d id (a,bb,cc,dd) j).length):=h2000;clear h2000 hIW hBx;have y0:=B2.f 0 rfl;have y1:=B2.f 1 rfl;have y2:=B2.f 2 rfl;have y3:=B2.f 3 rfl;have z0:=B2.c 0 rfl;have z1:=B2.c 1 rfl;have z2:=B2.c 2 rfl;have z3:=B2.c 3 rfl;have BF:=set4_blk B2 (.int .i64 0) (.int .i64 0) (.slice none 0 0) (.slice none 0 0);have HF:=set4_below HB (show w.heap.size≤w.heap.size+2 by omega) (.int .i64 0) (.int .i64 0) (.slice none 0 0) (.slice none 0 0);go_wp2;have r0:=BF.out.c 0 rfl;have r1:=BF.out.c 1 rfl;have r2:=BF.out.c 2 rfl;have r3:=BF.out.c 3 rfl;refine bodyPost_ret (v:= .tuple #[.agg #[.int .i64 0,.int .i64 0,.slice none 0 0,.slice none 0 0],.bool false]) (by simp[results,Tryz.results27,go_sem,r0,r1,r2,r3]) rfl ?_;exact⟨HF,.inr ⟨HP.out,j,HPL.out,.inl ⟨HF9.out,rfl⟩⟩⟩
     · have HF9:Hid ((putL Q m d id (a,bb,cc,dd) j).length≤2000):=h2000;obtain⟨uo,uc,rfl⟩:=ownQ_slice hU;obtain⟨un,hun⟩:∃un,(putL Q m d id (a,bb,cc,dd) j).length=un:=⟨_,rfl⟩;have HUN:Hid ((putL Q m d id (a,bb,cc,dd) j).length=un):=hun;rw[hun] at hU⊢;clear hun h2000;have HOF:Hid (((((wx.setCell ⟨w.heap.size+2,0,none⟩ (.int .i64 m)).setCell ⟨w.heap.size+2,1,none⟩ (.int .i64 d)).setCell ⟨w.heap.size+2,2,none⟩ (.slice ao7 (Q.m+1) cap7)).setCell ⟨w.heap.size+2,3,none⟩ (.slice uo un uc)).ownsRow w.heap.size 40 5 (.slice ao7 (Q.m+1) cap7) (Q.m+1) (itCs (insQ Q j id (a,bb,cc,dd)) (List.range (Q.m+1)))∧((((wx.setCell ⟨w.heap.size+2,0,none⟩ (.int .i64 m)).setCell ⟨w.heap.size+2,1,none⟩ (.int .i64 d)).setCell ⟨w.heap.size+2,2,none⟩ (.slice ao7 (Q.m+1) cap7)).setCell ⟨w.heap.size+2,3,none⟩ (.slice uo un uc)).ownsRow w.heap.size 102 5 (.slice uo un uc) (putL Q m d id (a,bb,cc,dd) j).length (wbCs (putL Q m d id (a,bb,cc,dd) j) I)∧IsP (fun b=>w.heap.size≤b∧(Value.slice ao7 (Q.m+1) cap7).ownBlock≠some b∧(Value.slice uo un uc).ownBlock≠some b) ((((wx.setCell ⟨w.heap.size+2,0,none⟩ (.int .i64 m)).setCell ⟨w.heap.size+2,1,none⟩ (.int .i64 d)).setCell ⟨w.heap.size+2,2,none⟩ (.slice ao7 (Q.m+1) cap7)).setCell ⟨w.heap.size+2,3,none⟩ (.slice uo un uc)) (putL Q m d id (a,bb,cc,dd) j) I∧∀b,(Value.slice ao7 (Q.m+1) cap7).ownBlock=some b→(Value.slice uo un uc).ownBlock≠some b):=by
        have hb9:∀b,ok9 b→b<w9.heap.size→W1.heap.size≤b∧(Value.slice ao7 (Q.m+1) cap7).ownBlock≠some b:=fun b hb hl=>by
         rcases ho9 b hb with h | h
         · exact⟨(HOKS.out b h.1).1,(HOKS.out b h.1).2.2.2⟩
         · exact⟨by omega,fun e=>by have:=(HIWL.out b e).2;omega⟩
        refine⟨ownQ_mono2 (ownQ_heap hIW (fun k hk=>set4_heap (by have:=(HIWL.out k hk).1;omega))) (by omega),?_,?_,fun b e e2=>?_⟩
        · rw[HUN.out];exact ownQ_mono2 (ownQ_heap hU (fun k hk=>set4_heap (by have:=(World.ownsRow.lt hU k hk).1;omega))) (by omega)
        · refine IsP.keep (fun b hb hl=>(set4_heap (by have:=(hb9 b hb hl).1;omega)).trans (hBx.block b hl)) (fun b hb hl=>⟨by have:=(hb9 b hb hl).1;omega,(hb9 b hb hl).2,fun e=>by have:=(World.ownsRow.lt hU b e).1;omega⟩) hIs
        · have:=(HIWL.out b e).2;have:=(World.ownsRow.lt hU b e2).1
          omega
       have y0:=B2.f 0 rfl;have y1:=B2.f 1 rfl;have y2:=B2.f 2 rfl;have y3:=B2.f 3 rfl;have z0:=B2.c 0 rfl;have z1:=B2.c 1 rfl;have z2:=B2.c 2 rfl;have z3:=B2.c 3 rfl;have BF:=set4_blk B2 (.int .i64 m) (.int .i64 d) (.slice ao7 (Q.m+1) cap7) (.slice uo un uc);have HF:=set4_below HB (show w.heap.size≤w.heap.size+2 by omega) (.int .i64 m) (.int .i64 d) (.slice ao7 (Q.m+1) cap7) (.slice uo un uc);clear hIW hU hIs hBx;go_wp2;have r0:=BF.out.c 0 rfl;have r1:=BF.out.c 1 rfl;have r2:=BF.out.c 2 rfl;have r3:=BF.out.c 3 rfl;refine bodyPost_ret (v:= .tuple #[.agg #[.int .i64 m,.int .i64 d,.slice ao7 (Q.m+1) cap7,.slice uo un uc],.bool true]) (by simp[results,Tryz.results27,go_sem,r0,r1,r2,r3]) rfl ?_;exact⟨HF,.inr ⟨HP.out,j,HPL.out,.inr ⟨HF9.out,_,_,I,rfl,HOF.out⟩⟩⟩
def AnD (e c m x a s de dc dm dx da:Nat):Prop:=(e<c∧c<m∧m<x∧x<a∧a<s)∧da<dm∧dm<de∧de<dc∧dc<dx
def TgK (XP:Value→World→Prop) (TG:Value→Nat→Nat→World→Prop):Prop:=
 (∀v W W2,XP v W→Below W.heap.size W W2→XP v W2)∧∀u lo hi W W2,TG u lo hi W→W.heap.size≤W2.heap.size→(∀b,lo≤b→b<hi→W2.heap[b]? =W.heap[b]?)→TG u lo hi W2
def llB (n:Nat):QT→Prop
 | .leaf l=>l.length≤n
 | .node K=>∀k,k<4→llB n (K k)
theorem rt_ll {Q:QD}:∀{t:QT} {x y s:Int},rtT Q t x y s=true→llB Q.m t
 | .leaf l,x,y,s,h=>by
  have h:=of_decide_eq_true h;show l.length≤Q.m;rw[h];exact canL_len Q x y s
 | .node K,x,y,s,h=>fun k hk=>rt_ll (t:=K k) (List.all_eq_true.1 h k (List.mem_range.2 hk))
theorem ll_mono {n n' :Nat} (hn:n≤n'):∀{t:QT},llB n t→llB n' t
 | .leaf _,h=>Nat.le_trans h hn
 | .node K,h=>fun k hk=>ll_mono hn (t:=K k) (h k hk)
theorem putT_ll {Q:QD} {j:Nat} {mx:Int}:∀{t:QT} {D x y s:Int},llB Q.m t→llB Q.m (putT Q j mx t D x y s)
 | .leaf l,D,x,y,s,h=>by
  rw[putLeaf]
  split
  · split
    · exact canL_len Q x y s
    · exact fun k _=>canL_len Q _ _ _
  · exact h
 | .node K,D,x,y,s,h=>by
  cases hh:hitQ Q x y s j with
  | false=>rw[putT_miss hh];exact h
  | true=>rw[putT_hit hh];exact fun k hk=>putT_ll (t:=K k) (h k hk)
theorem mem_catW {f:Nat→List WB} {z:WB}:∀{n},z∈catW f n→∃k,k<n∧z∈f k
 | 0,h=>by simp[catW] at h
 | n+1,h=>by
  rw[catW,List.mem_append] at h
  rcases h with h | h
  · obtain⟨k,h1,h2⟩:=mem_catW h;exact⟨k,by omega,h2⟩
  · exact⟨n,by omega,h⟩
theorem wrT_ll {n:Nat}:∀{t:QT} {x y s:Int},llB n t→∀q∈wrT t x y s,q.l.length≤n
 | .leaf l,x,y,s,h,q,hq=>by
  simp only[wrT,List.mem_singleton] at hq;subst hq;exact h
 | .node K,x,y,s,h,q,hq=>by
  simp only[wrT,List.mem_cons] at hq
  rcases hq with hq | hq
  · subst hq;exact Nat.zero_le _
  · obtain⟨k,hk,hq⟩:=mem_catW hq;exact wrT_ll (t:=K k) (h k hk) q hq
theorem putL_ll {Q:QD} {m d id:Int} {sg:Int×Int×Int×Int} {j:Nat} (h:qOk Q m d=true):∀q∈putL Q m d id sg j,q.l.length≤41:=by
 obtain⟨_,_,h3,h4⟩:=qOk_all h;have h40:Q.m≤40:=(of_decide_eq_true h3).1;intro q hq;have h5:=wrT_ll (n:=Q.m+1) (putT_ll (Q:=insQ Q j id sg) (ll_mono (Nat.le_succ _) (rt_ll h4))) q hq
 omega
def qdOf (Q:QD) (L:List WB):QD:={m:=Q.m,N:=L.length,I:=Q.I,S:=Q.S,X:=fun i=>(L.getD i ⟨0,0,0,false,[]⟩).x,Y:=fun i=>(L.getD i ⟨0,0,0,false,[]⟩).y,Z:=fun i=>(L.getD i ⟨0,0,0,false,[]⟩).s,T:=fun i=>(L.getD i ⟨0,0,0,false,[]⟩).sp,L:=fun i=>(L.getD i ⟨0,0,0,false,[]⟩).l.length,E:=fun i j=>(L.getD i ⟨0,0,0,false,[]⟩).l.getD j 0}
theorem wbCs_at {ok:Nat→Prop} {w:World}:∀{L:List WB} {I:List Value} {i k:Nat},IvP ok w L I→i<L.length→k<5→(wbCs L I)[i*5+k]? =(wb5 (L.getD i ⟨0,0,0,false,[]⟩) (I.getD i undef))[k]?
 | [],_,i,k,_,hi,_=>absurd hi (by simp)
 | q::L,[],i,k,h,_,_=>h.elim
 | q::L,iv::I,0,k,h,_,hk=>by
  show(wb5 q iv ++wbCs L I)[0*5+k]? =_;rw[List.getElem?_append_left (by simp[wb5];omega),Nat.zero_mul,Nat.zero_add]
  rfl
 | q::L,iv::I,i+1,k,h,hi,hk=>by
  show(wb5 q iv ++wbCs L I)[(i+1)*5+k]? =_;rw[List.getElem?_append_right (by simp[wb5];omega),show(i+1)*5+k-(wb5 q iv).length=i*5+k by simp[wb5];omega,wbCs_at (L:=L) (I:=I) h.2 (by simpa using hi) hk]
  simp
theorem ivP_at {ok:Nat→Prop} {w:World}:∀{L:List WB} {I:List Value} {i:Nat},IvP ok w L I→i<L.length→IdV ok w (I.getD i undef) (L.getD i ⟨0,0,0,false,[]⟩).l
 | [],_,i,_,hi=>absurd hi (by simp)
 | q::L,[],i,h,_=>h.elim
 | q::L,iv::I,0,h,_=>h.1
 | q::L,iv::I,i+1,h,hi=>by
  have h2:=ivP_at (L:=L) (I:=I) (i:=i) h.2 (by simpa using hi)
  simpa using h2
def soL (I:List Value) (i:Nat):Option Addr×Nat:=match I.getD i undef with
 | .slice ao _ c=>(ao,c)
 | _=>(none,0)
theorem blIn_of {Q:QD} {ok:Nat→Prop} {w:World} {b A cap:Nat} {L:List WB} {I:List Value} (h:w.ownsRow b 102 5 (.slice (some ⟨A,0,none⟩) L.length cap) L.length (wbCs L I)) (hI:IvP ok w L I):BlIn (qdOf Q L) w A 0 (soL I):=fun i hi=>by
 have hA:A<w.heap.size:=(World.ownsRow.lt h A rfl).2;obtain⟨ao,c,e1,e2,_,_⟩:=ivP_at hI hi;have hso:soL I i=(ao,c):=by unfold soL;rw[e1]
 have hc:∀k u,k<5→(wb5 (L.getD i ⟨0,0,0,false,[]⟩) (I.getD i undef))[k]? =some u→w.cell? ⟨A,0+i*5+k,none⟩=some u:=fun k u hk hu=>by
  have h1:=h.cells rfl (i*5+k) u ((wbCs_at hI hi hk).trans hu);rw[Addr.add_lit] at h1;rw[show 0+i*5+k=0+(i*5+k) by omega];exact h1
 refine⟨hA,hc 0 _ (by omega) rfl,hc 1 _ (by omega) rfl,hc 2 _ (by omega) rfl,hc 3 _ (by omega) rfl,?_,?_⟩
 · have h4:=hc 4 _ (by omega) rfl;rw[hso];rw[e1] at h4;exact h4
 · rw[hso];exact e2
def AnsS (okn:Bool) (Q:QD) (m d id a bb cc dd:Int) (u:Value) (lo hi:Nat) (W:World):Prop:=
 (okn=false∧u= .agg #[.int .i64 0,.int .i64 0,.slice none 0 0,.slice none 0 0])∨(okn=true∧∃j,plcJ Q id j∧(putL Q m d id (a,bb,cc,dd) j).length≤2000∧∃io ic A bc I,u= .agg #[.int .i64 m,.int .i64 d,.slice io (Q.m+1) ic,.slice (some ⟨A,0,none⟩) (putL Q m d id (a,bb,cc,dd) j).length bc]∧W.ownsRow lo 40 5 (.slice io (Q.m+1) ic) (Q.m+1) (itCs (insQ Q j id (a,bb,cc,dd)) (List.range (Q.m+1)))∧W.ownsRow lo 102 5 (.slice (some ⟨A,0,none⟩) (putL Q m d id (a,bb,cc,dd) j).length bc) (putL Q m d id (a,bb,cc,dd) j).length (wbCs (putL Q m d id (a,bb,cc,dd) j) I)∧IvP (fun b=>lo≤b∧b<hi) W (putL Q m d id (a,bb,cc,dd) j) I∧(∀b,(Value.slice io (Q.m+1) ic).ownBlock=some b→b<hi)∧A<hi)
def AnsG (okn:Bool) (Q:QD) (m d id a bb cc dd:Int) (u:Value) (lo hi:Nat) (W:World):Prop:=
 (okn=false∧u= .agg #[.int .i64 0,.int .i64 0,.slice none 0 0,.slice none 0 0])∨(okn=true∧∃j,plcJ Q id j∧(putL Q m d id (a,bb,cc,dd) j).length≤2000∧∃io ic A bc I,u= .agg #[.int .i64 m,.int .i64 d,.slice io (Q.m+1) ic,.slice (some ⟨A,0,none⟩) (putL Q m d id (a,bb,cc,dd) j).length bc]∧W.ownsRow lo 40 5 (.slice io (Q.m+1) ic) (Q.m+1) (itCs (insQ Q j id (a,bb,cc,dd)) (List.range (Q.m+1)))∧W.ownsRow lo 102 5 (.slice (some ⟨A,0,none⟩) (putL Q m d id (a,bb,cc,dd) j).length bc) (putL Q m d id (a,bb,cc,dd) j).length (wbCs (putL Q m d id (a,bb,cc,dd) j) I)∧IsP (fun b=>(lo≤b∧b<hi)∧(Value.slice io (Q.m+1) ic).ownBlock≠some b∧A≠b) W (putL Q m d id (a,bb,cc,dd) j) I∧(∀b,(Value.slice io (Q.m+1) ic).ownBlock=some b→b<hi∧A≠b)∧A<hi)
theorem AnsG.s {okn:Bool} {Q:QD} {m d id a bb cc dd:Int} {u:Value} {lo hi:Nat} {W:World} (h:AnsG okn Q m d id a bb cc dd u lo hi W):AnsS okn Q m d id a bb cc dd u lo hi W:=by
 rcases h with h | ⟨h1,j,h2,h3,io,ic,A,bc,I,e,h4,h5,h6,h7,h8⟩
 · exact .inl h
 · exact .inr ⟨h1,j,h2,h3,io,ic,A,bc,I,e,h4,h5,IvP.keep (Nat.le_refl _) (fun _ _ _=>rfl) (fun b hb _=>hb.1) h6.toI,fun b e=>(h7 b e).1,h8⟩
def PutOk (Q:QD) (m d id a bb cc dd:Int):Prop:=putB Q m d id (a,bb,cc,dd)=true∧∃j,plcJ Q id j∧(putL Q m d id (a,bb,cc,dd) j).length≤2000
theorem ans_of_g {okn:Bool} {Q:QD} {m d id a bb cc dd:Int} (hok:okn=true↔PutOk Q m d id a bb cc dd) {W W2:World} {r:Ending} (h:PutG Q m d id a bb cc dd W r W2):∃u,r= .returned (.tuple #[u,.bool okn])∧AnsG okn Q m d id a bb cc dd u W.heap.size W2.heap.size W2∧Below W.heap.size W W2:=by
 obtain⟨hB,⟨h1,rfl⟩ | ⟨h1,j,hj,⟨h2,rfl⟩ | ⟨h2,v,u,I,rfl,h3,h4,h5,h6⟩⟩⟩:=h
 · have:okn=false:=Bool.eq_false_iff.2 (fun e=>by have:=(hok.1 e).1;rw[h1] at this;cases this);exact⟨_,by rw[this],.inl ⟨this,rfl⟩,hB⟩
 · have:okn=false:=Bool.eq_false_iff.2 (fun e=>by
    obtain⟨_,j',hj',h3⟩:=hok.1 e;rw[hj'.one hj] at h3
    omega)
   exact⟨_,by rw[this],.inl ⟨this,rfl⟩,hB⟩
 · have:okn=true:=hok.2 ⟨h1,j,hj,h2⟩;obtain⟨io,ic,rfl⟩:=ownQ_slice h3;obtain⟨A,bc,rfl,_⟩:=ownQ_form h4 (wrT_pos _ _ _ _);refine⟨_,by rw[this],.inr ⟨this,j,hj,h2,io,ic,A,bc,I,rfl,h3,h4,IsP.keep (fun _ _ _=>rfl) (fun b hb hl=>⟨⟨hb.1,hl⟩,hb.2.1,fun e=>hb.2.2 (by rw[e];rfl)⟩) h5,fun b e=>⟨(World.ownsRow.lt h3 b e).2,fun e2=>h6 b e (by rw[e2];rfl)⟩,(World.ownsRow.lt h4 A rfl).2⟩,hB⟩
theorem AnsS.form {okn:Bool} {Q:QD} {m d id a bb cc dd:Int} {u:Value} {lo hi:Nat} {W:World} (h:AnsS okn Q m d id a bb cc dd u lo hi W):∃m' d' io n ic bo N bc,u= .agg #[.int .i64 m',.int .i64 d',.slice io n ic,.slice bo N bc]:=by
 rcases h with ⟨_,h⟩ | ⟨h1,j,h2,h3,io,ic,A,bc,I,e,h4⟩
 · exact⟨_,_,_,_,_,_,_,_,h⟩
 · exact⟨_,_,_,_,_,_,_,_,e⟩
theorem turn_at (a b c d P Q:Int):turnSp a b c d P Q=(c-a)*(Q-b)-(d-b)*(P-a):=by
 unfold turnSp
 grind
theorem mul_le {p q r:Int} (hp:0≤p) (h:q≤r):p*q≤p*r:=Int.mul_le_mul_of_nonneg_left h hp
theorem mul_ge {p q r:Int} (hp:p≤0) (h:q≤r):p*r≤p*q:=Int.mul_le_mul_of_nonpos_left hp h
theorem ends_up {a b c d x y u v:Int} (hac:a≤c) (hbd:b≤d) (hxu:x≤u) (hyv:y≤v) (h:hitB a b c d x y u v=true):0≤turnSp a b c d x v∧turnSp a b c d u y≤0∧x≤c∧a≤u∧y≤d∧b≤v:=by
 unfold hitB at h;simp only[Bool.and_eq_true,Bool.not_eq_true',lefts4,rights4] at h;obtain⟨h1,h2,h3⟩:=h;unfold boxOut at h1;rw[decide_eq_false_iff_not] at h1;have e1:=mul_le (p:=c-a) (show 0≤c-a by omega) (show y-b≤v-b by omega);have e2:=mul_le (p:=d-b) (show 0≤d-b by omega) (show x-a≤u-a by omega);simp only[turn_at] at h2 h3⊢;refine⟨?_,?_,by omega,by omega,by omega,by omega⟩
 · rcases h2 with h2 | h2 | h2 | h2<;>omega
 · rcases h3 with h3 | h3 | h3 | h3<;>omega
theorem ends_down {a b c d x y u v:Int} (hac:a≤c) (hbd:d≤b) (hxu:x≤u) (hyv:y≤v) (h:hitB a b c d x y u v=true):0≤turnSp a b c d u v∧turnSp a b c d x y≤0∧x≤c∧a≤u∧y≤b∧d≤v:=by
 unfold hitB at h;simp only[Bool.and_eq_true,Bool.not_eq_true',lefts4,rights4] at h;obtain⟨h1,h2,h3⟩:=h;unfold boxOut at h1;rw[decide_eq_false_iff_not] at h1;have e1:=mul_le (p:=c-a) (show 0≤c-a by omega) (show y-b≤v-b by omega);have e2:=mul_ge (p:=d-b) (show d-b≤0 by omega) (show x-a≤u-a by omega);simp only[turn_at] at h2 h3⊢;refine⟨?_,?_,by omega,by omega,by omega,by omega⟩
 · rcases h2 with h2 | h2 | h2 | h2<;>omega
 · rcases h3 with h3 | h3 | h3 | h3<;>omega
theorem hit_up {a b c d x y u v:Int} (h1:0≤turnSp a b c d x v) (h2:turnSp a b c d u y≤0) (h3:x≤c) (h4:a≤u) (h5:y≤d) (h6:b≤v):hitB a b c d x y u v=true:=by
 unfold hitB;simp only[Bool.and_eq_true,Bool.not_eq_true',lefts4,rights4];refine⟨?_,?_,?_⟩
 · unfold boxOut;rw[decide_eq_false_iff_not]
   omega
 · exact .inr (.inr (.inl h1))
 · exact .inr (.inr (.inr h2))
theorem hit_down {a b c d x y u v:Int} (h1:0≤turnSp a b c d u v) (h2:turnSp a b c d x y≤0) (h3:x≤c) (h4:a≤u) (h5:y≤b) (h6:d≤v):hitB a b c d x y u v=true:=by
 unfold hitB;simp only[Bool.and_eq_true,Bool.not_eq_true',lefts4,rights4];refine⟨?_,?_,?_⟩
 · unfold boxOut;rw[decide_eq_false_iff_not]
   omega
 · exact .inr (.inl h1)
 · exact .inl h2
theorem hit_partX {a b c d x y u v X:Int} (hac:a≤c) (h1:x≤X) (h2:X≤u) (hyv:y≤v) (h:hitB a b c d x y u v=true):hitB a b c d x y X v=true∨hitB a b c d X y u v=true:=by
 rcases Int.le_total b d with hq | hq
 · obtain⟨t1,t2,k1,k2,k3,k4⟩:=ends_up hac hq (by omega) hyv h
   by_cases hl:turnSp a b c d X y≤0∧a≤X
   · exact .inl (hit_up t1 hl.1 k1 hl.2 k3 k4)
   · refine .inr ?_;have e1:=mul_le (p:=c-a) (show 0≤c-a by omega) (show y-b≤v-b by omega)
     by_cases ha:a≤X
     · have hT:¬turnSp a b c d X y≤0:=fun e=>hl ⟨e,ha⟩;refine hit_up ?_ t2 ?_ k2 k3 k4
       · simp only[turn_at] at hT⊢;omega
       · apply Classical.byContradiction
         intro hc;have e2:=mul_le (p:=c-a) (show 0≤c-a by omega) (show y-b≤d-b by omega);have e3:=mul_le (p:=d-b) (show 0≤d-b by omega) (show c-a≤X-a by omega);have e4:(c-a)*(d-b)=(d-b)*(c-a):=Int.mul_comm _ _;simp only[turn_at] at hT
         omega
     · refine hit_up ?_ t2 (by omega) k2 k3 k4;have e2:=mul_nn (p:=c-a) (q:=v-b) (by omega) (by omega);have e3:=mul_np (p:=d-b) (q:=X-a) (by omega) (by omega);simp only[turn_at]
       omega
 · obtain⟨t1,t2,k1,k2,k3,k4⟩:=ends_down hac hq (by omega) hyv h
   by_cases hl:0≤turnSp a b c d X v∧a≤X
   · exact .inl (hit_down hl.1 t2 k1 hl.2 k3 k4)
   · refine .inr ?_;have e1:=mul_le (p:=c-a) (show 0≤c-a by omega) (show y-b≤v-b by omega)
     by_cases ha:a≤X
     · have hT:¬0≤turnSp a b c d X v:=fun e=>hl ⟨e,ha⟩;refine hit_down t1 ?_ ?_ k2 k3 k4
       · simp only[turn_at] at hT⊢;omega
       · apply Classical.byContradiction
         intro hc;have e2:=mul_le (p:=c-a) (show 0≤c-a by omega) (show d-b≤v-b by omega);have e3:=mul_ge (p:=d-b) (show d-b≤0 by omega) (show c-a≤X-a by omega);have e4:(c-a)*(d-b)=(d-b)*(c-a):=Int.mul_comm _ _;simp only[turn_at] at hT
         omega
     · refine hit_down t1 ?_ (by omega) k2 k3 k4;have e2:=mul_np (p:=c-a) (q:=y-b) (by omega) (by omega);have e3:=mul_pp (p:=d-b) (q:=X-a) (by omega) (by omega);simp only[turn_at]
       omega
theorem hit_partY {a b c d x y u v Y:Int} (hac:a≤c) (hxu:x≤u) (h1:y≤Y) (h2:Y≤v) (h:hitB a b c d x y u v=true):hitB a b c d x y u Y=true∨hitB a b c d x Y u v=true:=by
 rcases Int.le_total b d with hq | hq
 · obtain⟨t1,t2,k1,k2,k3,k4⟩:=ends_up hac hq hxu (by omega) h
   by_cases hl:0≤turnSp a b c d x Y∧b≤Y
   · exact .inl (hit_up hl.1 t2 k1 k2 k3 hl.2)
   · refine .inr ?_;have e1:=mul_le (p:=d-b) (show 0≤d-b by omega) (show x-a≤u-a by omega)
     by_cases hb:b≤Y
     · have hT:¬0≤turnSp a b c d x Y:=fun e=>hl ⟨e,hb⟩;refine hit_up t1 ?_ k1 k2 ?_ k4
       · simp only[turn_at] at hT⊢;omega
       · apply Classical.byContradiction
         intro hc;have e2:=mul_le (p:=c-a) (show 0≤c-a by omega) (show d-b≤Y-b by omega);have e3:=mul_le (p:=d-b) (show 0≤d-b by omega) (show x-a≤c-a by omega);have e4:(c-a)*(d-b)=(d-b)*(c-a):=Int.mul_comm _ _;simp only[turn_at] at hT
         omega
     · refine hit_up t1 ?_ k1 k2 (by omega) k4;have e2:=mul_np (p:=c-a) (q:=Y-b) (by omega) (by omega);have e3:=mul_nn (p:=d-b) (q:=u-a) (by omega) (by omega);simp only[turn_at]
       omega
 · obtain⟨t1,t2,k1,k2,k3,k4⟩:=ends_down hac hq hxu (by omega) h
   by_cases hl:0≤turnSp a b c d u Y∧d≤Y
   · exact .inl (hit_down hl.1 t2 k1 k2 k3 hl.2)
   · refine .inr ?_;have e1:=mul_ge (p:=d-b) (show d-b≤0 by omega) (show x-a≤u-a by omega)
     by_cases hd:d≤Y
     · have hT:¬0≤turnSp a b c d u Y:=fun e=>hl ⟨e,hd⟩;refine hit_down t1 ?_ k1 k2 ?_ k4
       · simp only[turn_at] at hT⊢;omega
       · apply Classical.byContradiction
         intro hc;have e2:=mul_nn (p:=c-a) (q:=Y-b) (by omega) (by omega);have e3:=mul_pn (p:=d-b) (q:=u-a) (by omega) (by omega);simp only[turn_at] at hT
         omega
     · refine hit_down t1 ?_ k1 k2 (by omega) k4;have e2:=mul_le (p:=c-a) (show 0≤c-a by omega) (show Y-b≤d-b by omega);have e3:=mul_ge (p:=d-b) (show d-b≤0 by omega) (show x-a≤c-a by omega);have e4:(c-a)*(d-b)=(d-b)*(c-a):=Int.mul_comm _ _;simp only[turn_at]
       omega
theorem hit_some {Q:QD} {x y s:Int} {i:Nat} (hac:(Q.S i).1≤(Q.S i).2.2.1) (hs:0≤s) (he:s=2*(s / 2)) (h:hitQ Q x y s i=true):∃k,k<4∧hitQ Q (kX x (s / 2) k) (kY y (s / 2) k) (s / 2) i=true:=by
 obtain⟨f,hf⟩:∃f,s / 2=f:=⟨_,rfl⟩;rw[hf] at he⊢;unfold hitQ at h⊢;have h0:∀k,(kX x f k,kY y f k)=(x+((k%2:Nat):Int)*f,y+((k / 2:Nat):Int)*f):=fun _=>rfl
 rcases hit_partX (X:=x+f) hac (by omega) (by omega) (by omega) h with h | h<;>rcases hit_partY (Y:=y+f) hac (by omega) (by omega) (by omega) h with h | h
 · refine⟨0,by omega,?_⟩;unfold kX kY
   simpa using h
 · refine⟨2,by omega,?_⟩;unfold kX kY;rw[show y+s=y+f+f by omega] at h
   simpa using h
 · refine⟨1,by omega,?_⟩;unfold kX kY;rw[show x+s=x+f+f by omega] at h
   simpa using h
 · refine⟨3,by omega,?_⟩;unfold kX kY;rw[show x+s=x+f+f by omega,show y+s=y+f+f by omega] at h
   simpa using h
end Go.Proofs.YthelolpogdcmhaaGreat
