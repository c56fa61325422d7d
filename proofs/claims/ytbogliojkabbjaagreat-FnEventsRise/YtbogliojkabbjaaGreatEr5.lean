/- Part 5 of the walks that the proof leans on. -/
import Derived.Test.YtbogliojkabbjaaGreatEr2
import Derived.Test.YtbogliojkabbjaaGreatEr1
import Derived.Test.YtbogliojkabbjaaGreatEr4
import Derived.Deep.QuietTactic
import Derived.BigQuiet
set_option maxRecDepth 100000
set_option maxHeartbeats 16000000
namespace Go.Proofs.YtbogliojkabbjaaGreat
open Go.RowKit
theorem tw_cells {x0 x1 x2 x3 x4 x5 x6 x7:Int} {w W:World} (h:ArgsB w W [[.int .u64 x0,.int .u64 x1,.int .u64 x2,.int .u64 x3,.int .u64 x4,.int .u64 x5,.int .u64 x6,.int .u64 x7],[.int .u64 0,.int .u64 0,.int .u64 0,.int .u64 0],[.int .u64 x3,.int .u64 x2,.int .u64 x1,.int .u64 x0]]):(fun w' =>w'.cell? ⟨w.heap.size,0,none⟩=some (.int .u64 x0)∧w'.cell? ⟨w.heap.size,1,none⟩=some (.int .u64 x1)∧w'.cell? ⟨w.heap.size,2,none⟩=some (.int .u64 x2)∧w'.cell? ⟨w.heap.size,3,none⟩=some (.int .u64 x3)∧w'.cell? ⟨w.heap.size,4,none⟩=some (.int .u64 x4)∧w'.cell? ⟨w.heap.size,5,none⟩=some (.int .u64 x5)∧w'.cell? ⟨w.heap.size,6,none⟩=some (.int .u64 x6)∧w'.cell? ⟨w.heap.size,7,none⟩=some (.int .u64 x7)∧w'.cell? ⟨w.heap.size+1+1,0,none⟩=some (.int .u64 x3)∧w'.cell? ⟨w.heap.size+1+1,1,none⟩=some (.int .u64 x2)∧w'.cell? ⟨w.heap.size+1+1,2,none⟩=some (.int .u64 x1)∧w'.cell? ⟨w.heap.size+1+1,3,none⟩=some (.int .u64 x0)) W:=
 ⟨(h.b 0 rfl).c 0 rfl,(h.b 0 rfl).c 1 rfl,(h.b 0 rfl).c 2 rfl,(h.b 0 rfl).c 3 rfl,(h.b 0 rfl).c 4 rfl,(h.b 0 rfl).c 5 rfl,(h.b 0 rfl).c 6 rfl,(h.b 0 rfl).c 7 rfl,(h.b 2 rfl).c 0 rfl,(h.b 2 rfl).c 1 rfl,(h.b 2 rfl).c 2 rfl,(h.b 2 rfl).c 3 rfl⟩
theorem tw_start (x0 x1 x2 x3 x4 x5 x6 x7:Int) (w:World):ArgsB w (((w.alloc (.cells #[.int .u64 x0,.int .u64 x1,.int .u64 x2,.int .u64 x3,.int .u64 x4,.int .u64 x5,.int .u64 x6,.int .u64 x7] 88)).alloc (.cells #[.int .u64 0,.int .u64 0,.int .u64 0,.int .u64 0] 27)).alloc (.cells #[.int .u64 x3,.int .u64 x2,.int .u64 x1,.int .u64 x0] 27)) [[.int .u64 x0,.int .u64 x1,.int .u64 x2,.int .u64 x3,.int .u64 x4,.int .u64 x5,.int .u64 x6,.int .u64 x7],[.int .u64 0,.int .u64 0,.int .u64 0,.int .u64 0],[.int .u64 x3,.int .u64 x2,.int .u64 x1,.int .u64 x0]]:=by
 refine⟨(((Below.refl _ _).alloc (Nat.le_refl _) _).alloc (by simp) _).alloc (by simp;omega) _,fun j vs hj=>?_⟩
 match j,hj with
 | 0,hj=>cases hj;exact((Blk.new w [.int .u64 x0,.int .u64 x1,.int .u64 x2,.int .u64 x3,.int .u64 x4,.int .u64 x5,.int .u64 x6,.int .u64 x7] 88 rfl).alloc _).alloc _
 | 1,hj=>cases hj;exact(Blk.new (w.alloc (.cells #[.int .u64 x0,.int .u64 x1,.int .u64 x2,.int .u64 x3,.int .u64 x4,.int .u64 x5,.int .u64 x6,.int .u64 x7] 88)) [.int .u64 0,.int .u64 0,.int .u64 0,.int .u64 0] 27 (by simp)).alloc _
 | 2,hj=>cases hj;exact Blk.new ((w.alloc (.cells #[.int .u64 x0,.int .u64 x1,.int .u64 x2,.int .u64 x3,.int .u64 x4,.int .u64 x5,.int .u64 x6,.int .u64 x7] 88)).alloc (.cells #[.int .u64 0,.int .u64 0,.int .u64 0,.int .u64 0] 27)) [.int .u64 x3,.int .u64 x2,.int .u64 x1,.int .u64 x0] 27 (by simp)
 | j+3,hj=>simp at hj
theorem words8_of {x0 x1 x2 x3 x4 x5 x6 x7:Int} (h:Words [x0,x1,x2,x3,x4,x5,x6,x7]):Word x0∧Word x1∧Word x2∧Word x3∧Word x4∧Word x5∧Word x6∧Word x7:=⟨h _ (by simp),h _ (by simp),h _ (by simp),h _ (by simp),h _ (by simp),h _ (by simp),h _ (by simp),h _ (by simp)⟩
theorem sl_told {x0 x1 x2 x3 x4 x5 x6 x7:Int} (h:Words [x0,x1,x2,x3,x4,x5,x6,x7]) (he:x4=fillW x3∧x5=fillW x3∧x6=fillW x3∧x7=fillW x3):told (sl x0 x1 x2 x3 x4 x5 x6 x7)=true∧sw x3 x2 x1 x0=sl x0 x1 x2 x3 x4 x5 x6 x7:=by
 obtain⟨h0,h1,h2,h3,h4,h5,h6,h7⟩:=words8_of h;obtain⟨e4,e5,e6,e7⟩:=he;have hs:sw x3 x2 x1 x0=sl x0 x1 x2 x3 x4 x5 x6 x7:=by
  unfold sl sw uw fillW Word at *;simp only[val64]
  by_cases p:x3<9223372036854775808
  · rw[if_pos p] at e4 e5 e6 e7⊢;subst e4 e5 e6 e7;rw[if_pos (by decide)]
    omega
  · rw[if_neg p] at e4 e5 e6 e7⊢;subst e4 e5 e6 e7;rw[if_neg (by decide)]
    omega
 refine⟨?_,hs⟩;rw[←hs];unfold told
 apply decide_eq_true
 unfold sw uw Word at *
 by_cases p:x3<9223372036854775808
 · rw[if_pos p];omega
 · rw[if_neg p];omega
theorem sl_not {x0 x1 x2 x3 x4 x5 x6 x7:Int} (h:Words [x0,x1,x2,x3,x4,x5,x6,x7]) (he:¬(x4=fillW x3∧x5=fillW x3∧x6=fillW x3∧x7=fillW x3)):told (sl x0 x1 x2 x3 x4 x5 x6 x7)=false:=by
 obtain⟨h0,h1,h2,h3,h4,h5,h6,h7⟩:=words8_of h;unfold told
 apply decide_eq_false
 intro hh;unfold sl fillW Word at *;simp only[val64] at hh
 by_cases p:x3<9223372036854775808<;>by_cases q:x7<9223372036854775808
 · rw[if_pos p] at he;rw[if_pos q] at hh;omega
 · rw[if_pos p] at he;rw[if_neg q] at hh;omega
 · rw[if_neg p] at he;rw[if_pos q] at hh;omega
 · rw[if_neg p] at he;rw[if_neg q] at hh;omega
theorem eqLong (x0 x1 x2 x3 y4 y5 y6 y7 x4 x5 x6 x7:Int) (w:World):(Op.equalIn 10000 88 (L8 x0 x1 x2 x3 y4 y5 y6 y7) (L8 x0 x1 x2 x3 x4 x5 x6 x7)).run Tryz.prog w= .ok (y4==x4&&y5==x5&&y6==x6&&y7==x7) w:=by
 have u3:=Tryz.underlying25;have a3:=Tryz.isAgg25;have z3:=Tryz.sizeOf25;rw[show(10000:Nat)=9999+1 from rfl,Op.equalIn];simp only[Sem.run_bind,run_underlying Tryz.underlying88,Result.andThen_ok];simp only[Std.Legacy.Range.forIn_eq_forIn_range',Std.Legacy.Range.size,Nat.sub_zero,Nat.add_sub_cancel,Nat.div_one,List.range'_succ,List.range'_zero,List.forIn_cons,List.forIn_nil];go_simp
 by_cases h4:y4=x4<;>by_cases h5:y5=x5<;>by_cases h6:y6=x6<;>by_cases h7:y7=x7<;>simp[h4,h5,h6,h7]
theorem tellWide_any (x0 x1 x2 x3 x4 x5 x6 x7:Int) (wx:Words [x0,x1,x2,x3,x4,x5,x6,x7]) (w:World) :
 Calls Tryz.prog 108 #[L8 x0 x1 x2 x3 x4 x5 x6 x7] w (TellP (sl x0 x1 x2 x3 x4 x5 x6 x7) w):=by
 have T0:=tw_start x0 x1 x2 x3 x4 x5 x6 x7 w;have h3:=(words8_of wx).2.2.2.1;have EQ:∀W:World,(Op.equalIn 10000 88 (L8 x0 x1 x2 x3 (fillW x3) (fillW x3) (fillW x3) (fillW x3)) (L8 x0 x1 x2 x3 x4 x5 x6 x7)).run Tryz.prog W= .ok (fillW x3==x4&&fillW x3==x5&&fillW x3==x6&&fillW x3==x7) W:=eqLong _ _ _ _ _ _ _ _ _ _ _ _;obtain⟨B,hB0⟩:∃B,(fillW x3==x4&&fillW x3==x5&&fillW x3==x6&&fillW x3==x7)=B:=⟨_,rfl⟩;simp only[hB0] at EQ
 go_enter Tryz.func108,Tryz.ntmps108
 go_upto_region 2 with fail;generalize (((w.alloc (.cells #[.int .u64 x0,.int .u64 x1,.int .u64 x2,.int .u64 x3,.int .u64 x4,.int .u64 x5,.int .u64 x6,.int .u64 x7] 88)).alloc (.cells #[.int .u64 0,.int .u64 0,.int .u64 0,.int .u64 0] 27)).alloc (.cells #[.int .u64 x3,.int .u64 x2,.int .u64 x1,.int .u64 x0] 27))=W at *
 go_cut [17] (fun q wc=>q= .bool (!B)∧ArgsB w wc [[.int .u64 x0,.int .u64 x1,.int .u64 x2,.int .u64 x3,.int .u64 x4,.int .u64 x5,.int .u64 x6,.int .u64 x7],[.int .u64 0,.int .u64 0,.int .u64 0,.int .u64 0],[.int .u64 x3,.int .u64 x2,.int .u64 x1,.int .u64 x0]])
 case first=>
  go_region_held3 (fun w' =>w'.cell? ⟨w.heap.size,0,none⟩=some (.int .u64 x0)∧w'.cell? ⟨w.heap.size,1,none⟩=some (.int .u64 x1)∧w'.cell? ⟨w.heap.size,2,none⟩=some (.int .u64 x2)∧w'.cell? ⟨w.heap.size,3,none⟩=some (.int .u64 x3)∧w'.cell? ⟨w.heap.size,4,none⟩=some (.int .u64 x4)∧w'.cell? ⟨w.heap.size,5,none⟩=some (.int .u64 x5)∧w'.cell? ⟨w.heap.size,6,none⟩=some (.int .u64 x6)∧w'.cell? ⟨w.heap.size,7,none⟩=some (.int .u64 x7)∧w'.cell? ⟨w.heap.size+1+1,0,none⟩=some (.int .u64 x3)∧w'.cell? ⟨w.heap.size+1+1,1,none⟩=some (.int .u64 x2)∧w'.cell? ⟨w.heap.size+1+1,2,none⟩=some (.int .u64 x1)∧w'.cell? ⟨w.heap.size+1+1,3,none⟩=some (.int .u64 x0)) (first | (with_reducible exact tw_cells T0) | (with_reducible exact tw_cells T0.drew))
   ((go_at_call 75;refine(longOf_any x3 x2 x1 x0 h3 _).mono ?_;rintro e w1 ⟨rfl,hB⟩;(first | (have T1:=T0.step hB) | (have T1:=T0.drew.step hB));clear T0;have T0:=T1;clear T1;clear hB))
  all_goals go_wp2_with fail
  all_goals go_meet
  all_goals first | exact⟨rfl,T0⟩ | exact⟨rfl,T0.drew⟩
 case rest=>
  clear T0 EQ;obtain⟨hq,T0⟩:=hcut;subst hq;have HB:=T0.below;have p0:=(T0.b 1 rfl).c 0 rfl;have f0:=(T0.b 1 rfl).f 0 rfl;have q0:=(T0.b 2 rfl).c 0 rfl;have p1:=(T0.b 1 rfl).c 1 rfl;have f1:=(T0.b 1 rfl).f 1 rfl;have q1:=(T0.b 2 rfl).c 1 rfl;have p2:=(T0.b 1 rfl).c 2 rfl;have f2:=(T0.b 1 rfl).f 2 rfl;have q2:=(T0.b 2 rfl).c 2 rfl;have p3:=(T0.b 1 rfl).c 3 rfl;have f3:=(T0.b 1 rfl).f 3 rfl;have q3:=(T0.b 2 rfl).c 3 rfl;have l1:=(T0.b 1 rfl).lt;have l2:=(T0.b 2 rfl).lt;clear T0;cases B
  · have hn:¬(x4=fillW x3∧x5=fillW x3∧x6=fillW x3∧x7=fillW x3):=by
     rintro⟨e4,e5,e6,e7⟩;rw[←e4] at hB0
     simp[←e4,e5,e6,e7] at hB0
    have HT:=sl_not wx hn;clear hB0 hn;go_wp2;refine bodyPost_ret (v:= .tuple #[.agg #[.int .u64 0,.int .u64 0,.int .u64 0,.int .u64 0],.bool false]) (by simp[results,Tryz.results108,go_sem,p0,p1,p2,p3]) rfl ?_;refine⟨?_,Or.inr ⟨HT,rfl⟩⟩
    repeat' (refine Below.setCell ?_ (by simp) _)
    exact HB
  · have he:x4=fillW x3∧x5=fillW x3∧x6=fillW x3∧x7=fillW x3:=by
     simp at hB0
     obtain⟨⟨⟨e4,e5⟩,e6⟩,e7⟩:=hB0;exact⟨e4.symm,e5.symm,e6.symm,e7.symm⟩
    have HT:=sl_told wx he;obtain⟨w0,w1,w2,w3,-,-,-,-⟩:=words8_of wx;clear hB0 he;go_wp2;refine bodyPost_ret (v:= .tuple #[.agg #[.int .u64 x3,.int .u64 x2,.int .u64 x1,.int .u64 x0],.bool true]) (by simp[results,Tryz.results108,go_sem,p0,p1,p2,p3]) rfl ?_;refine⟨?_,Or.inl ⟨HT.1,x3,x2,x1,x0,rfl,w3,w2,w1,w0,HT.2⟩⟩
    repeat' (refine Below.setCell ?_ (by simp) _)
    exact HB
theorem uw_same {x3 x2 x1 x0 y3 y2 y1 y0:Int} (_h3:Word x3) (h2:Word x2) (h1:Word x1) (h0:Word x0) (_k3:Word y3) (k2:Word y2) (k1:Word y1) (k0:Word y0) (h:uw x3 x2 x1 x0=uw y3 y2 y1 y0):x3=y3∧x2=y2∧x1=y1∧x0=y0:=by
 unfold Word uw at *
 omega
theorem size_words (n:Int) (h0:0≤n) (h1:n<115792089237316195423570985008687907853269984665640564039457584007913129639936):∃x3 x2 x1 x0,Word x3∧Word x2∧Word x1∧Word x0∧uw x3 x2 x1 x0=n:=by
 refine⟨n / 18446744073709551616 / 18446744073709551616 / 18446744073709551616,n / 18446744073709551616 / 18446744073709551616%18446744073709551616,n / 18446744073709551616%18446744073709551616,n%18446744073709551616,?_⟩;unfold Word uw
 omega
theorem sw_size {a3 a2 a1 a0:Int} (h3:Word a3) (h2:Word a2) (h1:Word a1) (h0:Word a0):((sw a3 a2 a1 a0).natAbs:Int)≤57896044618658097711785492504343953926634992332820282019728792003956564819968:=by
 unfold Word sw uw at *
 split<;>omega
theorem sizeOf_det (a3 a2 a1 a0:Int) (h3:Word a3) (h2:Word a2) (h1:Word a1) (h0:Word a0) (x3 x2 x1 x0:Int) (g3:Word x3) (g2:Word x2) (g1:Word x1) (g0:Word x0) (hx:uw x3 x2 x1 x0=((sw a3 a2 a1 a0).natAbs:Int)) (w:World) :
 Calls Tryz.prog 88 #[.agg #[.int .u64 a3,.int .u64 a2,.int .u64 a1,.int .u64 a0]] w (WideP x0 x1 x2 x3 w):=by
 refine(sizeOf_any a3 a2 a1 a0 h3 h2 h1 h0 w).mono ?_;rintro e w1 ⟨y3,y2,y1,y0,rfl,k3,k2,k1,k0,hu,hB⟩;obtain⟨rfl,rfl,rfl,rfl⟩:=uw_same k3 k2 k1 k0 g3 g2 g1 g0 (hu.trans hx.symm);exact⟨rfl,hB⟩
theorem tm_cells {a3 a2 a1 a0 b3 b2 b1 b0:Int} {w W:World} (h:ArgsB w W [[.int .u64 a3,.int .u64 a2,.int .u64 a1,.int .u64 a0],[.int .u64 b3,.int .u64 b2,.int .u64 b1,.int .u64 b0],[.int .u64 0,.int .u64 0,.int .u64 0,.int .u64 0,.int .u64 0,.int .u64 0,.int .u64 0,.int .u64 0]]):(fun w' =>w'.cell? ⟨w.heap.size,0,none⟩=some (.int .u64 a3)∧w'.cell? ⟨w.heap.size,1,none⟩=some (.int .u64 a2)∧w'.cell? ⟨w.heap.size,2,none⟩=some (.int .u64 a1)∧w'.cell? ⟨w.heap.size,3,none⟩=some (.int .u64 a0)∧w'.cell? ⟨w.heap.size+1,0,none⟩=some (.int .u64 b3)∧w'.cell? ⟨w.heap.size+1,1,none⟩=some (.int .u64 b2)∧w'.cell? ⟨w.heap.size+1,2,none⟩=some (.int .u64 b1)∧w'.cell? ⟨w.heap.size+1,3,none⟩=some (.int .u64 b0)) W:=
 ⟨(h.b 0 rfl).c 0 rfl,(h.b 0 rfl).c 1 rfl,(h.b 0 rfl).c 2 rfl,(h.b 0 rfl).c 3 rfl,(h.b 1 rfl).c 0 rfl,(h.b 1 rfl).c 1 rfl,(h.b 1 rfl).c 2 rfl,(h.b 1 rfl).c 3 rfl⟩
theorem tm_args (a3 a2 a1 a0 b3 b2 b1 b0:Int) (w:World):ArgsB w (((w.alloc (.cells #[.int .u64 a3,.int .u64 a2,.int .u64 a1,.int .u64 a0] 27)).alloc (.cells #[.int .u64 b3,.int .u64 b2,.int .u64 b1,.int .u64 b0] 27)).alloc (.cells #[.int .u64 0,.int .u64 0,.int .u64 0,.int .u64 0,.int .u64 0,.int .u64 0,.int .u64 0,.int .u64 0] 88)) [[.int .u64 a3,.int .u64 a2,.int .u64 a1,.int .u64 a0],[.int .u64 b3,.int .u64 b2,.int .u64 b1,.int .u64 b0],[.int .u64 0,.int .u64 0,.int .u64 0,.int .u64 0,.int .u64 0,.int .u64 0,.int .u64 0,.int .u64 0]]:=by
 refine⟨(((Below.refl _ _).alloc (Nat.le_refl _) _).alloc (by simp) _).alloc (by simp;omega) _,fun j vs hj=>?_⟩
 match j,hj with
 | 0,hj=>cases hj;exact((Blk.new w [.int .u64 a3,.int .u64 a2,.int .u64 a1,.int .u64 a0] 27 rfl).alloc _).alloc _
 | 1,hj=>cases hj;exact(Blk.new (w.alloc (.cells #[.int .u64 a3,.int .u64 a2,.int .u64 a1,.int .u64 a0] 27)) [.int .u64 b3,.int .u64 b2,.int .u64 b1,.int .u64 b0] 27 (by simp)).alloc _
 | 2,hj=>cases hj;exact Blk.new ((w.alloc (.cells #[.int .u64 a3,.int .u64 a2,.int .u64 a1,.int .u64 a0] 27)).alloc (.cells #[.int .u64 b3,.int .u64 b2,.int .u64 b1,.int .u64 b0] 27)) [.int .u64 0,.int .u64 0,.int .u64 0,.int .u64 0,.int .u64 0,.int .u64 0,.int .u64 0,.int .u64 0] 88 (by simp)
 | j+3,hj=>simp at hj
theorem ArgsB.lt3 {w W:World} {a b c:List Value} (h:ArgsB w W [a,b,c]):w.heap.size+2<W.heap.size:=(h.b 2 rfl).lt
theorem ArgsB.set4 {w W:World} {a b c:List Value} (h:ArgsB w W [a,b,c]) {g:Nat} (hg:w.heap.size+2<g) (v0 v1 v2 v3:Value):ArgsB w ((((W.setCell ⟨g,0,none⟩ v0).setCell ⟨g,1,none⟩ v1).setCell ⟨g,2,none⟩ v2).setCell ⟨g,3,none⟩ v3) [a,b,c]:=
 (((h.set (by exact hg) _).set (by exact hg) _).set (by exact hg) _).set (by exact hg) _
theorem Blk.stored4 {W:World} {g:Nat} {z0 z1 z2 z3:Value} (G:Blk W g [z0,z1,z2,z3]) (v0 v1 v2 v3:Value):Blk ((((W.setCell ⟨g,0,none⟩ v0).setCell ⟨g,1,none⟩ v1).setCell ⟨g,2,none⟩ v2).setCell ⟨g,3,none⟩ v3) g [v0,v1,v2,v3]:=
 (((G.setI 0 (by simp) v0).setI 1 (by simp) v1).setI 2 (by simp) v2).setI 3 (by simp) v3
theorem Blk.new2 (W:World) (o:Obj) (vs:List Value) (T:TypeId):Blk ((W.alloc o).alloc (.cells vs.toArray T)) (W.heap.size+1) vs:=Blk.new _ _ _ (by simp)
def CutT (w wx:World) (vss:List (List Value)) (xs ys:List Value) (p q:Value):Prop:=
 ∃g g',p= .pointer (some ⟨g,0,none⟩)∧q= .pointer (some ⟨g',0,none⟩)∧g≠g' ∧w.heap.size+2<g∧w.heap.size+2<g' ∧ArgsB w wx vss∧Blk wx g xs∧Blk wx g' ys
theorem cutT_nn {w X:World} {a b c:List Value} {xs ys:List Value} {T T' :TypeId} (h:ArgsB w X [a,b,c]) (hl:w.heap.size+2<X.heap.size):CutT w ((X.alloc (.cells xs.toArray T)).alloc (.cells ys.toArray T')) [a,b,c] xs ys (.pointer (some ⟨X.heap.size,0,none⟩)) (.pointer (some ⟨X.heap.size+1,0,none⟩)):=
 ⟨_,_,rfl,rfl,by omega,hl,by omega,(h.alloc _).alloc _,(Blk.new _ _ _ rfl).alloc _,Blk.new2 _ _ _ _⟩
theorem cutT_nn' {w X:World} {a b c:List Value} {xs ys:List Value} {T T' :TypeId} (h:ArgsB w X [a,b,c]) (hl:w.heap.size+2<X.heap.size):CutT w ((X.alloc (.cells ys.toArray T)).alloc (.cells xs.toArray T')) [a,b,c] xs ys (.pointer (some ⟨X.heap.size+1,0,none⟩)) (.pointer (some ⟨X.heap.size,0,none⟩)):=
 ⟨_,_,rfl,rfl,by omega,by omega,hl,(h.alloc _).alloc _,Blk.new2 _ _ _ _,(Blk.new _ _ _ rfl).alloc _⟩
theorem cutT_sn {w X:World} {a b c:List Value} {v0 v1 v2 v3 z0 z1 z2 z3:Value} {ys:List Value} {T:TypeId} {g:Nat} (h:ArgsB w X [a,b,c]) (G:Blk X g [z0,z1,z2,z3]) (hg:w.heap.size+2<g) (hl:w.heap.size+2<X.heap.size):CutT w (((((X.setCell ⟨g,0,none⟩ v0).setCell ⟨g,1,none⟩ v1).setCell ⟨g,2,none⟩ v2).setCell ⟨g,3,none⟩ v3).alloc (.cells ys.toArray T)) [a,b,c] [v0,v1,v2,v3] ys (.pointer (some ⟨g,0,none⟩)) (.pointer (some ⟨X.heap.size,0,none⟩)):=
 ⟨_,_,rfl,rfl,by have:=G.lt;omega,hg,hl,(h.set4 hg _ _ _ _).alloc _,(G.stored4 _ _ _ _).alloc _,Blk.new _ _ _ (by simp)⟩
theorem cutT_sn' {w X:World} {a b c:List Value} {v0 v1 v2 v3 z0 z1 z2 z3:Value} {xs:List Value} {T:TypeId} {g:Nat} (h:ArgsB w X [a,b,c]) (G:Blk X g [z0,z1,z2,z3]) (hg:w.heap.size+2<g) (hl:w.heap.size+2<X.heap.size):CutT w (((((X.setCell ⟨g,0,none⟩ v0).setCell ⟨g,1,none⟩ v1).setCell ⟨g,2,none⟩ v2).setCell ⟨g,3,none⟩ v3).alloc (.cells xs.toArray T)) [a,b,c] xs [v0,v1,v2,v3] (.pointer (some ⟨X.heap.size,0,none⟩)) (.pointer (some ⟨g,0,none⟩)):=
 ⟨_,_,rfl,rfl,by have:=G.lt;omega,hl,hg,(h.set4 hg _ _ _ _).alloc _,Blk.new _ _ _ (by simp),(G.stored4 _ _ _ _).alloc _⟩
theorem cutT_ss {w X:World} {a b c:List Value} {v0 v1 v2 v3 u0 u1 u2 u3 z0 z1 z2 z3 y0 y1 y2 y3:Value} {g g' :Nat} (h:ArgsB w X [a,b,c]) (G:Blk X g [z0,z1,z2,z3]) (G' :Blk X g' [y0,y1,y2,y3]) (hg:w.heap.size+2<g) (hg' :w.heap.size+2<g') (hne:g≠g') :
 CutT w ((((((((X.setCell ⟨g,0,none⟩ v0).setCell ⟨g,1,none⟩ v1).setCell ⟨g,2,none⟩ v2).setCell ⟨g,3,none⟩ v3).setCell ⟨g',0,none⟩ u0).setCell ⟨g',1,none⟩ u1).setCell ⟨g',2,none⟩ u2).setCell ⟨g',3,none⟩ u3) [a,b,c] [v0,v1,v2,v3] [u0,u1,u2,u3] (.pointer (some ⟨g,0,none⟩)) (.pointer (some ⟨g',0,none⟩)):=
 ⟨_,_,rfl,rfl,hne,hg,hg',(h.set4 hg _ _ _ _).set4 hg' _ _ _ _,(G.stored4 _ _ _ _).set4 hne,(G'.set4 (fun e=>hne e.symm)).stored4 _ _ _ _⟩
structure ApI (qs xs ys zs:List Int) (i:Nat):Prop where
 len:zs.length=qs.length
 wds:Words zs
 eq:val64 zs=val64 qs+val64 (xs.take i)*val64 ys
structure ApJ (qs xs ys zs:List Int) (i k:Nat) (x o:Int):Prop where
 len:zs.length=qs.length
 wds:Words zs
 eq:val64 zs+o*pw64 (i+k)=val64 qs+val64 (xs.take i)*val64 ys+x*(pw64 i*val64 (ys.take k))
structure ApC (qs xs ys zs:List Int) (i p:Nat) (o:Int):Prop where
 len:zs.length=qs.length
 wds:Words zs
 eq:val64 zs+o*pw64 p=val64 qs+val64 (xs.take i)*val64 ys
theorem ap_start {qs:List Int} (xs ys:List Int) (hq:Words qs):ApI qs xs ys qs 0:=⟨rfl,hq,by simp[val64]⟩
theorem ap_in {qs xs ys zs:List Int} {i:Nat} (h:ApI qs xs ys zs i) (x:Int):ApJ qs xs ys zs i 0 x 0:=⟨h.len,h.wds,by simp[val64,h.eq]⟩
theorem ap_step {qs xs ys zs:List Int} {i k:Nat} {x o:Int} (h:ApJ qs xs ys zs i k x o) (hk:k<ys.length) (hj:i+k<zs.length) (T:Int) (hT:T=x*ys[k]+zs[i+k]+o) (hw:Word (T%18446744073709551616)) :
 ApJ qs xs ys (zs.set (i+k) (T%18446744073709551616)) i (k+1) x (T / 18446744073709551616):=by
 refine⟨by simpa using h.len,words_set h.wds _ hw,?_⟩;rw[val64_set zs _ hj,show i+(k+1)=(i+k)+1 by omega,pw64,val64_take ys k hk];have e:=h.eq;have e2:T=T%18446744073709551616+18446744073709551616*(T / 18446744073709551616):=by omega
 have e3:=pw64_add i k;generalize T / 18446744073709551616=q at *;generalize T%18446744073709551616=r at *;generalize zs[i+k]=zk at *;generalize ys[k]=yk at *;generalize pw64 (i+k)=p at *;subst e2
 grind
theorem ap_out {qs xs ys zs:List Int} {i:Nat} {o:Int} (hi:i<xs.length) (h:ApJ qs xs ys zs i ys.length xs[i] o):ApC qs xs ys zs (i+1) (i+ys.length) o:=by
 refine⟨h.len,h.wds,?_⟩;have e:=h.eq;rw[show ys.take ys.length=ys from List.take_of_length_le (by omega)] at e;rw[e,val64_take xs i hi]
 grind
theorem apc_step {qs xs ys zs:List Int} {i p:Nat} {o:Int} (h:ApC qs xs ys zs i p o) (hp:p<zs.length) (ho:Word o) (u c:Int) (hu:u=(zs[p]+o)%18446744073709551616) (hc:c=(zs[p]+o) / 18446744073709551616) :
 ApC qs xs ys (zs.set p u) i (p+1) c∧Word u∧Word c:=by
 have hz:=words_at h.wds p hp;have e1:u+18446744073709551616*c=zs[p]+o:=by omega
 have hw:Word u:=by unfold Word;omega
 refine⟨⟨by simpa using h.len,words_set h.wds _ hw,?_⟩,hw,by unfold Word at *;omega⟩;rw[val64_set zs _ hp,pw64,←h.eq];generalize zs[p]=zp at *;obtain rfl:zp=u+18446744073709551616*c-o:=by omega
 grind
theorem val64_take_le {xs:List Int} (h:Words xs) (i:Nat):val64 (xs.take i)≤val64 xs:=by
 rcases Nat.lt_or_ge xs.length i with hi | hi
 rotate_left
 · rw[val64_part xs i hi];have h1:=val64_nonneg (words_drop h i);have h2:=pq_pos i;have:=Int.mul_nonneg (Int.le_of_lt h2) h1
   omega
 · rw[List.take_of_length_le (by omega)];exact Int.le_refl _
theorem apc_room {qs xs ys zs:List Int} {i p:Nat} {o:Int} (h:ApC qs xs ys zs i p o) (hx:Words xs) (hy:Words ys) (hb:val64 qs+val64 xs*val64 ys<pw64 qs.length) (ho:Word o) (h0:o≠0):p<zs.length:=by
 rcases Nat.lt_or_ge p zs.length with hp | hp
 · exact hp
 exfalso
 have h1:=val64_take_le hx i;have h2:=Int.mul_le_mul_of_nonneg_right h1 (val64_nonneg hy);have h3:=val64_nonneg h.wds;have h4:=pw64_mono hp;have h5:=pq_pos p;have h6:1*pw64 p≤o*pw64 p:=Int.mul_le_mul_of_nonneg_right (by unfold Word at ho;omega) (Int.le_of_lt h5);have e:=h.eq;rw[h.len] at h4
 omega
theorem apc_done {qs xs ys zs:List Int} {i p:Nat} (h:ApC qs xs ys zs i p 0):ApI qs xs ys zs i:=⟨h.len,h.wds,by have:=h.eq;omega⟩
theorem ap_end {qs xs ys zs:List Int} (h:ApI qs xs ys zs xs.length):val64 zs=val64 qs+val64 xs*val64 ys:=by
 have:=h.eq;rwa [List.take_of_length_le (Nat.le_refl _)] at this
def AddPP (gp L:Nat) (qs xs ys:List Int) (w:World) (e:Ending) (w' :World):Prop:=
 ∃zs:List Int,e= .returned (.tuple #[])∧zs.length=L∧Words zs∧val64 zs=val64 qs+val64 xs*val64 ys∧Blk w' gp (zs.map (Value.int .u64))∧Wrote gp 0 L w w'
theorem mul64n (x y hi lo:Int) (hx:Word x) (hy:Word y) (h1:x*y / 18446744073709551616=hi) (h2:x*y%18446744073709551616=lo) (w:World):Calls Tryz.prog 113 #[.int .u64 x,.int .u64 y] w (fun e w' =>e= .returned (.tuple #[.int .u64 hi,.int .u64 lo])∧w' =w):=by
 refine(mul64 x y hx hy w).mono ?_;rintro e w' ⟨rfl,rfl⟩;rw[h1,h2];exact⟨rfl,rfl⟩
theorem add64n (x y s c:Int) (hx:Word x) (hy:Word y) (h1:(x+y)%18446744073709551616=s) (h2:(x+y) / 18446744073709551616=c) (w:World):(callFunc 114 #[.int .u64 x,.int .u64 y,.int .u64 0]).run Tryz.prog w= .ok (.value (.tuple #[.int .u64 s,.int .u64 c])) w:=by
 rw[add64 x y 0 hx hy (by decide) (by decide) w,Int.add_zero,h1,h2]
structure ApW (w wr:World) (gp L g g' :Nat) (xs ys zs:List Int):Prop where
 wrote:Wrote gp 0 L w wr
 z:Blk wr gp (zs.map (Value.int .u64))
 x:∀i,(h:i<xs.length)→wr.cell? ⟨g,i,none⟩=some (.int .u64 xs[i])
 y:∀i,(h:i<ys.length)→wr.cell? ⟨g',i,none⟩=some (.int .u64 ys[i])
theorem ApW.set {w wr:World} {gp L g g' :Nat} {xs ys zs:List Int} (h:ApW w wr gp L g g' xs ys zs) (ng:g≠gp) (ng' :g' ≠gp) (j:Nat) (hj:j<zs.length) (hl:j<L) (u:Int):ApW w (wr.setCell ⟨gp,j,none⟩ (.int .u64 u)) gp L g g' xs ys (zs.set j u):=by
 refine⟨h.wrote.set j ⟨by omega,by omega⟩ _,?_,fun i hi=>?_,fun i hi=>?_⟩
 · have:=h.z.setI j (by simpa using hj) (.int .u64 u);rwa [←List.map_set] at this
 · rw[World.cell?_setCell_other _ _ _ _ (by intro e;simp only[Addr.mk.injEq] at e;exact ng e.1.symm)];exact h.x i hi
 · rw[World.cell?_setCell_other _ _ _ _ (by intro e;simp only[Addr.mk.injEq] at e;exact ng' e.1.symm)];exact h.y i hi
theorem ApW.cz {w wr:World} {gp L g g' :Nat} {xs ys zs:List Int} (h:ApW w wr gp L g g' xs ys zs) (j:Nat) (hj:j<zs.length):wr.cell? ⟨gp,j,none⟩=some (.int .u64 zs[j])∧wr.frozen? ⟨gp,j,none⟩=false:=⟨h.z.c j (by simp[hj]),h.z.f j (v:= .int .u64 zs[j]) (by simp[hj])⟩
theorem addProduct_any (gp g g' L cL m cm n cn:Nat) (qs xs ys:List Int) (hq:qs.length=L) (hm:xs.length=m) (hn:ys.length=n) (wq:Words qs) (wx:Words xs) (wy:Words ys) (hb:val64 qs+val64 xs*val64 ys<pw64 L) (hmn:m+n≤L) (hL:L≤1000) (ng:g≠gp) (ng' :g' ≠gp) (w:World) (BQ:Blk w gp (qs.map (Value.int .u64))) (RX:Row w g 0 xs) (RY:Row w g' 0 ys) :
 Calls Tryz.prog 109 #[.slice (some ⟨gp,0,none⟩) L cL,.slice (some ⟨g,0,none⟩) m cm,.slice (some ⟨g',0,none⟩) n cn] w (AddPP gp L qs xs ys w):=by
 have HS:ApW w w gp L g g' xs ys qs:=⟨Wrote.refl _ _ _ _,BQ,fun i h=>by have:=RX.cell i h;rwa [Nat.zero_add] at this,fun i h=>by have:=RY.cell i h;rwa [Nat.zero_add] at this⟩;have HI:ApI qs xs ys qs 0:=ap_start xs ys wq;have HBD:Hid (val64 qs+val64 xs*val64 ys<pw64 qs.length):=by show _<_;rw[hq];exact hb
 have HX:Hid (Words xs):=wx;have HY:Hid (Words ys):=wy;have HQ:Hid (qs.length=L):=hq;have HM:Hid (xs.length=m):=hm;have HN:Hid (ys.length=n):=hn;clear BQ RX RY wq wx wy hb hq hm hn
 go_enter Tryz.func109,Tryz.ntmps109
 go_wp2_with fail
 go_loopw [17] (fun i wr=>∃(c:Nat) (zs:List Int),c≤m∧i= .int .i64 c∧ApI qs xs ys zs c∧ApW w wr gp L g g' xs ys zs) (fun i _=>m-(intOf i).toNat)
 case atStart=>exact⟨0,_,by omega,rfl,HI,HS⟩
 case round=>
  clear HI HS;obtain⟨c,zs,hc,rfl,hI,hT⟩:=hrel
  by_cases hc4:c<m
  · have hcx:c<xs.length:=by have:=HM.out;omega
    have HJ:=ap_in hI xs[c];have HWX:=words_at HX.out c hcx;have hcI:(c:Int)<m:=by omega
    have q1:=hT.x c hcx;clear hI;go_wp2;clear q1
    go_loopw [8,24] (fun o k wr=>∃(j:Nat) (ov:Int) (zs:List Int),j≤n∧k= .int .i64 j∧Word ov∧o= .int .u64 ov∧ApJ qs xs ys zs c j xs[c] ov∧ApW w wr gp L g g' xs ys zs) (fun _ k _=>n-(intOf k).toNat)
    case atStart=>exact⟨0,0,_,by omega,rfl,⟨by decide,by decide⟩,rfl,HJ,hT⟩
    case round=>
     clear HJ hT;obtain⟨j,ov,zs',hj,rfl,ho,rfl,hJ,hT⟩:=hrel;have hlen:=hJ.len.trans HQ.out
     by_cases hj4:j<n
     · have hjy:j<ys.length:=by have:=HN.out;omega
       have hij:c+j<zs'.length:=by omega
       have hijL:c+j<L:=by omega
       have q2:=hT.y j hjy;obtain⟨q3,q4⟩:=hT.cz (c+j) hij;have HWY:=words_at HY.out j hjy;have HWZ:=words_at hJ.wds (c+j) hij;obtain⟨P0,P1⟩:=word_mul HWX HWY;obtain⟨hi,ehi⟩:∃v,xs[c]*ys[j] / 18446744073709551616=v:=⟨_,rfl⟩;obtain⟨lo,elo⟩:∃v,xs[c]*ys[j]%18446744073709551616=v:=⟨_,rfl⟩;obtain⟨t1,t2,t3,t4,t5,t6,t7,t8⟩:=tm_arith P0 P1 HWZ ho;rw[ehi] at t1 t4 t6;rw[elo] at t2 t3 t4 t5 t6;have M1:=mul64n xs[c] ys[j] hi lo HWX HWY ehi elo;obtain⟨l1,el1⟩:∃v,(lo+zs'[c+j])%18446744073709551616=v:=⟨_,rfl⟩;obtain⟨c1,ec1⟩:∃v,(lo+zs'[c+j]) / 18446744073709551616=v:=⟨_,rfl⟩;have A1:=add64n lo zs'[c+j] l1 c1 t2 HWZ el1 ec1;rw[el1] at t3 t5 t6;rw[ec1] at t4 t6;obtain⟨n1,en1⟩:∃v,(l1+ov)%18446744073709551616=v:=⟨_,rfl⟩;obtain⟨c2,ec2⟩:∃v,(l1+ov) / 18446744073709551616=v:=⟨_,rfl⟩;have A2:=add64n l1 ov n1 c2 t3 ho en1 ec2;rw[en1] at t5;rw[ec2] at t6;have R1:=ap_step hJ hjy hij (xs[c]*ys[j]+zs'[c+j]+ov) rfl t8;have R2:=hT.set ng ng' (c+j) hij hijL n1;rw[←t5,←t6] at R1;rw[←t6] at t7;have d1:0≤hi:=t1.1;have d2:0≤c1:=by rw[←ec1];have:=t2.1;have:=HWZ.1;omega
       have d3:0≤c2:=by rw[←ec2];have:=t3.1;have:=ho.1;omega
       obtain⟨d4,d5⟩:0≤hi+c1+c2∧hi+c1+c2<18446744073709551616:=t7;clear hJ hT hlen t1 t2 t3 t5 t6 t8 P0 P1 ehi elo el1 ec1 en1 ec2 HWY HWZ;have hjI:(j:Int)<n:=by omega
       have hcj:(c:Int)+j<L:=by omega
       go_wp2_with fail;refine(M1 _).mono ?_;rintro e w1 ⟨rfl,rfl⟩;clear M1;go_wp2;go_roundw
       case rel=>exact⟨j+1,_,_,by omega,by go_num,⟨d4,d5⟩,rfl,R1,R2⟩
       case measure=>simp[intOf];omega
     · obtain rfl:j=n:=by omega
       have HC:ApC qs xs ys zs' (c+1) (c+j) ov:=by
        have:=ap_out hcx (by rw[HN.out];exact hJ);rwa [HN.out] at this
       clear hJ hlen;go_wp2
       go_loopw [8,14] (fun o a wr=>∃(p:Nat) (ov:Int) (zs:List Int),p≤L∧a= .int .i64 p∧Word ov∧o= .int .u64 ov∧ApC qs xs ys zs (c+1) p ov∧ApW w wr gp L g g' xs ys zs) (fun _ a _=>L-(intOf a).toNat)
       case atStart=>exact⟨c+j,ov,_,by omega,by go_num,ho,rfl,HC,hT⟩
       case round=>
        clear HC hT ho;obtain⟨p,ov,zs',hp,rfl,ho,rfl,hC,hT⟩:=hrel;have hlen:=hC.len.trans HQ.out
        by_cases h0:ov=0
        · subst h0;have hI:=apc_done hC;clear hC;go_wp2;go_roundw
          case rel=>exact⟨c+1,_,by omega,by go_num,hI,hT⟩
          case measure=>simp[intOf];omega
        · have hpz:=apc_room hC HX.out HY.out HBD.out ho h0;have hpL:p<L:=by omega
          obtain⟨q3,q4⟩:=hT.cz p hpz;have HWZ:=words_at hC.wds p hpz;obtain⟨u,eu⟩:∃v,(zs'[p]+ov)%18446744073709551616=v:=⟨_,rfl⟩;obtain⟨c1,ec1⟩:∃v,(zs'[p]+ov) / 18446744073709551616=v:=⟨_,rfl⟩;have A1:=add64n zs'[p] ov u c1 HWZ ho eu ec1;obtain⟨R1,hu,hc1⟩:=apc_step hC hpz ho u c1 eu.symm ec1.symm;have R2:=hT.set ng ng' p hpz hpL u;have hpI:(p:Int)<L:=by omega
          have hov:(ov==0)=false:=by simpa using h0
          clear hC hT hlen eu ec1 HWZ;go_wp2;go_roundw
          case rel=>exact⟨p+1,_,_,by omega,by go_num,hc1,rfl,R1,R2⟩
          case measure=>simp[intOf];omega
  · obtain rfl:c=m:=by omega
    have hl:=hI.len.trans HQ.out;have hv:val64 zs=val64 qs+val64 xs*val64 ys:=ap_end (by rw[HM.out];exact hI);have wz:=hI.wds;have hz:=hT.z;have hw:=hT.wrote;clear hI hT;go_wp2
    go_end0
    exact⟨zs,rfl,hl,wz,hv,hz,hw⟩
def TimesP (z:Int) (w:World) (e:Ending) (w' :World):Prop:=
 ∃z0 z1 z2 z3 z4 z5 z6 z7,e= .returned (L8 z0 z1 z2 z3 z4 z5 z6 z7)∧Words [z0,z1,z2,z3,z4,z5,z6,z7]∧sl z0 z1 z2 z3 z4 z5 z6 z7=z∧Below w.heap.size w w'
theorem arr4:Tryz.prog.arrayLen 124=4:=by kernel_rfl
theorem und4:Tryz.prog.underlying 124=some (.array (Tryz.prog.arrayLen 124) (Tryz.prog.elem 124)):=by kernel_rfl
theorem siz4 (w:World):(sizeOf (Tryz.prog.elem 124)).run Tryz.prog w= .ok 1 w:=by kernel_rfl
theorem slice4_h (g n:Nat) (hn:n≤4) (w:World):(Instr.sliceAt 124 (.pointer (some ⟨g,0,none⟩)) none (some (.int .i64 n)) none).run Tryz.prog w= .ok (.slice (some ⟨g,0,none⟩) n 4) w:=by
 rw[run_sliceAt_array_h w _ _ und4 _ _ (by omega) (by rw[arr4];omega),siz4,arr4]
 simp[Result.andThen,slicedAt,Addr.add]
theorem row_of_blk {W:World} {g:Nat} {xs:List Int} (h:Blk W g (xs.map (Value.int .u64))):Row W g 0 xs:=
 ⟨fun i hi=>by rw[Nat.zero_add];exact h.c i (by simp[hi]),fun i hi=>by rw[Nat.zero_add];exact h.f i (v:= .int .u64 xs[i]) (by simp[hi]),h.lt⟩
structure Tm3 (w wr:World) (vss:List (List Value)) (g g' gp:Nat) (xs ys zs:List Int):Prop where
 args:ArgsB w wr vss
 x:Blk wr g (xs.map (Value.int .u64))
 y:Blk wr g' (ys.map (Value.int .u64))
 p:Blk wr gp (zs.map (Value.int .u64))
theorem Tm3.step {w wr wr' :World} {vss:List (List Value)} {g g' gp:Nat} {xs ys zs:List Int} (h:Tm3 w wr vss g g' gp xs ys zs) (hB:Below wr.heap.size wr wr'):Tm3 w wr' vss g g' gp xs ys zs:=⟨h.args.step hB,h.x.step hB,h.y.step hB,h.p.step hB⟩
theorem Tm3.drew1 {w wr:World} {vss:List (List Value)} {g g' gp:Nat} {xs ys zs:List Int} (h:Tm3 w wr vss g g' gp xs ys zs):Tm3 w wr.drew vss g g' gp xs ys zs:=⟨h.args.drew,h.x.drew,h.y.drew,h.p.drew⟩
theorem Blk.wrote {W W' :World} {A off n g:Nat} {vs:List Value} (h:Blk W g vs) (hw:Wrote A off n W W') (hg:g≠A):Blk W' g vs:=
 ⟨by rw[hw.size];exact h.1,fun i v hi=>⟨(hw.cellOther hg i).trans (h.2 i v hi).1,(hw.frzOther hg i).trans (h.2 i v hi).2⟩⟩
theorem Tm3.wrote {w W W' :World} {vss:List (List Value)} {g g' gp:Nat} {xs ys zs zs' :List Int} (h:Tm3 w W vss g g' gp xs ys zs) (hw:Wrote gp 0 8 W W') (hz:Blk W' gp (zs'.map (Value.int .u64))) (ng:g≠gp) (ng' :g' ≠gp) (hg:w.heap.size+vss.length≤gp):Tm3 w W' vss g g' gp xs ys zs' :=
 ⟨⟨h.args.1.trans ((hw.below (Nat.le_of_add_right_le hg))),fun j vs hj=>(h.args.2 j vs hj).wrote hw (by have:=(List.getElem?_eq_some_iff.1 hj).1;omega)⟩,h.x.wrote hw ng,h.y.wrote hw ng',hz⟩
theorem tm_take {xs:List Int} {m:Nat} (h:xs.length=4) (hm:m≤4):(xs.take m).length=m:=by rw[List.length_take];omega
theorem w80:Words [0,0,0,0,0,0,0,0]:=by
 intro d hd
 simp at hd
 subst hd;exact⟨by decide,by decide⟩
theorem row_take {W:World} {A off n:Nat} {xs:List Int} (h:Row W A off xs):Row W A off (xs.take n):=
 ⟨fun i hi=>by rw[List.getElem_take];exact h.cell i (by simp at hi;omega),fun i hi=>h.frz i (by simp at hi;omega),h.lt⟩
theorem tm_total {xs ys xt yt:List Int} {A B:Int} (h1:val64 xt=val64 xs) (h2:val64 yt=val64 ys) (h3:val64 xs=A) (h4:val64 ys=B):val64 [0,0,0,0,0,0,0,0]+val64 xt*val64 yt=A*B:=by
 rw[h1,h2,h3,h4]
 simp[val64]
theorem tm_bound {xs ys xt yt:List Int} {A B:Int} (h1:val64 xt=val64 xs) (h2:val64 yt=val64 ys) (h3:val64 xs=A) (h4:val64 ys=B) (h:A*B<pw64 8):val64 [0,0,0,0,0,0,0,0]+val64 xt*val64 yt<pw64 8:=by
 rw[tm_total h1 h2 h3 h4];exact h
theorem tm3_cells {a3 a2 a1 a0 b3 b2 b1 b0 z0 z1 z2 z3 z4 z5 z6 z7:Int} {w W:World} {g g' gp:Nat} {xs ys:List Int} (h:Tm3 w W [[.int .u64 a3,.int .u64 a2,.int .u64 a1,.int .u64 a0],[.int .u64 b3,.int .u64 b2,.int .u64 b1,.int .u64 b0],[.int .u64 0,.int .u64 0,.int .u64 0,.int .u64 0,.int .u64 0,.int .u64 0,.int .u64 0,.int .u64 0]] g g' gp xs ys [z0,z1,z2,z3,z4,z5,z6,z7]):(fun w' =>w'.cell? ⟨gp,0,none⟩=some (.int .u64 z0)∧w'.cell? ⟨gp,1,none⟩=some (.int .u64 z1)∧w'.cell? ⟨gp,2,none⟩=some (.int .u64 z2)∧w'.cell? ⟨gp,3,none⟩=some (.int .u64 z3)∧w'.cell? ⟨gp,4,none⟩=some (.int .u64 z4)∧w'.cell? ⟨gp,5,none⟩=some (.int .u64 z5)∧w'.cell? ⟨gp,6,none⟩=some (.int .u64 z6)∧w'.cell? ⟨gp,7,none⟩=some (.int .u64 z7)∧w'.cell? ⟨w.heap.size,0,none⟩=some (.int .u64 a3)∧w'.cell? ⟨w.heap.size,1,none⟩=some (.int .u64 a2)∧w'.cell? ⟨w.heap.size,2,none⟩=some (.int .u64 a1)∧w'.cell? ⟨w.heap.size,3,none⟩=some (.int .u64 a0)∧w'.cell? ⟨w.heap.size+1,0,none⟩=some (.int .u64 b3)∧w'.cell? ⟨w.heap.size+1,1,none⟩=some (.int .u64 b2)∧w'.cell? ⟨w.heap.size+1,2,none⟩=some (.int .u64 b1)∧w'.cell? ⟨w.heap.size+1,3,none⟩=some (.int .u64 b0)) W:=
 ⟨h.p.c 0 rfl,h.p.c 1 rfl,h.p.c 2 rfl,h.p.c 3 rfl,h.p.c 4 rfl,h.p.c 5 rfl,h.p.c 6 rfl,h.p.c 7 rfl,(h.args.b 0 rfl).c 0 rfl,(h.args.b 0 rfl).c 1 rfl,(h.args.b 0 rfl).c 2 rfl,(h.args.b 0 rfl).c 3 rfl,(h.args.b 1 rfl).c 0 rfl,(h.args.b 1 rfl).c 1 rfl,(h.args.b 1 rfl).c 2 rfl,(h.args.b 1 rfl).c 3 rfl⟩
theorem tm3_cells8 {a3 a2 a1 a0 b3 b2 b1 b0 z0 z1 z2 z3 z4 z5 z6 z7:Int} {w W:World} {g g' gp:Nat} {xs ys:List Int} {v0 v1 v2 v3 v4 v5 v6 v7:Value} (h:Tm3 w W [[.int .u64 a3,.int .u64 a2,.int .u64 a1,.int .u64 a0],[.int .u64 b3,.int .u64 b2,.int .u64 b1,.int .u64 b0],[.int .u64 0,.int .u64 0,.int .u64 0,.int .u64 0,.int .u64 0,.int .u64 0,.int .u64 0,.int .u64 0]] g g' gp xs ys [z0,z1,z2,z3,z4,z5,z6,z7]) (hg:w.heap.size+2<gp):(fun w' =>w'.cell? ⟨gp,0,none⟩=some (.int .u64 z0)∧w'.cell? ⟨gp,1,none⟩=some (.int .u64 z1)∧w'.cell? ⟨gp,2,none⟩=some (.int .u64 z2)∧w'.cell? ⟨gp,3,none⟩=some (.int .u64 z3)∧w'.cell? ⟨gp,4,none⟩=some (.int .u64 z4)∧w'.cell? ⟨gp,5,none⟩=some (.int .u64 z5)∧w'.cell? ⟨gp,6,none⟩=some (.int .u64 z6)∧w'.cell? ⟨gp,7,none⟩=some (.int .u64 z7)∧w'.cell? ⟨w.heap.size,0,none⟩=some (.int .u64 a3)∧w'.cell? ⟨w.heap.size,1,none⟩=some (.int .u64 a2)∧w'.cell? ⟨w.heap.size,2,none⟩=some (.int .u64 a1)∧w'.cell? ⟨w.heap.size,3,none⟩=some (.int .u64 a0)∧w'.cell? ⟨w.heap.size+1,0,none⟩=some (.int .u64 b3)∧w'.cell? ⟨w.heap.size+1,1,none⟩=some (.int .u64 b2)∧w'.cell? ⟨w.heap.size+1,2,none⟩=some (.int .u64 b1)∧w'.cell? ⟨w.heap.size+1,3,none⟩=some (.int .u64 b0)) ((((((((W.setCell ⟨w.heap.size+1+1,0,none⟩ v0).setCell ⟨w.heap.size+1+1,1,none⟩ v1).setCell ⟨w.heap.size+1+1,2,none⟩ v2).setCell ⟨w.heap.size+1+1,3,none⟩ v3).setCell ⟨w.heap.size+1+1,4,none⟩ v4).setCell ⟨w.heap.size+1+1,5,none⟩ v5).setCell ⟨w.heap.size+1+1,6,none⟩ v6).setCell ⟨w.heap.size+1+1,7,none⟩ v7):=by
 have p:Blk _ gp _:=((((((((h.p.setO (p:=⟨w.heap.size+1+1,0,none⟩) (by show gp≠w.heap.size+1+1;omega) v0).setO (p:=⟨w.heap.size+1+1,1,none⟩) (by show gp≠w.heap.size+1+1;omega) v1).setO (p:=⟨w.heap.size+1+1,2,none⟩) (by show gp≠w.heap.size+1+1;omega) v2).setO (p:=⟨w.heap.size+1+1,3,none⟩) (by show gp≠w.heap.size+1+1;omega) v3).setO (p:=⟨w.heap.size+1+1,4,none⟩) (by show gp≠w.heap.size+1+1;omega) v4).setO (p:=⟨w.heap.size+1+1,5,none⟩) (by show gp≠w.heap.size+1+1;omega) v5).setO (p:=⟨w.heap.size+1+1,6,none⟩) (by show gp≠w.heap.size+1+1;omega) v6).setO (p:=⟨w.heap.size+1+1,7,none⟩) (by show gp≠w.heap.size+1+1;omega) v7);have a:Blk _ (w.heap.size+0) _:=(((((((((h.args.b 0 rfl).setO (p:=⟨w.heap.size+1+1,0,none⟩) (by show w.heap.size+0≠w.heap.size+1+1;omega) v0).setO (p:=⟨w.heap.size+1+1,1,none⟩) (by show w.heap.size+0≠w.heap.size+1+1;omega) v1).setO (p:=⟨w.heap.size+1+1,2,none⟩) (by show w.heap.size+0≠w.heap.size+1+1;omega) v2).setO (p:=⟨w.heap.size+1+1,3,none⟩) (by show w.heap.size+0≠w.heap.size+1+1;omega) v3).setO (p:=⟨w.heap.size+1+1,4,none⟩) (by show w.heap.size+0≠w.heap.size+1+1;omega) v4).setO (p:=⟨w.heap.size+1+1,5,none⟩) (by show w.heap.size+0≠w.heap.size+1+1;omega) v5).setO (p:=⟨w.heap.size+1+1,6,none⟩) (by show w.heap.size+0≠w.heap.size+1+1;omega) v6).setO (p:=⟨w.heap.size+1+1,7,none⟩) (by show w.heap.size+0≠w.heap.size+1+1;omega) v7);have b:Blk _ (w.heap.size+1) _:=(((((((((h.args.b 1 rfl).setO (p:=⟨w.heap.size+1+1,0,none⟩) (by show w.heap.size+1≠w.heap.size+1+1;omega) v0).setO (p:=⟨w.heap.size+1+1,1,none⟩) (by show w.heap.size+1≠w.heap.size+1+1;omega) v1).setO (p:=⟨w.heap.size+1+1,2,none⟩) (by show w.heap.size+1≠w.heap.size+1+1;omega) v2).setO (p:=⟨w.heap.size+1+1,3,none⟩) (by show w.heap.size+1≠w.heap.size+1+1;omega) v3).setO (p:=⟨w.heap.size+1+1,4,none⟩) (by show w.heap.size+1≠w.heap.size+1+1;omega) v4).setO (p:=⟨w.heap.size+1+1,5,none⟩) (by show w.heap.size+1≠w.heap.size+1+1;omega) v5).setO (p:=⟨w.heap.size+1+1,6,none⟩) (by show w.heap.size+1≠w.heap.size+1+1;omega) v6).setO (p:=⟨w.heap.size+1+1,7,none⟩) (by show w.heap.size+1≠w.heap.size+1+1;omega) v7);exact⟨p.c 0 rfl,p.c 1 rfl,p.c 2 rfl,p.c 3 rfl,p.c 4 rfl,p.c 5 rfl,p.c 6 rfl,p.c 7 rfl,a.c 0 rfl,a.c 1 rfl,a.c 2 rfl,a.c 3 rfl,b.c 0 rfl,b.c 1 rfl,b.c 2 rfl,b.c 3 rfl⟩
theorem sl_top {z0 z1 z2 z3 z4 z5 z6 z7:Int} (h:Words [z0,z1,z2,z3,z4,z5,z6,z7]):(z7<9223372036854775808↔val64 [z0,z1,z2,z3,z4,z5,z6,z7]<6703903964971298549787012499102923063739682910296196688861780721860882015036773488400937149083451713845015929093243025426876941405973284973216824503042048)∧0≤val64 [z0,z1,z2,z3,z4,z5,z6,z7]∧val64 [z0,z1,z2,z3,z4,z5,z6,z7]<13407807929942597099574024998205846127479365820592393377723561443721764030073546976801874298166903427690031858186486050853753882811946569946433649006084096:=by
 obtain⟨h0,h1,h2,h3,h4,h5,h6,h7⟩:=words8_of h;unfold Word at *;simp only[val64]
 omega
theorem nat_abs_cases (A:Int):(0≤A∧(A.natAbs:Int)=A)∨(A<0∧(A.natAbs:Int)= -A):=by omega
theorem sl_signed {z0 z1 z2 z3 z4 z5 z6 z7 A B V:Int} {b:Bool} (h:Words [z0,z1,z2,z3,z4,z5,z6,z7]) (hA:(A.natAbs:Int)≤57896044618658097711785492504343953926634992332820282019728792003956564819968) (hB:(B.natAbs:Int)≤57896044618658097711785492504343953926634992332820282019728792003956564819968) (hV:V=(A.natAbs:Int)*(B.natAbs:Int)) (hb:b=(decide (A<0) != decide (B<0)))
 (hz:∃c,0≤c∧c≤1∧val64 [z0,z1,z2,z3,z4,z5,z6,z7]=if b then 0-V+c*13407807929942597099574024998205846127479365820592393377723561443721764030073546976801874298166903427690031858186486050853753882811946569946433649006084096 else V):sl z0 z1 z2 z3 z4 z5 z6 z7=A*B:=by
 obtain⟨t1,t2,t3⟩:=sl_top h;obtain⟨c,c0,c1,hv⟩:=hz;have m0:0≤V:=by rw[hV];exact Int.mul_nonneg (by omega) (by omega)
 have m1:V≤3351951982485649274893506249551461531869841455148098344430890360930441007518386744200468574541725856922507964546621512713438470702986642486608412251521024:=by
  rw[hV];have h1:(A.natAbs:Int)*(B.natAbs:Int)≤57896044618658097711785492504343953926634992332820282019728792003956564819968*(B.natAbs:Int):=Int.mul_le_mul_of_nonneg_right hA (by omega)
  omega
 have e:A*B=if b then -V else V:=by
  rw[hV,hb]
  rcases nat_abs_cases A with ⟨p,e1⟩ | ⟨p,e1⟩<;>rcases nat_abs_cases B with ⟨q,e2⟩ | ⟨q,e2⟩<;>rw[e1,e2]
  · simp[show ¬A<0 by omega,show ¬B<0 by omega]
  · simp[show ¬A<0 by omega,q,Int.mul_neg]
  · simp[p,show ¬B<0 by omega,Int.neg_mul]
  · simp[p,q,Int.neg_mul,Int.mul_neg]
 unfold sl;generalize val64 [z0,z1,z2,z3,z4,z5,z6,z7]=U at *;rw[e];clear hV e hb;obtain rfl | rfl:c=0∨c=1:=by omega
 · cases b
   · simp only[Bool.false_eq_true,if_false] at hv⊢;rw[if_pos (t1.2 (by omega))];omega
   · simp only[if_true] at hv⊢;rw[if_pos (t1.2 (by omega))];omega
 · cases b
   · simp only[Bool.false_eq_true,if_false] at hv⊢;rw[if_pos (t1.2 (by omega))];omega
   · simp only[if_true] at hv⊢;rw[if_neg (by rw[t1];omega)];omega
theorem times_any (a3 a2 a1 a0 b3 b2 b1 b0:Int) (h3:Word a3) (h2:Word a2) (h1:Word a1) (h0:Word a0) (k3:Word b3) (k2:Word b2) (k1:Word b1) (k0:Word b0) (w:World) :
 Calls Tryz.prog 99 #[.agg #[.int .u64 a3,.int .u64 a2,.int .u64 a1,.int .u64 a0],.agg #[.int .u64 b3,.int .u64 b2,.int .u64 b1,.int .u64 b0]] w (TimesP (sw a3 a2 a1 a0*sw b3 b2 b1 b0) w):=by
 obtain⟨x3,x2,x1,x0,e3,e2,e1,e0,hx⟩:=size_words ((sw a3 a2 a1 a0).natAbs:Int) (by omega) (by have:=sw_size h3 h2 h1 h0;omega);obtain⟨y3,y2,y1,y0,f3,f2,f1,f0,hy⟩:=size_words ((sw b3 b2 b1 b0).natAbs:Int) (by omega) (by have:=sw_size k3 k2 k1 k0;omega);have T0:=tm_args a3 a2 a1 a0 b3 b2 b1 b0 w;have tok1:True:=trivial
 go_enter Tryz.func99,Tryz.ntmps99
 go_upto_region 1 with fail;generalize (((w.alloc (.cells #[.int .u64 a3,.int .u64 a2,.int .u64 a1,.int .u64 a0] 27)).alloc (.cells #[.int .u64 b3,.int .u64 b2,.int .u64 b1,.int .u64 b0] 27)).alloc (.cells #[.int .u64 0,.int .u64 0,.int .u64 0,.int .u64 0,.int .u64 0,.int .u64 0,.int .u64 0,.int .u64 0] 88))=W at *
 go_cut [5,6] (fun p q wx=>CutT w wx [[.int .u64 a3,.int .u64 a2,.int .u64 a1,.int .u64 a0],[.int .u64 b3,.int .u64 b2,.int .u64 b1,.int .u64 b0],[.int .u64 0,.int .u64 0,.int .u64 0,.int .u64 0,.int .u64 0,.int .u64 0,.int .u64 0,.int .u64 0]] [.int .u64 x0,.int .u64 x1,.int .u64 x2,.int .u64 x3] [.int .u64 y0,.int .u64 y1,.int .u64 y2,.int .u64 y3] p q)
 case first=>
  go_region_held3 (fun w' =>w'.cell? ⟨w.heap.size,0,none⟩=some (.int .u64 a3)∧w'.cell? ⟨w.heap.size,1,none⟩=some (.int .u64 a2)∧w'.cell? ⟨w.heap.size,2,none⟩=some (.int .u64 a1)∧w'.cell? ⟨w.heap.size,3,none⟩=some (.int .u64 a0)∧w'.cell? ⟨w.heap.size+1,0,none⟩=some (.int .u64 b3)∧w'.cell? ⟨w.heap.size+1,1,none⟩=some (.int .u64 b2)∧w'.cell? ⟨w.heap.size+1,2,none⟩=some (.int .u64 b1)∧w'.cell? ⟨w.heap.size+1,3,none⟩=some (.int .u64 b0)) (first | (with_reducible exact tm_cells T0) | (with_reducible exact tm_cells T0.drew) | (with_reducible exact tm_cells (T0.alloc _)) | (with_reducible exact tm_cells (T0.alloc _).drew) | (with_reducible exact tm_cells ((T0.alloc _).alloc _)) | (with_reducible exact tm_cells ((T0.alloc _).alloc _).drew) | (with_reducible exact tm_cells (T0.set4 (by omega) _ _ _ _)) | (with_reducible exact tm_cells ((T0.set4 (by omega) _ _ _ _).alloc _)) | (with_reducible exact tm_cells ((T0.set4 (by omega) _ _ _ _).set4 (by omega) _ _ _ _)) | (exact tm_cells T0.drew) | skip)
   (first
    | (go_at_call 88;have _t:=tok1;refine(sizeOf_det a3 a2 a1 a0 h3 h2 h1 h0 x3 x2 x1 x0 e3 e2 e1 e0 hx _).mono ?_;rintro e w1 ⟨rfl,hB⟩;(first | (have T1:ArgsB w w1 _:=(by with_reducible exact T0.step hB);have hltw1:=T0.lt3;try (replace G0:=G0.step hB;obtain⟨z0c,z0f,z1c,z1f,z2c,z2f,z3c,z3f⟩:=G0.cf4;have zlt:=G0.lt);try (replace G1:=G1.step hB;obtain⟨y0c,y0f,y1c,y1f,y2c,y2f,y3c,y3f⟩:=G1.cf4;have ylt:=G1.lt)) | (have T1:ArgsB w w1 _:=(by with_reducible exact T0.drew.step hB);have hltw1:=T0.lt3;try (replace G0:=G0.drew.step hB;obtain⟨z0c,z0f,z1c,z1f,z2c,z2f,z3c,z3f⟩:=G0.cf4;have zlt:=G0.lt);try (replace G1:=G1.drew.step hB;obtain⟨y0c,y0f,y1c,y1f,y2c,y2f,y3c,y3f⟩:=G1.cf4;have ylt:=G1.lt)) | (have T1:ArgsB w w1 _:=(by with_reducible exact(T0.alloc _).step hB);have hltw1:=T0.lt3;(first | (have G1:=(Blk.new _ [.int .u64 0,.int .u64 0,.int .u64 0,.int .u64 0] _ rfl).step hB;have hgg:=G0.lt;replace G0:=(G0.alloc _).step hB;obtain⟨z0c,z0f,z1c,z1f,z2c,z2f,z3c,z3f⟩:=G0.cf4;have zlt:=G0.lt;obtain⟨y0c,y0f,y1c,y1f,y2c,y2f,y3c,y3f⟩:=G1.cf4;have ylt:=G1.lt) | (have G0:=(Blk.new _ [.int .u64 0,.int .u64 0,.int .u64 0,.int .u64 0] _ rfl).step hB;obtain⟨z0c,z0f,z1c,z1f,z2c,z2f,z3c,z3f⟩:=G0.cf4;have zlt:=G0.lt))) | (have T1:ArgsB w w1 _:=(by with_reducible exact(T0.alloc _).drew.step hB);have hltw1:=T0.lt3;(first | (have G1:=(Blk.new _ [.int .u64 0,.int .u64 0,.int .u64 0,.int .u64 0] _ rfl).drew.step hB;have hgg:=G0.lt;replace G0:=(G0.alloc _).drew.step hB;obtain⟨z0c,z0f,z1c,z1f,z2c,z2f,z3c,z3f⟩:=G0.cf4;have zlt:=G0.lt;obtain⟨y0c,y0f,y1c,y1f,y2c,y2f,y3c,y3f⟩:=G1.cf4;have ylt:=G1.lt) | (have G0:=(Blk.new _ [.int .u64 0,.int .u64 0,.int .u64 0,.int .u64 0] _ rfl).drew.step hB;obtain⟨z0c,z0f,z1c,z1f,z2c,z2f,z3c,z3f⟩:=G0.cf4;have zlt:=G0.lt))) | (have T1:ArgsB w w1 _:=(by with_reducible exact((T0.alloc _).alloc _).step hB);have hltw1:=T0.lt3;have G0:=((Blk.new _ [.int .u64 0,.int .u64 0,.int .u64 0,.int .u64 0] _ rfl).alloc _).step hB;have G1:=(Blk.new2 _ _ [.int .u64 0,.int .u64 0,.int .u64 0,.int .u64 0] _).step hB;obtain⟨z0c,z0f,z1c,z1f,z2c,z2f,z3c,z3f⟩:=G0.cf4;have zlt:=G0.lt;obtain⟨y0c,y0f,y1c,y1f,y2c,y2f,y3c,y3f⟩:=G1.cf4;have ylt:=G1.lt) | (have T1:ArgsB w w1 _:=(by with_reducible exact((T0.alloc _).alloc _).drew.step hB);have hltw1:=T0.lt3;have G0:=((Blk.new _ [.int .u64 0,.int .u64 0,.int .u64 0,.int .u64 0] _ rfl).alloc _).drew.step hB;have G1:=(Blk.new2 _ _ [.int .u64 0,.int .u64 0,.int .u64 0,.int .u64 0] _).drew.step hB;obtain⟨z0c,z0f,z1c,z1f,z2c,z2f,z3c,z3f⟩:=G0.cf4;have zlt:=G0.lt;obtain⟨y0c,y0f,y1c,y1f,y2c,y2f,y3c,y3f⟩:=G1.cf4;have ylt:=G1.lt));clear T0;have T0:=T1;clear T1;clear tok1 _t hB)
    | (go_at_call 88;refine(sizeOf_det b3 b2 b1 b0 k3 k2 k1 k0 y3 y2 y1 y0 f3 f2 f1 f0 hy _).mono ?_;rintro e w2 ⟨rfl,hB⟩;(first | (have T1:ArgsB w w2 _:=(by with_reducible exact T0.step hB);have hltw2:=T0.lt3;try (replace G0:=G0.step hB;obtain⟨z0c,z0f,z1c,z1f,z2c,z2f,z3c,z3f⟩:=G0.cf4;have zlt:=G0.lt);try (replace G1:=G1.step hB;obtain⟨y0c,y0f,y1c,y1f,y2c,y2f,y3c,y3f⟩:=G1.cf4;have ylt:=G1.lt)) | (have T1:ArgsB w w2 _:=(by with_reducible exact T0.drew.step hB);have hltw2:=T0.lt3;try (replace G0:=G0.drew.step hB;obtain⟨z0c,z0f,z1c,z1f,z2c,z2f,z3c,z3f⟩:=G0.cf4;have zlt:=G0.lt);try (replace G1:=G1.drew.step hB;obtain⟨y0c,y0f,y1c,y1f,y2c,y2f,y3c,y3f⟩:=G1.cf4;have ylt:=G1.lt)) | (have T1:ArgsB w w2 _:=(by with_reducible exact(T0.alloc _).step hB);have hltw2:=T0.lt3;(first | (have G1:=(Blk.new _ [.int .u64 0,.int .u64 0,.int .u64 0,.int .u64 0] _ rfl).step hB;have hgg:=G0.lt;replace G0:=(G0.alloc _).step hB;obtain⟨z0c,z0f,z1c,z1f,z2c,z2f,z3c,z3f⟩:=G0.cf4;have zlt:=G0.lt;obtain⟨y0c,y0f,y1c,y1f,y2c,y2f,y3c,y3f⟩:=G1.cf4;have ylt:=G1.lt) | (have G0:=(Blk.new _ [.int .u64 0,.int .u64 0,.int .u64 0,.int .u64 0] _ rfl).step hB;obtain⟨z0c,z0f,z1c,z1f,z2c,z2f,z3c,z3f⟩:=G0.cf4;have zlt:=G0.lt))) | (have T1:ArgsB w w2 _:=(by with_reducible exact(T0.alloc _).drew.step hB);have hltw2:=T0.lt3;(first | (have G1:=(Blk.new _ [.int .u64 0,.int .u64 0,.int .u64 0,.int .u64 0] _ rfl).drew.step hB;have hgg:=G0.lt;replace G0:=(G0.alloc _).drew.step hB;obtain⟨z0c,z0f,z1c,z1f,z2c,z2f,z3c,z3f⟩:=G0.cf4;have zlt:=G0.lt;obtain⟨y0c,y0f,y1c,y1f,y2c,y2f,y3c,y3f⟩:=G1.cf4;have ylt:=G1.lt) | (have G0:=(Blk.new _ [.int .u64 0,.int .u64 0,.int .u64 0,.int .u64 0] _ rfl).drew.step hB;obtain⟨z0c,z0f,z1c,z1f,z2c,z2f,z3c,z3f⟩:=G0.cf4;have zlt:=G0.lt))) | (have T1:ArgsB w w2 _:=(by with_reducible exact((T0.alloc _).alloc _).step hB);have hltw2:=T0.lt3;have G0:=((Blk.new _ [.int .u64 0,.int .u64 0,.int .u64 0,.int .u64 0] _ rfl).alloc _).step hB;have G1:=(Blk.new2 _ _ [.int .u64 0,.int .u64 0,.int .u64 0,.int .u64 0] _).step hB;obtain⟨z0c,z0f,z1c,z1f,z2c,z2f,z3c,z3f⟩:=G0.cf4;have zlt:=G0.lt;obtain⟨y0c,y0f,y1c,y1f,y2c,y2f,y3c,y3f⟩:=G1.cf4;have ylt:=G1.lt) | (have T1:ArgsB w w2 _:=(by with_reducible exact((T0.alloc _).alloc _).drew.step hB);have hltw2:=T0.lt3;have G0:=((Blk.new _ [.int .u64 0,.int .u64 0,.int .u64 0,.int .u64 0] _ rfl).alloc _).drew.step hB;have G1:=(Blk.new2 _ _ [.int .u64 0,.int .u64 0,.int .u64 0,.int .u64 0] _).drew.step hB;obtain⟨z0c,z0f,z1c,z1f,z2c,z2f,z3c,z3f⟩:=G0.cf4;have zlt:=G0.lt;obtain⟨y0c,y0f,y1c,y1f,y2c,y2f,y3c,y3f⟩:=G1.cf4;have ylt:=G1.lt));clear T0;have T0:=T1;clear T1;clear hB))
  all_goals go_wp2_with fail
  all_goals go_meet
  all_goals first | (with_reducible exact cutT_nn T0 T0.lt3) | (with_reducible exact cutT_nn' T0 T0.lt3) | (with_reducible exact cutT_sn T0 G0 (by omega) T0.lt3) | (with_reducible exact cutT_sn' T0 G0 (by omega) T0.lt3) | (with_reducible exact cutT_ss T0 G0 G1 (by omega) (by omega) (by omega)) | (with_reducible exact cutT_ss T0 G1 G0 (by omega) (by omega) (by omega))
 case rest=>
  clear T0 tok1;obtain⟨g,g',hp,hq,hne,hg,hg',T0,GX,GY⟩:=hcut;subst hp;subst hq;have hw4:Words [x0,x1,x2,x3]:=words4 e0 e1 e2 e3;have hv4:Words [y0,y1,y2,y3]:=words4 f0 f1 f2 f3;have HVX:Hid (val64 [x0,x1,x2,x3]=((sw a3 a2 a1 a0).natAbs:Int)):=by show _=_;rw[val64_4,hx]
  have HVY:Hid (val64 [y0,y1,y2,y3]=((sw b3 b2 b1 b0).natAbs:Int)):=by show _=_;rw[val64_4,hy]
  have HX:Hid (Words [x0,x1,x2,x3]):=hw4;have HY:Hid (Words [y0,y1,y2,y3]):=hv4;have HS:Tm3 w (wc.alloc (.cells #[.int .u64 0,.int .u64 0,.int .u64 0,.int .u64 0,.int .u64 0,.int .u64 0,.int .u64 0,.int .u64 0] 88)) [[.int .u64 a3,.int .u64 a2,.int .u64 a1,.int .u64 a0],[.int .u64 b3,.int .u64 b2,.int .u64 b1,.int .u64 b0],[.int .u64 0,.int .u64 0,.int .u64 0,.int .u64 0,.int .u64 0,.int .u64 0,.int .u64 0,.int .u64 0]] g g' wc.heap.size [x0,x1,x2,x3] [y0,y1,y2,y3] [0,0,0,0,0,0,0,0]:=⟨T0.alloc _,GX.alloc _,GY.alloc _,Blk.new wc [.int .u64 0,.int .u64 0,.int .u64 0,.int .u64 0,.int .u64 0,.int .u64 0,.int .u64 0,.int .u64 0] 88 rfl⟩;have hgx:=GX.lt;have hgy:=GY.lt;have hl3:=T0.lt3;clear T0 GX GY hx hy e3 e2 e1 e0 f3 f2 f1 f0 hw4 hv4;go_upto_region 3 with fail;generalize wc.alloc (.cells #[.int .u64 0,.int .u64 0,.int .u64 0,.int .u64 0,.int .u64 0,.int .u64 0,.int .u64 0,.int .u64 0] 88)=W1 at *;have ng:g≠wc.heap.size:=by omega
  have ng' :g' ≠wc.heap.size:=by omega
  have hgp:w.heap.size+2<wc.heap.size:=hl3;generalize wc.heap.size=gp at *;generalize hxs:[x0,x1,x2,x3]=xs at *;generalize hys:[y0,y1,y2,y3]=ys at *;have HLX:Hid (xs.length=4):=by show _=_;rw[←hxs];rfl
  have HLY:Hid (ys.length=4):=by show _=_;rw[←hys];rfl
  clear hxs hys hgx hgy hl3;have RX:Row W1 g 0 xs:=row_of_blk HS.x;have RY:Row W1 g' 0 ys:=row_of_blk HS.y;have HVP:Hid (((sw a3 a2 a1 a0).natAbs:Int)*((sw b3 b2 b1 b0).natAbs:Int)<pw64 8):=by
   show _<_;rw[pw64_8];have s1:=sw_size h3 h2 h1 h0;have s2:=sw_size k3 k2 k1 k0;have:=Int.mul_le_mul s1 s2 (by omega) (by omega)
   omega
  have tok1:True:=trivial
  go_cut [] (fun wx=>∃zs:List Int,zs.length=8∧Words zs∧val64 zs=((sw a3 a2 a1 a0).natAbs:Int)*((sw b3 b2 b1 b0).natAbs:Int)∧Tm3 w wx [[.int .u64 a3,.int .u64 a2,.int .u64 a1,.int .u64 a0],[.int .u64 b3,.int .u64 b2,.int .u64 b1,.int .u64 b0],[.int .u64 0,.int .u64 0,.int .u64 0,.int .u64 0,.int .u64 0,.int .u64 0,.int .u64 0,.int .u64 0]] g g' gp xs ys zs)
  case first=>
   go_region_held3 (fun _=>True) (trivial)
    (first
     | (go_at_call 89;have _t:=tok1;refine(countWords_any g 0 4 4 xs _ HLX.out (by first | exact RX | exact row_drew RX) (by decide)).mono ?_;rintro e w1 ⟨m,rfl,hm,hzm,-,rfl⟩;have hm4:m≤4:=(by have:=HLX.out;omega);have HCX:Hid (val64 (xs.take m)=val64 xs):=val64_cut xs m hm hzm;have SMX:=slice4_h g m hm4;clear hm hzm tok1 _t)
     | (go_at_call 89;refine(countWords_any g' 0 4 4 ys _ HLY.out (by first | exact RY | exact row_drew RY) (by decide)).mono ?_;rintro e w2 ⟨n,rfl,hn,hzn,-,rfl⟩;have hn4:n≤4:=(by have:=HLY.out;omega);have HCY:Hid (val64 (ys.take n)=val64 ys):=val64_cut ys n hn hzn;have SMY:=slice4_h g' n hn4;clear hn hzn)
     | (go_at_call 109;refine(addProduct_any gp g g' 8 8 m 4 n 4 [0,0,0,0,0,0,0,0] (xs.take m) (ys.take n) rfl (tm_take HLX.out hm4) (tm_take HLY.out hn4) w80 (words_take HX.out m) (words_take HY.out n) (tm_bound HCX.out HCY.out HVX.out HVY.out HVP.out) (by omega) (by decide) ng ng' _ (by first | exact HS.p | exact HS.p.drew) (by first | exact row_take RX | exact row_take (row_drew RX)) (by first | exact row_take RY | exact row_take (row_drew RY))).mono ?_;rintro e w3 ⟨zs,rfl,hl,wz,hv,hz,hw⟩;(first | (have T1:=HS.wrote hw hz ng ng' hgp) | (have T1:=HS.drew1.wrote hw hz ng ng' hgp));have hvz:=hv.trans (tm_total HCX.out HCY.out HVX.out HVY.out);clear hv hz hw))
   all_goals go_wp2_with fail
   all_goals go_meet
   all_goals first | exact⟨zs,hl,wz,hvz,T1⟩ | exact⟨zs,hl,wz,hvz,T1.drew1⟩
  case rest=>
   clear HS RX RY tok1 HVP HVX HVY HLX HLY HX HY;obtain⟨zs,hl,wz,hvz,hT⟩:=hcut;obtain⟨z0,z1,z2,z3,z4,z5,z6,z7,rfl⟩:=list8 hl;have HV:Hid (val64 [z0,z1,z2,z3,z4,z5,z6,z7]=((sw a3 a2 a1 a0).natAbs:Int)*((sw b3 b2 b1 b0).natAbs:Int)):=hvz;clear hvz hl;obtain⟨pa,hpa⟩:∃b,(a3 / 9223372036854775808==1)=b:=⟨_,rfl⟩;obtain⟨pb,hpb⟩:∃b,(b3 / 9223372036854775808==1)=b:=⟨_,rfl⟩;have HPA:Hid (pa=decide (sw a3 a2 a1 a0<0)):=by show _=_;rw[←hpa,Bool.eq_iff_iff];have:=sw_neg h3 h2 h1 h0;unfold Word at h3;simp;omega
   have HPB:Hid (pb=decide (sw b3 b2 b1 b0<0)):=by show _=_;rw[←hpb,Bool.eq_iff_iff];have:=sw_neg k3 k2 k1 k0;unfold Word at k3;simp;omega
   have tok1:True:=trivial;go_upto_region 4 with fail
   go_region_held3 (fun w' =>w'.cell? ⟨gp,0,none⟩=some (.int .u64 z0)∧w'.cell? ⟨gp,1,none⟩=some (.int .u64 z1)∧w'.cell? ⟨gp,2,none⟩=some (.int .u64 z2)∧w'.cell? ⟨gp,3,none⟩=some (.int .u64 z3)∧w'.cell? ⟨gp,4,none⟩=some (.int .u64 z4)∧w'.cell? ⟨gp,5,none⟩=some (.int .u64 z5)∧w'.cell? ⟨gp,6,none⟩=some (.int .u64 z6)∧w'.cell? ⟨gp,7,none⟩=some (.int .u64 z7)∧w'.cell? ⟨w.heap.size,0,none⟩=some (.int .u64 a3)∧w'.cell? ⟨w.heap.size,1,none⟩=some (.int .u64 a2)∧w'.cell? ⟨w.heap.size,2,none⟩=some (.int .u64 a1)∧w'.cell? ⟨w.heap.size,3,none⟩=some (.int .u64 a0)∧w'.cell? ⟨w.heap.size+1,0,none⟩=some (.int .u64 b3)∧w'.cell? ⟨w.heap.size+1,1,none⟩=some (.int .u64 b2)∧w'.cell? ⟨w.heap.size+1,2,none⟩=some (.int .u64 b1)∧w'.cell? ⟨w.heap.size+1,3,none⟩=some (.int .u64 b0)) (first | (with_reducible exact tm3_cells hT) | (with_reducible exact tm3_cells hT.drew1) | (with_reducible exact tm3_cells8 hT hgp))
    (first
     | (go_at_call 72;have _t:=tok1;refine(isBelow_any a3 a2 a1 a0 h3 pa hpa _).mono ?_;rintro e w1 ⟨rfl,hB⟩;(first | (have T1:=hT.step hB) | (have T1:=hT.drew1.step hB));clear hT;have hT:=T1;clear T1;clear tok1 _t hB)
     | (go_at_call 72;refine(isBelow_any b3 b2 b1 b0 k3 pb hpb _).mono ?_;rintro e w2 ⟨rfl,hB⟩;(first | (have T1:=hT.step hB) | (have T1:=hT.drew1.step hB));clear hT;have hT:=T1;clear T1;clear hB)
     | (go_at_call 93;refine(signed_any z0 z1 z2 z3 z4 z5 z6 z7 _ wz _).mono ?_;rintro e w3 ⟨r0,r1,r2,r3,r4,r5,r6,r7,rfl,wr8,hr8,hB⟩;(first | (have T1:=hT.step hB) | (have T1:=hT.drew1.step hB));clear hT;have hT:=T1;clear T1;have o0:=(hT.args.b 2 rfl).c 0 rfl;have p0:=(hT.args.b 2 rfl).f 0 rfl;have o1:=(hT.args.b 2 rfl).c 1 rfl;have p1:=(hT.args.b 2 rfl).f 1 rfl;have o2:=(hT.args.b 2 rfl).c 2 rfl;have p2:=(hT.args.b 2 rfl).f 2 rfl;have o3:=(hT.args.b 2 rfl).c 3 rfl;have p3:=(hT.args.b 2 rfl).f 3 rfl;have o4:=(hT.args.b 2 rfl).c 4 rfl;have p4:=(hT.args.b 2 rfl).f 4 rfl;have o5:=(hT.args.b 2 rfl).c 5 rfl;have p5:=(hT.args.b 2 rfl).f 5 rfl;have o6:=(hT.args.b 2 rfl).c 6 rfl;have p6:=(hT.args.b 2 rfl).f 6 rfl;have o7:=(hT.args.b 2 rfl).c 7 rfl;have p7:=(hT.args.b 2 rfl).f 7 rfl;have olt:=(hT.args.b 2 rfl).lt;clear hB))
   all_goals have HB:=hT.args.below
   all_goals have HR:=sl_signed wr8 (sw_size h3 h2 h1 h0) (sw_size k3 k2 k1 k0) HV.out (by rw[HPA.out,HPB.out];rfl) hr8
   all_goals clear hr8 hT
   all_goals go_wp2
   all_goals refine bodyPost_ret (v:=L8 r0 r1 r2 r3 r4 r5 r6 r7) (by simp[results,Tryz.results99,go_sem,o0,o1,o2,o3,o4,o5,o6,o7]) rfl ?_
   all_goals refine⟨r0,r1,r2,r3,r4,r5,r6,r7,rfl,wr8,HR,?_⟩
   all_goals repeat' (refine Below.setCell ?_ (by simp;try omega) _)
   all_goals exact HB
def BelowLP (x7:Int) (w:World) (e:Ending) (w' :World):Prop:=e= .returned (.bool (x7 / 9223372036854775808==1))∧Below w.heap.size w w'
theorem isBelowL_any (x0 x1 x2 x3 x4 x5 x6 x7:Int) (w:World):Calls Tryz.prog 94 #[L8 x0 x1 x2 x3 x4 x5 x6 x7] w (BelowLP x7 w):=by
 go_enter Tryz.func94,Tryz.ntmps94
 go_wp2;go_ret;exact⟨rfl,(Below.refl _ _).alloc (Nat.le_refl _) _⟩
theorem sl_size {z0 z1 z2 z3 z4 z5 z6 z7 x0 x1 x2 x3 x4 x5 x6 x7:Int} (wx:Words [x0,x1,x2,x3,x4,x5,x6,x7]) (wz:Words [z0,z1,z2,z3,z4,z5,z6,z7]) (h:∃c,0≤c∧c≤1∧val64 [z0,z1,z2,z3,z4,z5,z6,z7]=if (x7 / 9223372036854775808==1)=true then 0-val64 [x0,x1,x2,x3,x4,x5,x6,x7]+c*13407807929942597099574024998205846127479365820592393377723561443721764030073546976801874298166903427690031858186486050853753882811946569946433649006084096 else val64 [x0,x1,x2,x3,x4,x5,x6,x7]) :
 val64 [z0,z1,z2,z3,z4,z5,z6,z7]=((sl x0 x1 x2 x3 x4 x5 x6 x7).natAbs:Int):=by
 obtain⟨t1,t2,t3⟩:=sl_top wx;obtain⟨_,s2,s3⟩:=sl_top wz;obtain⟨c,c0,c1,hv⟩:=h;have h7:Word x7:=words_at wx 7 (by simp);unfold Word at h7;unfold sl
 by_cases hb:x7<9223372036854775808
 · rw[if_pos hb];have:(x7 / 9223372036854775808==1)=false:=beq_eq_false_iff_ne.2 (by omega);rw[this] at hv;simp only[Bool.false_eq_true,if_false] at hv
   omega
 · rw[if_neg hb];have:(x7 / 9223372036854775808==1)=true:=beq_iff_eq.2 (by omega);rw[this] at hv;simp only[if_true] at hv;have:=mt t1.2 hb;obtain rfl | rfl:c=0∨c=1:=by omega
   · omega
   · omega
theorem sz_cells {x0 x1 x2 x3 x4 x5 x6 x7:Int} {w W:World} (h:Blk W w.heap.size [.int .u64 x0,.int .u64 x1,.int .u64 x2,.int .u64 x3,.int .u64 x4,.int .u64 x5,.int .u64 x6,.int .u64 x7]):(fun w' =>w'.cell? ⟨w.heap.size,0,none⟩=some (.int .u64 x0)∧w'.cell? ⟨w.heap.size,1,none⟩=some (.int .u64 x1)∧w'.cell? ⟨w.heap.size,2,none⟩=some (.int .u64 x2)∧w'.cell? ⟨w.heap.size,3,none⟩=some (.int .u64 x3)∧w'.cell? ⟨w.heap.size,4,none⟩=some (.int .u64 x4)∧w'.cell? ⟨w.heap.size,5,none⟩=some (.int .u64 x5)∧w'.cell? ⟨w.heap.size,6,none⟩=some (.int .u64 x6)∧w'.cell? ⟨w.heap.size,7,none⟩=some (.int .u64 x7)) W:=
 ⟨h.c 0 rfl,h.c 1 rfl,h.c 2 rfl,h.c 3 rfl,h.c 4 rfl,h.c 5 rfl,h.c 6 rfl,h.c 7 rfl⟩
theorem sizeL_any (x0 x1 x2 x3 x4 x5 x6 x7:Int) (wx:Words [x0,x1,x2,x3,x4,x5,x6,x7]) (w:World):Calls Tryz.prog 76 #[L8 x0 x1 x2 x3 x4 x5 x6 x7] w (AggP 8 ((sl x0 x1 x2 x3 x4 x5 x6 x7).natAbs:Int) w):=by
 have X0:=(Blk.new w [.int .u64 x0,.int .u64 x1,.int .u64 x2,.int .u64 x3,.int .u64 x4,.int .u64 x5,.int .u64 x6,.int .u64 x7] 88 rfl).alloc (.cells #[.int .u64 0,.int .u64 0,.int .u64 0,.int .u64 0,.int .u64 0,.int .u64 0,.int .u64 0,.int .u64 0] 88);have Y0:=Blk.new (w.alloc (.cells #[.int .u64 x0,.int .u64 x1,.int .u64 x2,.int .u64 x3,.int .u64 x4,.int .u64 x5,.int .u64 x6,.int .u64 x7] 88)) [.int .u64 0,.int .u64 0,.int .u64 0,.int .u64 0,.int .u64 0,.int .u64 0,.int .u64 0,.int .u64 0] 88 (g:=w.heap.size+1) (by simp);have HB:=((Below.refl _ w).alloc (Nat.le_refl _) (.cells #[.int .u64 x0,.int .u64 x1,.int .u64 x2,.int .u64 x3,.int .u64 x4,.int .u64 x5,.int .u64 x6,.int .u64 x7] 88)).alloc (by simp) (.cells #[.int .u64 0,.int .u64 0,.int .u64 0,.int .u64 0,.int .u64 0,.int .u64 0,.int .u64 0,.int .u64 0] 88)
 go_enter Tryz.func76,Tryz.ntmps76
 go_wp2_with fail;rw[show([.int .u64 x0,.int .u64 x1,.int .u64 x2,.int .u64 x3,.int .u64 x4,.int .u64 x5,.int .u64 x6,.int .u64 x7]:List Value).toArray=#[.int .u64 x0,.int .u64 x1,.int .u64 x2,.int .u64 x3,.int .u64 x4,.int .u64 x5,.int .u64 x6,.int .u64 x7] from rfl] at X0;generalize (w.alloc (.cells #[.int .u64 x0,.int .u64 x1,.int .u64 x2,.int .u64 x3,.int .u64 x4,.int .u64 x5,.int .u64 x6,.int .u64 x7] 88)).alloc (.cells #[.int .u64 0,.int .u64 0,.int .u64 0,.int .u64 0,.int .u64 0,.int .u64 0,.int .u64 0,.int .u64 0] 88)=W at *
 go_region_held3 (fun w' =>w'.cell? ⟨w.heap.size,0,none⟩=some (.int .u64 x0)∧w'.cell? ⟨w.heap.size,1,none⟩=some (.int .u64 x1)∧w'.cell? ⟨w.heap.size,2,none⟩=some (.int .u64 x2)∧w'.cell? ⟨w.heap.size,3,none⟩=some (.int .u64 x3)∧w'.cell? ⟨w.heap.size,4,none⟩=some (.int .u64 x4)∧w'.cell? ⟨w.heap.size,5,none⟩=some (.int .u64 x5)∧w'.cell? ⟨w.heap.size,6,none⟩=some (.int .u64 x6)∧w'.cell? ⟨w.heap.size,7,none⟩=some (.int .u64 x7)) ((refine sz_cells ?_;repeat (first | (with_reducible exact X0) | (with_reducible exact X0.drew) | (with_reducible refine Blk.setO ?_ (by show w.heap.size≠w.heap.size+1;omega) _))))
  (first
   | (go_at_call 94;refine(isBelowL_any x0 x1 x2 x3 x4 x5 x6 x7 _).mono ?_;rintro e w1 ⟨rfl,hB⟩;(first | (replace X0:=X0.step hB;replace Y0:=Y0.step hB;replace HB:=HB.trans (hB.mono HB.size)) | (replace X0:=X0.drew.step hB;replace Y0:=Y0.drew.step hB;replace HB:=HB.drew.trans (hB.mono HB.size)));clear hB)
   | (go_at_call 93;refine(signed_any x0 x1 x2 x3 x4 x5 x6 x7 _ wx _).mono ?_;rintro e w2 ⟨r0,r1,r2,r3,r4,r5,r6,r7,rfl,wr8,hr8,hB⟩;(first | (replace X0:=X0.step hB;replace Y0:=Y0.step hB;replace HB:=HB.trans (hB.mono HB.size)) | (replace X0:=X0.drew.step hB;replace Y0:=Y0.drew.step hB;replace HB:=HB.drew.trans (hB.mono HB.size)));clear hB;obtain⟨o0,p0,o1,p1,o2,p2,o3,p3,o4,p4,o5,p5,o6,p6,o7,p7⟩:=Y0.cf8;have olt:=Y0.lt))
 all_goals have HV:=sl_size wx wr8 hr8
 all_goals clear hr8 X0 Y0
 all_goals go_wp2
 all_goals refine bodyPost_ret (v:=L8 r0 r1 r2 r3 r4 r5 r6 r7) (by simp[results,Tryz.results76,go_sem,o0,o1,o2,o3,o4,o5,o6,o7]) rfl ?_
 all_goals refine⟨[r0,r1,r2,r3,r4,r5,r6,r7],rfl,rfl,wr8,HV,?_⟩
 all_goals exact below_set8 (g:=w.heap.size+1) (by omega) HB
def GcdWP (x y:Int) (w:World) (e:Ending) (w' :World):Prop:=e= .returned (.int .u64 (Int.gcd x y:Int))∧Below w.heap.size w w'
theorem gcd_down {x y:Int} (hx:0≤x) (hy:0<y):Int.gcd y (x%y)=Int.gcd x y:=by
 obtain⟨a,rfl⟩:=Int.eq_ofNat_of_zero_le hx;obtain⟨b,rfl⟩:=Int.eq_ofNat_of_zero_le (Int.le_of_lt hy);rw[show((a:Int)%(b:Int))=((a%b:Nat):Int) from(Int.natCast_emod a b).symm,Int.gcd_natCast_natCast,Int.gcd_natCast_natCast,Nat.gcd_comm a b,Nat.gcd_rec b a,Nat.gcd_comm]
theorem gcdW_any (x y:Int) (hx:Word x) (hy:Word y) (w:World):Calls Tryz.prog 92 #[.int .u64 x,.int .u64 y] w (GcdWP x y w):=by
 go_enter Tryz.func92,Tryz.ntmps92
 go_wp2
 go_loopg [0,1] y.toNat (fun k p q wr=>∃a b:Int,p= .int .u64 a∧q= .int .u64 b∧Word a∧Word b∧b.toNat=k∧Int.gcd a b=Int.gcd x y∧Below w.heap.size w wr)
 case atStart=>exact⟨x,y,rfl,rfl,hx,hy,rfl,rfl,Below.refl _ _⟩
 case round=>
  obtain⟨a,b,rfl,rfl,ha,hb,hk,hg,hB⟩:=hrel;have HG:Hid (Int.gcd a b=Int.gcd x y):=hg;clear hg
  by_cases h0:b=0
  · subst h0;go_wp2;go_ret;refine⟨?_,hB⟩;rw[←HG.out];have:=ha.1
    simp
    omega
  · have hb0:0<b:=by have:=hb.1;omega
    have d2:a.tmod b=a%b:=Int.tmod_eq_emod_of_nonneg ha.1;have e0:=Int.emod_nonneg a (b:=b) h0;have e1:=Int.emod_lt_of_pos a hb0;have e2:Word (a%b):=⟨e0,Int.lt_trans e1 hb.2⟩;have e3:Hid (Int.gcd b (a%b)=Int.gcd x y):=(gcd_down ha.1 hb0).trans HG.out;have d3:=wrap_word e2.1 e2.2;go_wp2
    go_quiet (fail)
    go_wp2
    go_roundg (a%b).toNat
    case measure=>omega
    case rel=>exact⟨b,a%b,rfl,rfl,hb,e2,rfl,e3.out,bdrew hB _⟩
theorem Blk.stored8 {W:World} {g:Nat} {z0 z1 z2 z3 z4 z5 z6 z7:Value} (G:Blk W g [z0,z1,z2,z3,z4,z5,z6,z7]) (v0 v1 v2 v3 v4 v5 v6 v7:Value):Blk ((((((((W.setCell ⟨g,0,none⟩ v0).setCell ⟨g,1,none⟩ v1).setCell ⟨g,2,none⟩ v2).setCell ⟨g,3,none⟩ v3).setCell ⟨g,4,none⟩ v4).setCell ⟨g,5,none⟩ v5).setCell ⟨g,6,none⟩ v6).setCell ⟨g,7,none⟩ v7) g [v0,v1,v2,v3,v4,v5,v6,v7]:=
 ((((((((G.setI 0 (by simp) v0).setI 1 (by simp) v1).setI 2 (by simp) v2).setI 3 (by simp) v3).setI 4 (by simp) v4).setI 5 (by simp) v5).setI 6 (by simp) v6).setI 7 (by simp) v7)
theorem Blk.set8 {W:World} {vs:List Value} {v0 v1 v2 v3 v4 v5 v6 v7:Value} {g g' :Nat} (G:Blk W g' vs) (hg:g' ≠g):Blk ((((((((W.setCell ⟨g,0,none⟩ v0).setCell ⟨g,1,none⟩ v1).setCell ⟨g,2,none⟩ v2).setCell ⟨g,3,none⟩ v3).setCell ⟨g,4,none⟩ v4).setCell ⟨g,5,none⟩ v5).setCell ⟨g,6,none⟩ v6).setCell ⟨g,7,none⟩ v7) g' vs:=
 ((((((((G.setO (by exact hg) _).setO (by exact hg) _).setO (by exact hg) _).setO (by exact hg) _).setO (by exact hg) _).setO (by exact hg) _).setO (by exact hg) _).setO (by exact hg) _)
theorem eqLongZ (x0 x1 x2 x3 x4 x5 x6 x7:Int) (w:World):(Op.equalIn 10000 88 (L8 x0 x1 x2 x3 x4 x5 x6 x7) (L8 0 0 0 0 0 0 0 0)).run Tryz.prog w= .ok (x0==0&&x1==0&&x2==0&&x3==0&&x4==0&&x5==0&&x6==0&&x7==0) w:=by
 have u3:=Tryz.underlying25;have a3:=Tryz.isAgg25;have z3:=Tryz.sizeOf25;rw[show(10000:Nat)=9999+1 from rfl,Op.equalIn];simp only[Sem.run_bind,run_underlying Tryz.underlying88,Result.andThen_ok];simp only[Std.Legacy.Range.forIn_eq_forIn_range',Std.Legacy.Range.size,Nat.sub_zero,Nat.add_sub_cancel,Nat.div_one,List.range'_succ,List.range'_zero,List.forIn_cons,List.forIn_nil];go_simp
 by_cases h0:x0=0
 · subst h0
   by_cases h1:x1=0
   · subst h1
     by_cases h2:x2=0
     · subst h2
       by_cases h3:x3=0
       · subst h3
         by_cases h4:x4=0
         · subst h4
           by_cases h5:x5=0
           · subst h5
             by_cases h6:x6=0
             · subst h6
               by_cases h7:x7=0
               · subst h7
                 simp
               · simp[h7]
             · simp[h6]
           · simp[h5]
         · simp[h4]
       · simp[h3]
     · simp[h2]
   · simp[h1]
 · simp[h0]
theorem zeroL (x0 x1 x2 x3 x4 x5 x6 x7:Int) (h:Words [x0,x1,x2,x3,x4,x5,x6,x7]):(x0==0&&x1==0&&x2==0&&x3==0&&x4==0&&x5==0&&x6==0&&x7==0)=decide (val64 [x0,x1,x2,x3,x4,x5,x6,x7]=0):=by
 obtain⟨h0,h1,h2,h3,h4,h5,h6,h7⟩:=words8_of h;rw[Bool.eq_iff_iff];simp only[Bool.and_eq_true,beq_iff_eq,decide_eq_true_eq];unfold Word at *;simp only[val64]
 omega
structure Gl (w wr:World) (xs ys:List Int):Prop where
 below:Below w.heap.size w wr
 x:Blk wr w.heap.size (xs.map (Value.int .u64))
 y:Blk wr (w.heap.size+1) (ys.map (Value.int .u64))
 o:Blk wr (w.heap.size+1+1) [.int .u64 0,.int .u64 0,.int .u64 0,.int .u64 0,.int .u64 0,.int .u64 0,.int .u64 0,.int .u64 0]
theorem gcdL_any (xs ys:List Int) (hl:xs.length=8) (hm:ys.length=8) (hx:Words xs) (hy:Words ys) (w:World):Calls Tryz.prog 74 #[agg xs,agg ys] w (AggP 8 (Int.gcd (val64 xs) (val64 ys):Int) w):=by
 obtain⟨G,hG⟩:∃G,Int.gcd (val64 xs) (val64 ys)=G:=⟨_,rfl⟩;rw[hG];have HI:xs.length=8∧ys.length=8∧Words xs∧Words ys∧Int.gcd (val64 xs) (val64 ys)=G:=⟨hl,hm,hx,hy,hG⟩;obtain⟨x0,x1,x2,x3,x4,x5,x6,x7,hxs⟩:=list8' hl;have HA:agg xs=L8 x0 x1 x2 x3 x4 x5 x6 x7:=by rw[hxs];rfl
 have AX:xs.map (Value.int .u64)=[.int .u64 x0,.int .u64 x1,.int .u64 x2,.int .u64 x3,.int .u64 x4,.int .u64 x5,.int .u64 x6,.int .u64 x7]:=by rw[hxs];rfl
 rw[HA];obtain⟨y0,y1,y2,y3,y4,y5,y6,y7,hys⟩:=list8' hm;have HA:agg ys=L8 y0 y1 y2 y3 y4 y5 y6 y7:=by rw[hys];rfl
 have AY:ys.map (Value.int .u64)=[.int .u64 y0,.int .u64 y1,.int .u64 y2,.int .u64 y3,.int .u64 y4,.int .u64 y5,.int .u64 y6,.int .u64 y7]:=by rw[hys];rfl
 rw[HA];have HS:Gl w (((w.alloc (.cells #[.int .u64 x0,.int .u64 x1,.int .u64 x2,.int .u64 x3,.int .u64 x4,.int .u64 x5,.int .u64 x6,.int .u64 x7] 88)).alloc (.cells #[.int .u64 y0,.int .u64 y1,.int .u64 y2,.int .u64 y3,.int .u64 y4,.int .u64 y5,.int .u64 y6,.int .u64 y7] 88)).alloc (.cells #[.int .u64 0,.int .u64 0,.int .u64 0,.int .u64 0,.int .u64 0,.int .u64 0,.int .u64 0,.int .u64 0] 88)) xs ys:=
  ⟨(((Below.refl _ _).alloc (Nat.le_refl _) _).alloc (by simp) _).alloc (by simp;omega) _,by rw[AX];exact((Blk.new w _ _ rfl).alloc _).alloc _,by rw[AY];exact(Blk.new _ [.int .u64 y0,.int .u64 y1,.int .u64 y2,.int .u64 y3,.int .u64 y4,.int .u64 y5,.int .u64 y6,.int .u64 y7] _ (by simp)).alloc _,Blk.new _ [.int .u64 0,.int .u64 0,.int .u64 0,.int .u64 0,.int .u64 0,.int .u64 0,.int .u64 0,.int .u64 0] _ (by simp)⟩
 have HJ:Hid (xs.length=8∧ys.length=8∧Words xs∧Words ys∧Int.gcd (val64 xs) (val64 ys)=G):=HI;clear HI HA AX AY hxs hys hl hm hx hy hG
 go_enter Tryz.func74,Tryz.ntmps74
 go_wp2_with fail;generalize (((w.alloc (.cells #[.int .u64 x0,.int .u64 x1,.int .u64 x2,.int .u64 x3,.int .u64 x4,.int .u64 x5,.int .u64 x6,.int .u64 x7] 88)).alloc (.cells #[.int .u64 y0,.int .u64 y1,.int .u64 y2,.int .u64 y3,.int .u64 y4,.int .u64 y5,.int .u64 y6,.int .u64 y7] 88)).alloc (.cells #[.int .u64 0,.int .u64 0,.int .u64 0,.int .u64 0,.int .u64 0,.int .u64 0,.int .u64 0,.int .u64 0] 88))=W at *
 go_loopg [] (val64 ys).toNat (fun k wr=>∃us vs:List Int,Hid (us.length=8∧vs.length=8∧Words us∧Words vs∧Int.gcd (val64 us) (val64 vs)=G)∧(val64 vs).toNat=k∧Gl w wr us vs)
 case atStart=>exact⟨xs,ys,HJ,rfl,HS⟩
 case round=>
  clear HJ HS;obtain⟨us,vs,HJ,hk,HT⟩:=hrel;obtain⟨ul,vl,uw',vw,hG⟩:=HJ.out;have RY:=blk_row_take HT.y (k:=8) (by omega);rw[List.take_of_length_le (by omega)] at RY;go_wp2_with fail;refine(countWords_any (w.heap.size+1) 0 8 8 vs _ vl RY (by decide)).mono ?_;rintro e w1 ⟨n,rfl,c1,c2,c3,rfl⟩;have hn8:(n:Int)≤8:=by omega
  clear RY hG
  by_cases hn:1<n
  · have V0:0<val64 vs:=by
     obtain⟨m,rfl⟩:∃m,n=m+1:=⟨n-1,by omega⟩;have h1:=c3 m rfl (by omega);have h2:=val64_nonneg vw
     apply Decidable.byContradiction
     intro h3;exact h1 (val64_zero_at vw (by omega) m (by omega))
    have DV:=divideLong_any us vs ul vl uw' vw V0;obtain⟨u0,u1,u2,u3,u4,u5,u6,u7,hus⟩:=list8' ul;obtain⟨v0,v1,v2,v3,v4,v5,v6,v7,hvs⟩:=list8' vl;have UA:agg us=L8 u0 u1 u2 u3 u4 u5 u6 u7:=by rw[hus];rfl
    have VA:agg vs=L8 v0 v1 v2 v3 v4 v5 v6 v7:=by rw[hvs];rfl
    rw[UA,VA] at DV;have VM:Hid (vs.map (Value.int .u64)=[.int .u64 v0,.int .u64 v1,.int .u64 v2,.int .u64 v3,.int .u64 v4,.int .u64 v5,.int .u64 v6,.int .u64 v7]):=by show _=_;rw[hvs];rfl
    have XB:Blk w1 w.heap.size [.int .u64 u0,.int .u64 u1,.int .u64 u2,.int .u64 u3,.int .u64 u4,.int .u64 u5,.int .u64 u6,.int .u64 u7]:=by have:=HT.x;rw[hus] at this;exact this
    have YB:Blk w1 (w.heap.size+1) [.int .u64 v0,.int .u64 v1,.int .u64 v2,.int .u64 v3,.int .u64 v4,.int .u64 v5,.int .u64 v6,.int .u64 v7]:=by have:=HT.y;rw[hvs] at this;exact this
    have OB:=HT.o;have HB:=HT.below;have xc0:=XB.c 0 rfl;have yc0:=YB.c 0 rfl;have xc1:=XB.c 1 rfl;have yc1:=YB.c 1 rfl;have xc2:=XB.c 2 rfl;have yc2:=YB.c 2 rfl;have xc3:=XB.c 3 rfl;have yc3:=YB.c 3 rfl;have xc4:=XB.c 4 rfl;have yc4:=YB.c 4 rfl;have xc5:=XB.c 5 rfl;have yc5:=YB.c 5 rfl;have xc6:=XB.c 6 rfl;have yc6:=YB.c 6 rfl;have xc7:=XB.c 7 rfl;have yc7:=YB.c 7 rfl;clear UA VA hus hvs HT c1 c2 c3;go_wp2_with fail;refine(DV _).mono ?_;rintro e w2 ⟨qs,rs,rfl,ql,rl,qw,rw',qv,rv,hB⟩;replace XB:=XB.step hB;replace YB:=YB.step hB;replace OB:=OB.step hB;replace HB:=HB.trans (hB.mono HB.size);have HN:Hid (vs.length=8∧rs.length=8∧Words vs∧Words rs∧Int.gcd (val64 vs) (val64 rs)=G):=by
     obtain⟨_,_,_,_,hG⟩:=HJ.out;exact⟨vl,rl,vw,rw',by rw[rv,gcd_down (val64_nonneg uw') V0];exact hG⟩
    have hlt:(val64 rs).toNat<gk:=by
     have h1:=Int.emod_lt_of_pos (val64 us) V0;have h2:=val64_nonneg rw'
     omega
    obtain⟨q0,q1,q2,q3,q4,q5,q6,q7,rfl⟩:=list8' ql;obtain⟨r0,r1,r2,r3,r4,r5,r6,r7,rfl⟩:=list8' rl;unfold agg;simp only[List.map_cons,List.map_nil];have xd0:=XB.c 0 rfl;have xf0:=XB.f 0 rfl;have yd0:=YB.c 0 rfl;have yf0:=YB.f 0 rfl;have xd1:=XB.c 1 rfl;have xf1:=XB.f 1 rfl;have yd1:=YB.c 1 rfl;have yf1:=YB.f 1 rfl;have xd2:=XB.c 2 rfl;have xf2:=XB.f 2 rfl;have yd2:=YB.c 2 rfl;have yf2:=YB.f 2 rfl;have xd3:=XB.c 3 rfl;have xf3:=XB.f 3 rfl;have yd3:=YB.c 3 rfl;have yf3:=YB.f 3 rfl;have xd4:=XB.c 4 rfl;have xf4:=XB.f 4 rfl;have yd4:=YB.c 4 rfl;have yf4:=YB.f 4 rfl;have xd5:=XB.c 5 rfl;have xf5:=XB.f 5 rfl;have yd5:=YB.c 5 rfl;have yf5:=YB.f 5 rfl;have xd6:=XB.c 6 rfl;have xf6:=XB.f 6 rfl;have yd6:=YB.c 6 rfl;have yf6:=YB.f 6 rfl;have xd7:=XB.c 7 rfl;have xf7:=XB.f 7 rfl;have yd7:=YB.c 7 rfl;have yf7:=YB.f 7 rfl;have xlt:=XB.lt;have ylt:=YB.lt;clear qv rv ql rl qw rw' hB DV;go_wp2_with fail;have QO:Obj:= .cells #[.int .u64 q0,.int .u64 q1,.int .u64 q2,.int .u64 q3,.int .u64 q4,.int .u64 q5,.int .u64 q6,.int .u64 q7] 88;have RB:Blk ((w2.alloc (.cells #[.int .u64 q0,.int .u64 q1,.int .u64 q2,.int .u64 q3,.int .u64 q4,.int .u64 q5,.int .u64 q6,.int .u64 q7] 88)).alloc (.cells #[.int .u64 r0,.int .u64 r1,.int .u64 r2,.int .u64 r3,.int .u64 r4,.int .u64 r5,.int .u64 r6,.int .u64 r7] 88)) (w2.heap.size+1) [.int .u64 r0,.int .u64 r1,.int .u64 r2,.int .u64 r3,.int .u64 r4,.int .u64 r5,.int .u64 r6,.int .u64 r7]:=Blk.newS w2 _ [.int .u64 r0,.int .u64 r1,.int .u64 r2,.int .u64 r3,.int .u64 r4,.int .u64 r5,.int .u64 r6,.int .u64 r7] 88;replace XB:=(XB.alloc (.cells #[.int .u64 q0,.int .u64 q1,.int .u64 q2,.int .u64 q3,.int .u64 q4,.int .u64 q5,.int .u64 q6,.int .u64 q7] 88)).alloc (.cells #[.int .u64 r0,.int .u64 r1,.int .u64 r2,.int .u64 r3,.int .u64 r4,.int .u64 r5,.int .u64 r6,.int .u64 r7] 88);replace YB:=(YB.alloc (.cells #[.int .u64 q0,.int .u64 q1,.int .u64 q2,.int .u64 q3,.int .u64 q4,.int .u64 q5,.int .u64 q6,.int .u64 q7] 88)).alloc (.cells #[.int .u64 r0,.int .u64 r1,.int .u64 r2,.int .u64 r3,.int .u64 r4,.int .u64 r5,.int .u64 r6,.int .u64 r7] 88);replace OB:=(OB.alloc (.cells #[.int .u64 q0,.int .u64 q1,.int .u64 q2,.int .u64 q3,.int .u64 q4,.int .u64 q5,.int .u64 q6,.int .u64 q7] 88)).alloc (.cells #[.int .u64 r0,.int .u64 r1,.int .u64 r2,.int .u64 r3,.int .u64 r4,.int .u64 r5,.int .u64 r6,.int .u64 r7] 88);replace HB:=(HB.alloc HB.size (.cells #[.int .u64 q0,.int .u64 q1,.int .u64 q2,.int .u64 q3,.int .u64 q4,.int .u64 q5,.int .u64 q6,.int .u64 q7] 88)).alloc (by have:=HB.size;simp;omega) (.cells #[.int .u64 r0,.int .u64 r1,.int .u64 r2,.int .u64 r3,.int .u64 r4,.int .u64 r5,.int .u64 r6,.int .u64 r7] 88);have hn1:w.heap.size≠w2.heap.size+1:=by omega
    have hn2:w.heap.size+1≠w2.heap.size+1:=by omega
    clear xd0 xf0 yd0 yf0 xd1 xf1 yd1 yf1 xd2 xf2 yd2 yf2 xd3 xf3 yd3 yf3 xd4 xf4 yd4 yf4 xd5 xf5 yd5 yf5 xd6 xf6 yd6 yf6 xd7 xf7 yd7 yf7 xc0 yc0 xc1 yc1 xc2 yc2 xc3 yc3 xc4 yc4 xc5 yc5 xc6 yc6 xc7 yc7 xlt ylt QO;generalize (w2.alloc (.cells #[.int .u64 q0,.int .u64 q1,.int .u64 q2,.int .u64 q3,.int .u64 q4,.int .u64 q5,.int .u64 q6,.int .u64 q7] 88)).alloc (.cells #[.int .u64 r0,.int .u64 r1,.int .u64 r2,.int .u64 r3,.int .u64 r4,.int .u64 r5,.int .u64 r6,.int .u64 r7] 88)=W2 at *;generalize w2.heap.size+1=gr at *;have xd0:=XB.c 0 rfl;have xf0:=XB.f 0 rfl;have yd0:=YB.c 0 rfl;have yf0:=YB.f 0 rfl;have rd0:=RB.c 0 rfl;have xd1:=XB.c 1 rfl;have xf1:=XB.f 1 rfl;have yd1:=YB.c 1 rfl;have yf1:=YB.f 1 rfl;have rd1:=RB.c 1 rfl;have xd2:=XB.c 2 rfl;have xf2:=XB.f 2 rfl;have yd2:=YB.c 2 rfl;have yf2:=YB.f 2 rfl;have rd2:=RB.c 2 rfl;have xd3:=XB.c 3 rfl;have xf3:=XB.f 3 rfl;have yd3:=YB.c 3 rfl;have yf3:=YB.f 3 rfl;have rd3:=RB.c 3 rfl;have xd4:=XB.c 4 rfl;have xf4:=XB.f 4 rfl;have yd4:=YB.c 4 rfl;have yf4:=YB.f 4 rfl;have rd4:=RB.c 4 rfl;have xd5:=XB.c 5 rfl;have xf5:=XB.f 5 rfl;have yd5:=YB.c 5 rfl;have yf5:=YB.f 5 rfl;have rd5:=RB.c 5 rfl;have xd6:=XB.c 6 rfl;have xf6:=XB.f 6 rfl;have yd6:=YB.c 6 rfl;have yf6:=YB.f 6 rfl;have rd6:=RB.c 6 rfl;have xd7:=XB.c 7 rfl;have xf7:=XB.f 7 rfl;have yd7:=YB.c 7 rfl;have yf7:=YB.f 7 rfl;have rd7:=RB.c 7 rfl
    go_region
    go_wp2
    go_roundg (val64 [r0,r1,r2,r3,r4,r5,r6,r7]).toNat
    case measure=>exact hlt
    case rel=>
     refine⟨vs,[r0,r1,r2,r3,r4,r5,r6,r7],HN,rfl,?_,?_,?_,?_⟩
     · exact(below_set8 (g:=w.heap.size+1) (by omega) (below_set8 (g:=w.heap.size) (by omega) HB)).drew
     · rw[VM.out];exact((XB.stored8 _ _ _ _ _ _ _ _).set8 (by omega)).drew
     · exact((YB.set8 (by omega)).stored8 _ _ _ _ _ _ _ _).drew
     · exact((OB.set8 (by omega)).set8 (by omega)).drew
  · have V1:val64 vs<18446744073709551616:=by
     have h1:=(val64_few vw n c1 c2).2;have h2:=pw64_mono (a:=n) (b:=1) (by omega);simp only[pw64] at h2
     omega
    have V2:=val64_nonneg vw;obtain⟨u0,u1,u2,u3,u4,u5,u6,u7,hus⟩:=list8' ul;obtain⟨v0,v1,v2,v3,v4,v5,v6,v7,hvs⟩:=list8' vl;have UA:Hid (agg us=L8 u0 u1 u2 u3 u4 u5 u6 u7):=by show _=_;rw[hus];rfl
    have VA:Hid (agg vs=L8 v0 v1 v2 v3 v4 v5 v6 v7):=by show _=_;rw[hvs];rfl
    have XB:Blk w1 w.heap.size [.int .u64 u0,.int .u64 u1,.int .u64 u2,.int .u64 u3,.int .u64 u4,.int .u64 u5,.int .u64 u6,.int .u64 u7]:=by have:=HT.x;rw[hus] at this;exact this
    have YB:Blk w1 (w.heap.size+1) [.int .u64 v0,.int .u64 v1,.int .u64 v2,.int .u64 v3,.int .u64 v4,.int .u64 v5,.int .u64 v6,.int .u64 v7]:=by have:=HT.y;rw[hvs] at this;exact this
    have OB:=HT.o;have HB:=HT.below;have ZW:=zeroL v0 v1 v2 v3 v4 v5 v6 v7 (by rw[←hvs];exact vw);have EZ:=eqLongZ v0 v1 v2 v3 v4 v5 v6 v7;rw[ZW,←hvs] at EZ;have xc0:=XB.c 0 rfl;have yc0:=YB.c 0 rfl;have oc0:=OB.c 0 rfl;have of0:=OB.f 0 rfl;have xc1:=XB.c 1 rfl;have yc1:=YB.c 1 rfl;have oc1:=OB.c 1 rfl;have of1:=OB.f 1 rfl;have xc2:=XB.c 2 rfl;have yc2:=YB.c 2 rfl;have oc2:=OB.c 2 rfl;have of2:=OB.f 2 rfl;have xc3:=XB.c 3 rfl;have yc3:=YB.c 3 rfl;have oc3:=OB.c 3 rfl;have of3:=OB.f 3 rfl;have xc4:=XB.c 4 rfl;have yc4:=YB.c 4 rfl;have oc4:=OB.c 4 rfl;have of4:=OB.f 4 rfl;have xc5:=XB.c 5 rfl;have yc5:=YB.c 5 rfl;have oc5:=OB.c 5 rfl;have of5:=OB.f 5 rfl;have xc6:=XB.c 6 rfl;have yc6:=YB.c 6 rfl;have oc6:=OB.c 6 rfl;have of6:=OB.f 6 rfl;have xc7:=XB.c 7 rfl;have yc7:=YB.c 7 rfl;have oc7:=OB.c 7 rfl;have of7:=OB.f 7 rfl;have olt:=OB.lt
    by_cases hz:val64 vs=0
    · rw[hz] at EZ;simp only[decide_true] at EZ;have HV:Hid (val64 us=(G:Int)):=by
       obtain⟨_,_,_,_,hG⟩:=HJ.out;show _=_;have:=val64_nonneg uw';rw[←hG,hz]
       simp
       omega
      clear ZW hvs c1 c2 c3 HT V1 V2;go_wp2;refine bodyPost_ret (v:=L8 u0 u1 u2 u3 u4 u5 u6 u7) (by simp[results,Tryz.results74,go_sem,oc0,oc1,oc2,oc3,oc4,oc5,oc6,oc7]) rfl ?_;refine⟨us,by rw[UA.out],ul,uw',HV.out,?_⟩;exact below_set8 (g:=w.heap.size+1+1) (by omega) HB
    · have V0:0<val64 vs:=by omega
      simp only[hz,decide_false] at EZ;have DV:=divideLong_any us vs ul vl uw' vw V0;rw[UA.out,VA.out] at DV;have hv0:Hid (v0=val64 vs):=by
       obtain⟨h0,h1,h2,h3,h4,h5,h6,h7⟩:=words8_of (by rw[←hvs];exact vw);show _=_;have:=V1;rw[hvs] at this⊢;unfold Word at *;simp only[val64] at *
       omega
      have wv0:Word v0:=by rw[hv0.out];exact⟨V2,V1⟩
      clear ZW hvs c1 c2 c3 HT;go_wp2_with fail;refine(DV _).mono ?_;rintro e w2 ⟨qs,rs,rfl,ql,rl,qw,rw',qv,rv,hB⟩;replace YB:=YB.step hB;replace OB:=OB.step hB;replace HB:=HB.trans (hB.mono HB.size);clear hB;obtain⟨q0,q1,q2,q3,q4,q5,q6,q7,rfl⟩:=list8' ql;obtain⟨r0,r1,r2,r3,r4,r5,r6,r7,hrs⟩:=list8' rl;have hr0:Hid (r0=val64 us%val64 vs):=by
       obtain⟨h0,h1,h2,h3,h4,h5,h6,h7⟩:=words8_of (by rw[←hrs];exact rw');show _=_;have h8:=Int.emod_lt_of_pos (val64 us) V0;have h9:=Int.emod_nonneg (val64 us) hz;rw[hrs] at rv;rw[←rv] at h8 h9⊢;unfold Word at *;simp only[val64] at *
       omega
      have wr0:Word r0:=by
       rw[hr0.out];exact⟨Int.emod_nonneg _ hz,Int.lt_trans (Int.emod_lt_of_pos _ V0) V1⟩
      have GW:=gcdW_any v0 r0 wv0 wr0;have RA:agg rs= .agg #[.int .u64 r0,.int .u64 r1,.int .u64 r2,.int .u64 r3,.int .u64 r4,.int .u64 r5,.int .u64 r6,.int .u64 r7]:=by rw[hrs];rfl
      rw[RA];have HGV:Hid ((Int.gcd v0 r0:Int)=(G:Int)):=by
       obtain⟨_,_,_,_,hG⟩:=HJ.out;show _=_;rw[hv0.out,hr0.out,gcd_down (val64_nonneg uw') V0,hG]
      clear RA hrs;unfold agg;simp only[List.map_cons,List.map_nil];have ylt:=YB.lt;go_upto_region 7 with fail;have RB:Blk ((w2.alloc (.cells #[.int .u64 q0,.int .u64 q1,.int .u64 q2,.int .u64 q3,.int .u64 q4,.int .u64 q5,.int .u64 q6,.int .u64 q7] 88)).alloc (.cells #[.int .u64 r0,.int .u64 r1,.int .u64 r2,.int .u64 r3,.int .u64 r4,.int .u64 r5,.int .u64 r6,.int .u64 r7] 88)) (w2.heap.size+1) [.int .u64 r0,.int .u64 r1,.int .u64 r2,.int .u64 r3,.int .u64 r4,.int .u64 r5,.int .u64 r6,.int .u64 r7]:=Blk.newS w2 _ [.int .u64 r0,.int .u64 r1,.int .u64 r2,.int .u64 r3,.int .u64 r4,.int .u64 r5,.int .u64 r6,.int .u64 r7] 88;replace YB:=(YB.alloc (.cells #[.int .u64 q0,.int .u64 q1,.int .u64 q2,.int .u64 q3,.int .u64 q4,.int .u64 q5,.int .u64 q6,.int .u64 q7] 88)).alloc (.cells #[.int .u64 r0,.int .u64 r1,.int .u64 r2,.int .u64 r3,.int .u64 r4,.int .u64 r5,.int .u64 r6,.int .u64 r7] 88);replace OB:=(OB.alloc (.cells #[.int .u64 q0,.int .u64 q1,.int .u64 q2,.int .u64 q3,.int .u64 q4,.int .u64 q5,.int .u64 q6,.int .u64 q7] 88)).alloc (.cells #[.int .u64 r0,.int .u64 r1,.int .u64 r2,.int .u64 r3,.int .u64 r4,.int .u64 r5,.int .u64 r6,.int .u64 r7] 88);replace HB:=(HB.alloc HB.size (.cells #[.int .u64 q0,.int .u64 q1,.int .u64 q2,.int .u64 q3,.int .u64 q4,.int .u64 q5,.int .u64 q6,.int .u64 q7] 88)).alloc (by have:=HB.size;simp;omega) (.cells #[.int .u64 r0,.int .u64 r1,.int .u64 r2,.int .u64 r3,.int .u64 r4,.int .u64 r5,.int .u64 r6,.int .u64 r7] 88);clear xc0 yc0 oc0 of0 xc1 yc1 oc1 of1 xc2 yc2 oc2 of2 xc3 yc3 oc3 of3 xc4 yc4 oc4 of4 xc5 yc5 oc5 of5 xc6 yc6 oc6 of6 xc7 yc7 oc7 of7 olt;generalize (w2.alloc (.cells #[.int .u64 q0,.int .u64 q1,.int .u64 q2,.int .u64 q3,.int .u64 q4,.int .u64 q5,.int .u64 q6,.int .u64 q7] 88)).alloc (.cells #[.int .u64 r0,.int .u64 r1,.int .u64 r2,.int .u64 r3,.int .u64 r4,.int .u64 r5,.int .u64 r6,.int .u64 r7] 88)=W2 at *;generalize w2.heap.size+1=gr at *;have yc0:=YB.c 0 rfl;have rd0:=RB.c 0 rfl;go_wp2_with fail;refine(GW _).mono ?_;rintro e w3 ⟨rfl,hB⟩;rw[HGV.out];replace OB:=OB.step hB;replace HB:=HB.trans (hB.mono HB.size);obtain⟨oc0,of0,oc1,of1,oc2,of2,oc3,of3,oc4,of4,oc5,of5,oc6,of6,oc7,of7⟩:=OB.cf8;have olt:=OB.lt;have HGW:Hid (Word (G:Int)):=by
       rw[←HGV.out];have h1:=Int.gcd_le_left r0 (show 0<v0 by rw[hv0.out];exact V0);refine⟨by omega,?_⟩;have:=wv0.2
       omega
      clear hB OB YB RB GW yc0 rd0;go_wp2;refine bodyPost_ret (v:=L8 G 0 0 0 0 0 0 0) (by simp[results,Tryz.results74,go_sem,oc0,oc1,oc2,oc3,oc4,oc5,oc6,oc7]) rfl ?_;refine⟨[(G:Int),0,0,0,0,0,0,0],rfl,rfl,words_cons.2 ⟨HGW.out,words_zero 7⟩,by simp[val64],?_⟩;exact below_set8 (g:=w.heap.size+1+1) (by omega) HB
theorem sl_fill (a3 a2 a1 a0:Int):sl a0 a1 a2 a3 (fillW a3) (fillW a3) (fillW a3) (fillW a3)=sw a3 a2 a1 a0:=by
 unfold sl fillW sw uw;simp only[val64]
 by_cases p:a3<9223372036854775808
 · simp only[if_pos p];rw[if_pos (by decide)]
   omega
 · simp only[if_neg p];rw[if_neg (by decide)]
   omega
theorem words_fill {a3 a2 a1 a0:Int} (h3:Word a3) (h2:Word a2) (h1:Word a1) (h0:Word a0):Words [a0,a1,a2,a3,fillW a3,fillW a3,fillW a3,fillW a3]:=by
 have hf:Word (fillW a3):=by unfold fillW;split<;>exact⟨by decide,by decide⟩
 exact words_cons.2 ⟨h0,words_cons.2 ⟨h1,words_cons.2 ⟨h2,words_cons.2 ⟨h3,words_cons.2 ⟨hf,words_cons.2 ⟨hf,words_cons.2 ⟨hf,words_cons.2 ⟨hf,words_nil⟩⟩⟩⟩⟩⟩⟩⟩
end Go.Proofs.YtbogliojkabbjaaGreat
