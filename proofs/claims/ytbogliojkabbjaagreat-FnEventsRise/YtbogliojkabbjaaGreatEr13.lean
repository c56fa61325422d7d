/- Part 13 of the walks that the proof leans on. -/
import Derived.Test.YtbogliojkabbjaaGreatEr12
import Derived.Test.YtbogliojkabbjaaGreatEr7
import Derived.Test.YtbogliojkabbjaaGreatEr8
set_option maxRecDepth 100000
set_option maxHeartbeats 16000000
namespace Go.Proofs.YtbogliojkabbjaaGreat
open Go.RowKit
theorem share_quot {v V g z:Int} (hV:V=if z<0 then -v else v) (hg:0<g) (hd:g ∣ v):V / g=shareZ v g (decide (z<0)):=by
 obtain⟨a,rfl⟩:=hd;have hd:∀z:Int,(g*z) / g=z:=fun z=>Int.mul_ediv_cancel_left z (by omega);have hn:(((g*a).natAbs:Nat):Int) / g=(a.natAbs:Int):=by
  rw[Int.natAbs_mul,Int.natCast_mul,Int.natAbs_of_nonneg (by omega)];exact hd _
 have hs:g*a<0↔a<0:=by
  constructor
  · intro h
    apply Decidable.byContradiction
    intro h';have:=Int.mul_nonneg (a:=g) (b:=a) (by omega) (by omega)
    omega
  · intro h;exact Int.mul_neg_of_pos_of_neg hg h
 unfold shareZ;rw[hn,hV];simp only[hs]
 by_cases h2:z<0
 · rw[if_pos h2,←Int.mul_neg,hd]
   by_cases h1:a<0<;>simp[h1,h2]<;>omega
 · rw[if_neg h2,hd]
   by_cases h1:a<0<;>simp[h1,h2]<;>omega
theorem low3 {x y z X Y Z:Int} (hX:X=if z<0 then -x else x) (hY:Y=if z<0 then -y else y) (hZ:Z=if z<0 then -z else z) (hz:z≠0):X / (Int.gcd (Int.gcd x y:Int) z:Int)=shareZ x (Int.gcd (Int.gcd x y:Int) z:Int) (decide (z<0))∧Y / (Int.gcd (Int.gcd x y:Int) z:Int)=shareZ y (Int.gcd (Int.gcd x y:Int) z:Int) (decide (z<0))∧Z / (Int.gcd (Int.gcd x y:Int) z:Int)=shareZ z (Int.gcd (Int.gcd x y:Int) z:Int) (decide (z<0))∧(Int.gcd (Int.gcd X Y:Int) Z:Int)=(Int.gcd (Int.gcd x y:Int) z:Int)∧0<(Int.gcd (Int.gcd x y:Int) z:Int):=by
 have g0:0<Int.gcd (Int.gcd x y:Int) z:=Int.gcd_pos_of_ne_zero_right _ hz;have hgp:0<(Int.gcd (Int.gcd x y:Int) z:Int):=by omega
 have dxy:(Int.gcd (Int.gcd x y:Int) z:Int) ∣ (Int.gcd x y:Int):=Int.gcd_dvd_left _ _;refine⟨share_quot hX hgp (Int.dvd_trans dxy (Int.gcd_dvd_left _ _)),share_quot hY hgp (Int.dvd_trans dxy (Int.gcd_dvd_right _ _)),share_quot hZ hgp (Int.gcd_dvd_right _ _),?_,hgp⟩;rw[hX,hY,hZ]
 split
 · simp[Int.gcd]
 · rfl
def CutT3 (w wx:World) (x y z:Int) (k:Nat):Prop:=
 ∃(s1:Bool) (o1:Option Addr) (n1 c1:Nat) (d1:List Int) (s2:Bool) (o2:Option Addr) (n2 c2:Nat) (d2:List Int) (s3:Bool) (o3:Option Addr) (n3 c3:Nat) (d3:List Int),ArgsB w wx [[.bool s1,.slice o1 n1 c1],[.bool s2,.slice o2 n2 c2],[.bool s3,.slice o3 n3 c3],[.bool false,.slice none 0 0,.bool false,.slice none 0 0,.bool false,.slice none 0 0]]∧IsNum wx s1 o1 n1 c1 d1 x k∧IsNum wx s2 o2 n2 c2 d2 y k∧IsNum wx s3 o3 n3 c3 d3 z k
theorem ArgsB.w0 {w W:World} {a0 a1 u0 u1:Value} {b c r:List Value} (h:ArgsB w W [[a0,a1],b,c,r]):ArgsB w ((W.setCell ⟨w.heap.size,0,none⟩ u0).setCell ⟨w.heap.size,1,none⟩ u1) [[u0,u1],b,c,r]:=by
 refine⟨(h.1.setCell (by simp) _).setCell (by simp) _,fun j vs hj=>?_⟩
 match j,hj with
 | 0,hj=>cases hj;exact Blk.stored2 (h.b 0 rfl) _ _
 | 1,hj=>cases hj;exact Blk.set2 (h.b 1 rfl) (by omega)
 | 2,hj=>cases hj;exact Blk.set2 (h.b 2 rfl) (by omega)
 | 3,hj=>cases hj;exact Blk.set2 (h.b 3 rfl) (by omega)
 | j+4,hj=>simp at hj
theorem ArgsB.w1 {w W:World} {a0 a1 u0 u1:Value} {b c r:List Value} (h:ArgsB w W [b,[a0,a1],c,r]):ArgsB w ((W.setCell ⟨w.heap.size+1,0,none⟩ u0).setCell ⟨w.heap.size+1,1,none⟩ u1) [b,[u0,u1],c,r]:=by
 refine⟨(h.1.setCell (by simp) _).setCell (by simp) _,fun j vs hj=>?_⟩
 match j,hj with
 | 0,hj=>cases hj;exact Blk.set2 (h.b 0 rfl) (by omega)
 | 1,hj=>cases hj;exact Blk.stored2 (h.b 1 rfl) _ _
 | 2,hj=>cases hj;exact Blk.set2 (h.b 2 rfl) (by omega)
 | 3,hj=>cases hj;exact Blk.set2 (h.b 3 rfl) (by omega)
 | j+4,hj=>simp at hj
theorem ArgsB.w2 {w W:World} {a0 a1 u0 u1:Value} {b c r:List Value} (h:ArgsB w W [b,c,[a0,a1],r]):ArgsB w ((W.setCell ⟨w.heap.size+1+1,0,none⟩ u0).setCell ⟨w.heap.size+1+1,1,none⟩ u1) [b,c,[u0,u1],r]:=by
 refine⟨(h.1.setCell (by simp;omega) _).setCell (by simp;omega) _,fun j vs hj=>?_⟩
 match j,hj with
 | 0,hj=>cases hj;exact Blk.set2 (h.b 0 rfl) (by omega)
 | 1,hj=>cases hj;exact Blk.set2 (h.b 1 rfl) (by omega)
 | 2,hj=>cases hj;exact Blk.stored2 (h.b 2 rfl) _ _
 | 3,hj=>cases hj;exact Blk.set2 (h.b 3 rfl) (by omega)
 | j+4,hj=>simp at hj
theorem cutT3_up {w W:World} {x y z:Int} {k:Nat} {p q r:Bool} {po qo ro:Option Addr} {p1 p2 q1 q2 r1 r2:Nat} {s1:Bool} {o1:Option Addr} {n1 c1:Nat} {d1:List Int} {s2:Bool} {o2:Option Addr} {n2 c2:Nat} {d2:List Int} {s3:Bool} {o3:Option Addr} {n3 c3:Nat} {d3:List Int} (h:ArgsB w W [[.bool p,.slice po p1 p2],[.bool q,.slice qo q1 q2],[.bool r,.slice ro r1 r2],[.bool false,.slice none 0 0,.bool false,.slice none 0 0,.bool false,.slice none 0 0]]) (N1:IsNum W s1 o1 n1 c1 d1 x k) (N2:IsNum W s2 o2 n2 c2 d2 y k) (N3:IsNum W s3 o3 n3 c3 d3 z k) :
 CutT3 w ((((((W.setCell ⟨w.heap.size,0,none⟩ (.bool s1)).setCell ⟨w.heap.size,1,none⟩ (.slice o1 n1 c1)).setCell ⟨w.heap.size+1,0,none⟩ (.bool s2)).setCell ⟨w.heap.size+1,1,none⟩ (.slice o2 n2 c2)).setCell ⟨w.heap.size+1+1,0,none⟩ (.bool s3)).setCell ⟨w.heap.size+1+1,1,none⟩ (.slice o3 n3 c3)) x y z k:=by
 have A0:Blk W w.heap.size _:=h.b 0 rfl;have A1:Blk ((W.setCell ⟨w.heap.size,0,none⟩ (.bool s1)).setCell ⟨w.heap.size,1,none⟩ (.slice o1 n1 c1)) (w.heap.size+1) _:=(h.w0 (u0:= .bool s1) (u1:= .slice o1 n1 c1)).b 1 rfl;have A2:Blk ((((W.setCell ⟨w.heap.size,0,none⟩ (.bool s1)).setCell ⟨w.heap.size,1,none⟩ (.slice o1 n1 c1)).setCell ⟨w.heap.size+1,0,none⟩ (.bool s2)).setCell ⟨w.heap.size+1,1,none⟩ (.slice o2 n2 c2)) (w.heap.size+1+1) _:=(h.w0 (u0:= .bool s1) (u1:= .slice o1 n1 c1)).w1.b 2 rfl;exact⟨s1,o1,n1,c1,d1,s2,o2,n2,c2,d2,s3,o3,n3,c3,d3,h.w0.w1.w2,num_put (num_put (num_put N1 A0 _ _) A1 _ _) A2 _ _,num_put (num_put (num_put N2 A0 _ _) A1 _ _) A2 _ _,num_put (num_put (num_put N3 A0 _ _) A1 _ _) A2 _ _⟩
theorem m3_cells {s4:Bool} {o4:Option Addr} {n4 c4:Nat} {s5:Bool} {o5:Option Addr} {n5 c5:Nat} {s6:Bool} {o6:Option Addr} {n6 c6:Nat} {w W:World} (h:ArgsB w W [[.bool s4,.slice o4 n4 c4],[.bool s5,.slice o5 n5 c5],[.bool s6,.slice o6 n6 c6],[.bool false,.slice none 0 0,.bool false,.slice none 0 0,.bool false,.slice none 0 0]]):(fun w' =>w'.cell? ⟨w.heap.size,0,none⟩=some (.bool s4)∧w'.cell? ⟨w.heap.size,1,none⟩=some (.slice o4 n4 c4)∧w'.cell? ⟨w.heap.size+1,0,none⟩=some (.bool s5)∧w'.cell? ⟨w.heap.size+1,1,none⟩=some (.slice o5 n5 c5)∧w'.cell? ⟨w.heap.size+2,0,none⟩=some (.bool s6)∧w'.cell? ⟨w.heap.size+2,1,none⟩=some (.slice o6 n6 c6)) W:=⟨(h.b 0 rfl).c 0 rfl,(h.b 0 rfl).c 1 rfl,(h.b 1 rfl).c 0 rfl,(h.b 1 rfl).c 1 rfl,(h.b 2 rfl).c 0 rfl,(h.b 2 rfl).c 1 rfl⟩
theorem l3Make_any (s1:Bool) (o1:Option Addr) (n1 c1:Nat) (d1:List Int) (s2:Bool) (o2:Option Addr) (n2 c2:Nat) (d2:List Int) (s3:Bool) (o3:Option Addr) (n3 c3:Nat) (d3:List Int) (x y z:Int) (k:Nat) (hk:2≤k) (hk2:k≤8000) (w:World) (N1:IsNum w s1 o1 n1 c1 d1 x k) (N2:IsNum w s2 o2 n2 c2 d2 y k) (N3:IsNum w s3 o3 n3 c3 d3 z k) (hz:z≠0) :
 Calls Tryz.prog 66 #[.agg #[.bool s1,.slice o1 n1 c1],.agg #[.bool s2,.slice o2 n2 c2],.agg #[.bool s3,.slice o3 n3 c3]] w (L3P (k+3) (shareZ x (Int.gcd (Int.gcd x y:Int) z:Int) (decide (z<0))) (shareZ y (Int.gcd (Int.gcd x y:Int) z:Int) (decide (z<0))) (shareZ z (Int.gcd (Int.gcd x y:Int) z:Int) (decide (z<0))) w):=by
 have T0:ArgsB w ((((w.alloc (.cells #[.bool s1,.slice o1 n1 c1] 64)).alloc (.cells #[.bool s2,.slice o2 n2 c2] 64)).alloc (.cells #[.bool s3,.slice o3 n3 c3] 64)).alloc (.cells #[.bool false,.slice none 0 0,.bool false,.slice none 0 0,.bool false,.slice none 0 0] 66)) [[.bool s1,.slice o1 n1 c1],[.bool s2,.slice o2 n2 c2],[.bool s3,.slice o3 n3 c3],[.bool false,.slice none 0 0,.bool false,.slice none 0 0,.bool false,.slice none 0 0]]:=ar4 _ _ _ _ _ _ _ _ w;replace N1:=N1.step T0.below;replace N2:=N2.step T0.below;replace N3:=N3.step T0.below;obtain⟨X,hX⟩:∃X,X=if z<0 then -x else x:=⟨_,rfl⟩;obtain⟨Y,hY⟩:∃Y,Y=if z<0 then -y else y:=⟨_,rfl⟩;obtain⟨Z,hZ⟩:∃Z,Z=if z<0 then -z else z:=⟨_,rfl⟩;obtain⟨e1,e2,e3,e4,e5⟩:=low3 hX hY hZ hz
 go_enter Tryz.func66,Tryz.ntmps66
 go_upto_region 1 with fail;generalize ((((w.alloc (.cells #[.bool s1,.slice o1 n1 c1] 64)).alloc (.cells #[.bool s2,.slice o2 n2 c2] 64)).alloc (.cells #[.bool s3,.slice o3 n3 c3] 64)).alloc (.cells #[.bool false,.slice none 0 0,.bool false,.slice none 0 0,.bool false,.slice none 0 0] 66))=W at *
 go_cut [9] (fun p wx=>p= .bool (decide (z<0))∧wx=W)
 case first=>
  have HN:Hid (s3=decide (z<0)):=N3.neg;have aB:Blk _ (w.heap.size) _:=T0.b 0 rfl;obtain⟨a0c,a0f,a1c,a1f⟩:=aB.cf2;have alt:=aB.lt;clear aB;have bB:Blk _ (w.heap.size+1) _:=T0.b 1 rfl;obtain⟨b0c,b0f,b1c,b1f⟩:=bB.cf2;have blt:=bB.lt;clear bB;have eB:Blk _ (w.heap.size+1+1) _:=T0.b 2 rfl;obtain⟨e0c,e0f,e1c,e1f⟩:=eB.cf2;have elt:=eB.lt;clear eB;go_wp2_with fail;go_meet
  case rel=>exact⟨by rw[HN.out],rfl⟩
 case rest=>
  obtain⟨rfl,rfl⟩:=hcut
  rename_i hk'
  refine hk' _ _ ?_
  go_cut [] (fun wx=>CutT3 w wx X Y Z k)
  case first=>
   by_cases hn:z<0
   · obtain rfl:s3=true:=by rw[N3.neg];simpa using hn
     rw[if_pos hn] at hX hY hZ;rw[decide_eq_true hn];have aB:Blk _ (w.heap.size) _:=T0.b 0 rfl;obtain⟨a0c,a0f,a1c,a1f⟩:=aB.cf2;have alt:=aB.lt;clear aB;have bB:Blk _ (w.heap.size+1) _:=T0.b 1 rfl;obtain⟨b0c,b0f,b1c,b1f⟩:=bB.cf2;have blt:=bB.lt;clear bB;have eB:Blk _ (w.heap.size+1+1) _:=T0.b 2 rfl;obtain⟨e0c,e0f,e1c,e1f⟩:=eB.cf2;have elt:=eB.lt;clear eB;have tok1:True:=trivial;have tok2:True:=trivial;replace T0:=T0.drew;replace N1:=N1.drew;replace N2:=N2.drew;replace N3:=N3.drew;go_wp2_with fail
     go_region_with ((first
      | (go_at_call 85;have _t:=tok1;refine(neg_any s1 o1 n1 c1 d1 x k _ N1).mono ?_;rintro e w1 ⟨s4,o4,n4,c4,d4,rfl,N4,hB⟩;replace T0:=T0.step hB;replace N2:=N2.step hB;replace N3:=N3.step hB;clear hB tok1 _t a0c a0f a1c a1f alt b0c b0f b1c b1f blt e0c e0f e1c e1f elt;have aB:Blk _ (w.heap.size) _:=T0.b 0 rfl;obtain⟨a0c,a0f,a1c,a1f⟩:=aB.cf2;have alt:=aB.lt;clear aB;have bB:Blk _ (w.heap.size+1) _:=T0.b 1 rfl;obtain⟨b0c,b0f,b1c,b1f⟩:=bB.cf2;have blt:=bB.lt;clear bB;have eB:Blk _ (w.heap.size+1+1) _:=T0.b 2 rfl;obtain⟨e0c,e0f,e1c,e1f⟩:=eB.cf2;have elt:=eB.lt;clear eB)
      | (go_at_call 85;have _t:=tok2;refine(neg_any s2 o2 n2 c2 d2 y k _ N2).mono ?_;rintro e w2 ⟨s5,o5,n5,c5,d5,rfl,N5,hB⟩;replace T0:=T0.step hB;replace N4:=N4.step hB;replace N3:=N3.step hB;clear hB tok2 _t a0c a0f a1c a1f alt b0c b0f b1c b1f blt e0c e0f e1c e1f elt;have aB:Blk _ (w.heap.size) _:=T0.b 0 rfl;obtain⟨a0c,a0f,a1c,a1f⟩:=aB.cf2;have alt:=aB.lt;clear aB;have bB:Blk _ (w.heap.size+1) _:=T0.b 1 rfl;obtain⟨b0c,b0f,b1c,b1f⟩:=bB.cf2;have blt:=bB.lt;clear bB;have eB:Blk _ (w.heap.size+1+1) _:=T0.b 2 rfl;obtain⟨e0c,e0f,e1c,e1f⟩:=eB.cf2;have elt:=eB.lt;clear eB)
      | (go_at_call 85;refine(neg_any true o3 n3 c3 d3 z k _ N3).mono ?_;rintro e w3 ⟨s6,o6,n6,c6,d6,rfl,N6,hB⟩;replace T0:=T0.step hB;replace N4:=N4.step hB;replace N5:=N5.step hB;clear hB a0c a0f a1c a1f alt b0c b0f b1c b1f blt e0c e0f e1c e1f elt;have aB:Blk _ (w.heap.size) _:=T0.b 0 rfl;obtain⟨a0c,a0f,a1c,a1f⟩:=aB.cf2;have alt:=aB.lt;clear aB;have bB:Blk _ (w.heap.size+1) _:=T0.b 1 rfl;obtain⟨b0c,b0f,b1c,b1f⟩:=bB.cf2;have blt:=bB.lt;clear bB;have eB:Blk _ (w.heap.size+1+1) _:=T0.b 2 rfl;obtain⟨e0c,e0f,e1c,e1f⟩:=eB.cf2;have elt:=eB.lt;clear eB)))
     all_goals go_wp2_with fail
     all_goals go_meet
     all_goals rw[←hX] at N4
     all_goals rw[←hY] at N5
     all_goals rw[←hZ] at N6
     all_goals first | exact cutT3_up T0 N4 N5 N6 | exact(cutT3_up T0 N4 N5 N6).drew
   · obtain rfl:s3=false:=by rw[N3.neg];simpa using hn
     rw[if_neg hn] at hX hY hZ;rw[decide_eq_false hn];subst hX hY hZ;have aB:Blk _ (w.heap.size) _:=T0.b 0 rfl;obtain⟨a0c,a0f,a1c,a1f⟩:=aB.cf2;have alt:=aB.lt;clear aB;have bB:Blk _ (w.heap.size+1) _:=T0.b 1 rfl;obtain⟨b0c,b0f,b1c,b1f⟩:=bB.cf2;have blt:=bB.lt;clear bB;have eB:Blk _ (w.heap.size+1+1) _:=T0.b 2 rfl;obtain⟨e0c,e0f,e1c,e1f⟩:=eB.cf2;have elt:=eB.lt;clear eB;go_wp2_with fail;go_meet
     case rel=>exact⟨s1,o1,n1,c1,d1,s2,o2,n2,c2,d2,false,o3,n3,c3,d3,T0,N1,N2,N3⟩
  case rest=>
   clear T0 N1 N2 N3 hk';obtain⟨s4,o4,n4,c4,d4,s5,o5,n5,c5,d5,s6,o6,n6,c6,d6,T0,N1,N2,N3⟩:=hcut;have tok1:True:=trivial;have hl0:=(T0.b 3 rfl).lt;go_upto_region 3 with fail
   go_cut [7] (fun p wx=>CutN w wx [[.bool s4,.slice o4 n4 c4],[.bool s5,.slice o5 n5 c5],[.bool s6,.slice o6 n6 c6],[.bool false,.slice none 0 0,.bool false,.slice none 0 0,.bool false,.slice none 0 0]] (Int.gcd (Int.gcd x y:Int) z:Int) k (w.heap.size+4) p∧IsNum wx s4 o4 n4 c4 d4 X k∧IsNum wx s5 o5 n5 c5 d5 Y k∧IsNum wx s6 o6 n6 c6 d6 Z k)
   case first=>
    go_region_held3 (fun w' =>w'.cell? ⟨w.heap.size,0,none⟩=some (.bool s4)∧w'.cell? ⟨w.heap.size,1,none⟩=some (.slice o4 n4 c4)∧w'.cell? ⟨w.heap.size+1,0,none⟩=some (.bool s5)∧w'.cell? ⟨w.heap.size+1,1,none⟩=some (.slice o5 n5 c5)∧w'.cell? ⟨w.heap.size+2,0,none⟩=some (.bool s6)∧w'.cell? ⟨w.heap.size+2,1,none⟩=some (.slice o6 n6 c6)) ((refine m3_cells ?_<;>repeat (first | (with_reducible exact T0) | (with_reducible refine ArgsB.drew ?_) | (with_reducible refine ArgsB.alloc ?_ _) | (with_reducible refine ArgsB.set2g ?_ (by simp;omega) _ _))))
     (first
      | (go_at_call 57;have _t:=tok1;refine(gcd_any s4 s5 o4 o5 n4 n5 c4 c5 k d4 d5 _ _ _ (by with_reducible first | exact N1 | exact N1.drew | exact N1.alloc _ | exact(N1.alloc _).drew) (by with_reducible first | exact N2 | exact N2.drew | exact N2.alloc _ | exact(N2.alloc _).drew) (by omega)).mono ?_;rintro e k1 ⟨s7,o7,n7,c7,d7,rfl,N7,hB⟩;(first | (have T1:ArgsB w k1 _:=(by with_reducible exact T0.step hB);have tltk1:=(T0.b 3 rfl).lt;replace N1:=N1.below hB;replace N2:=N2.below hB;replace N3:=N3.below hB;(try (replace G0:=G0.step hB;obtain⟨j0c,j0f,j1c,j1f⟩:=G0.cf2;have jlt:=G0.lt))) | (have T1:ArgsB w k1 _:=(by with_reducible exact T0.drew.step hB);have tltk1:=(T0.b 3 rfl).lt;replace N1:=N1.drew.below hB;replace N2:=N2.drew.below hB;replace N3:=N3.drew.below hB;(try (replace G0:=G0.drew.step hB;obtain⟨j0c,j0f,j1c,j1f⟩:=G0.cf2;have jlt:=G0.lt))) | (have T1:ArgsB w k1 _:=(by with_reducible exact(T0.alloc _).step hB);have tltk1:=(T0.b 3 rfl).lt;replace N1:=(N1.alloc _).below hB;replace N2:=(N2.alloc _).below hB;replace N3:=(N3.alloc _).below hB;(have G0:=(Blk.new _ [.bool false,.slice none 0 0] _ rfl).step hB;obtain⟨j0c,j0f,j1c,j1f⟩:=G0.cf2;have jlt:=G0.lt)) | (have T1:ArgsB w k1 _:=(by with_reducible exact(T0.alloc _).drew.step hB);have tltk1:=(T0.b 3 rfl).lt;replace N1:=(N1.alloc _).drew.below hB;replace N2:=(N2.alloc _).drew.below hB;replace N3:=(N3.alloc _).drew.below hB;(have G0:=(Blk.new _ [.bool false,.slice none 0 0] _ rfl).drew.step hB;obtain⟨j0c,j0f,j1c,j1f⟩:=G0.cf2;have jlt:=G0.lt)));clear T0;have T0:=T1;clear T1;clear hB tok1 _t)
      | (go_at_call 57;refine(gcd_any s7 s6 o7 o6 n7 n6 c7 c6 k d7 d6 _ _ _ (by with_reducible first | exact N7 | exact N7.drew | exact N7.alloc _ | exact(N7.alloc _).drew) (by with_reducible first | exact N3 | exact N3.drew | exact N3.alloc _ | exact(N3.alloc _).drew) (by omega)).mono ?_;rintro e k2 ⟨s8,o8,n8,c8,d8,rfl,N8,hB⟩;(first | (have T1:ArgsB w k2 _:=(by with_reducible exact T0.step hB);have tltk2:=(T0.b 3 rfl).lt;replace N1:=N1.below hB;replace N2:=N2.below hB;replace N3:=N3.below hB;(try (replace G0:=G0.step hB;obtain⟨j0c,j0f,j1c,j1f⟩:=G0.cf2;have jlt:=G0.lt))) | (have T1:ArgsB w k2 _:=(by with_reducible exact T0.drew.step hB);have tltk2:=(T0.b 3 rfl).lt;replace N1:=N1.drew.below hB;replace N2:=N2.drew.below hB;replace N3:=N3.drew.below hB;(try (replace G0:=G0.drew.step hB;obtain⟨j0c,j0f,j1c,j1f⟩:=G0.cf2;have jlt:=G0.lt))) | (have T1:ArgsB w k2 _:=(by with_reducible exact(T0.alloc _).step hB);have tltk2:=(T0.b 3 rfl).lt;replace N1:=(N1.alloc _).below hB;replace N2:=(N2.alloc _).below hB;replace N3:=(N3.alloc _).below hB;(have G0:=(Blk.new _ [.bool false,.slice none 0 0] _ rfl).step hB;obtain⟨j0c,j0f,j1c,j1f⟩:=G0.cf2;have jlt:=G0.lt)) | (have T1:ArgsB w k2 _:=(by with_reducible exact(T0.alloc _).drew.step hB);have tltk2:=(T0.b 3 rfl).lt;replace N1:=(N1.alloc _).drew.below hB;replace N2:=(N2.alloc _).drew.below hB;replace N3:=(N3.alloc _).drew.below hB;(have G0:=(Blk.new _ [.bool false,.slice none 0 0] _ rfl).drew.step hB;obtain⟨j0c,j0f,j1c,j1f⟩:=G0.cf2;have jlt:=G0.lt)));clear T0;have T0:=T1;clear T1;clear hB;rw[e4] at N8))
    all_goals go_wp2_with fail
    all_goals go_meet
    all_goals have hl:=(T0.b 3 rfl).lt
    all_goals first | (with_reducible exact⟨cutN_new T0 N8 (by omega),N1.alloc _,N2.alloc _,N3.alloc _⟩) | (with_reducible exact⟨cutN_set T0 N8 G0 (by omega) (by simp;omega),N1.set2 G0 _ _,N2.set2 G0 _ _,N3.set2 G0 _ _⟩)
   case rest=>
    clear T0 N1 N2 N3 hl0 tok1;obtain⟨⟨gb,s7,o7,n7,c7,d7,hp,hgb,GB,N7,T0⟩,N1,N2,N3⟩:=hcut;subst hp;go_upto_region 4 with fail;obtain⟨q,hq⟩:∃q,cmpI (Int.gcd (Int.gcd x y:Int) z:Int) 1=q:=⟨_,rfl⟩
    go_cut [24] (fun p wx=>p= .bool (!(q==0))∧ArgsB w wx [[.bool s4,.slice o4 n4 c4],[.bool s5,.slice o5 n5 c5],[.bool s6,.slice o6 n6 c6],[.bool false,.slice none 0 0,.bool false,.slice none 0 0,.bool false,.slice none 0 0]]∧Blk wx gb [.bool s7,.slice o7 n7 c7]∧IsNum wx s4 o4 n4 c4 d4 X k∧IsNum wx s5 o5 n5 c5 d5 Y k∧IsNum wx s6 o6 n6 c6 d6 Z k∧IsNum wx s7 o7 n7 c7 d7 (Int.gcd (Int.gcd x y:Int) z:Int) k)
    case first=>
     replace N7:=N7.drew;replace N1:=N1.drew;replace N2:=N2.drew;replace N3:=N3.drew;replace T0:=T0.drew
     go_region_held3 (fun w' =>w'.cell? ⟨gb,0,none⟩=some (.bool s7)∧w'.cell? ⟨gb,1,none⟩=some (.slice o7 n7 c7)) ((refine mk_cells ?_<;>repeat (first | (with_reducible exact GB) | (with_reducible refine Blk.drew ?_))))
      (first
       | (go_at_call 58;refine(int_any 1 _ (by decide) (by decide)).mono ?_;rintro e w4 ⟨s9,o9,n9,c9,d9,rfl,N9,hB⟩;replace GB:=GB.drew.step hB;replace T0:=T0.step hB;replace N1:=N1.step hB;replace N2:=N2.step hB;replace N3:=N3.step hB;replace N7:=N7.step hB;clear hB)
       | (go_at_call 56;refine(cmp_any s7 s9 o7 o9 n7 n9 c7 c9 k d7 d9 _ _ _ N7 (num_more N9 hk) (by omega)).mono ?_;rintro e w5 ⟨rfl,hB⟩;rw[hq];replace GB:=GB.step hB;replace T0:=T0.step hB;replace N1:=N1.step hB;replace N2:=N2.step hB;replace N3:=N3.step hB;replace N7:=N7.step hB;clear hB))
     all_goals go_wp2_with fail
     all_goals go_meet
     all_goals exact⟨rfl,T0,GB,N1,N2,N3,N7⟩
    case rest=>
     clear T0 N1 N2 N3 N7 GB;obtain⟨rfl,T0,GB,N1,N2,N3,N7⟩:=hcut
     rename_i hk'
     refine hk' _ _ ?_;have hlb:=GB.lt
     go_cut [] (fun wx=>CutT3 w wx (shareZ x (Int.gcd (Int.gcd x y:Int) z:Int) (decide (z<0))) (shareZ y (Int.gcd (Int.gcd x y:Int) z:Int) (decide (z<0))) (shareZ z (Int.gcd (Int.gcd x y:Int) z:Int) (decide (z<0))) (k+3))
     case first=>
      by_cases h1:(Int.gcd (Int.gcd x y:Int) z:Int)=1
      · obtain rfl:q=0:=by rw[←hq,h1];decide
        have f1:X=shareZ x (Int.gcd (Int.gcd x y:Int) z:Int) (decide (z<0)):=by rw[←e1,h1,Int.ediv_one]
        have f2:Y=shareZ y (Int.gcd (Int.gcd x y:Int) z:Int) (decide (z<0)):=by rw[←e2,h1,Int.ediv_one]
        have f3:Z=shareZ z (Int.gcd (Int.gcd x y:Int) z:Int) (decide (z<0)):=by rw[←e3,h1,Int.ediv_one]
        rw[f1] at N1;rw[f2] at N2;rw[f3] at N3;go_wp2_with fail;go_meet
        case rel=>exact⟨s4,o4,n4,c4,d4,s5,o5,n5,c5,d5,s6,o6,n6,c6,d6,T0,num_more N1 (by omega),num_more N2 (by omega),num_more N3 (by omega)⟩
      · have hq1:(!(q==0))=true:=by
         have h3:q≠0:=by
          rw[←hq,cmpI_gt (by omega)]
          decide
         simp[h3]
        rw[hq1];have aB:Blk _ (w.heap.size) _:=T0.b 0 rfl;obtain⟨a0c,a0f,a1c,a1f⟩:=aB.cf2;have alt:=aB.lt;clear aB;have bB:Blk _ (w.heap.size+1) _:=T0.b 1 rfl;obtain⟨b0c,b0f,b1c,b1f⟩:=bB.cf2;have blt:=bB.lt;clear bB;have eB:Blk _ (w.heap.size+1+1) _:=T0.b 2 rfl;obtain⟨e0c,e0f,e1c,e1f⟩:=eB.cf2;have elt:=eB.lt;clear eB;obtain⟨g0c,g1c⟩:=GB.cs2;go_wp2_with fail;refine(div_any s4 s7 o4 o7 n4 n7 c4 c7 k d4 d7 _ _ _ N1 N7 (by omega) (by omega)).mono ?_;rintro e u0 ⟨s10,o10,n10,c10,d10,sr0,or0,nr0,cr0,dr0,rfl,M0,-,hB⟩;rw[e1] at M0;replace T0:=T0.step hB;replace GB:=GB.step hB;replace N7:=N7.step hB;replace N2:=N2.step hB;replace N3:=N3.step hB;clear hB g0c g1c N1 a0c a0f a1c a1f alt b0c b0f b1c b1f blt e0c e0f e1c e1f elt;have aB:Blk _ (w.heap.size) _:=T0.b 0 rfl;obtain⟨a0c,a0f,a1c,a1f⟩:=aB.cf2;have alt:=aB.lt;clear aB;have bB:Blk _ (w.heap.size+1) _:=T0.b 1 rfl;obtain⟨b0c,b0f,b1c,b1f⟩:=bB.cf2;have blt:=bB.lt;clear bB;have eB:Blk _ (w.heap.size+1+1) _:=T0.b 2 rfl;obtain⟨e0c,e0f,e1c,e1f⟩:=eB.cf2;have elt:=eB.lt;clear eB;go_upto_region 6 with fail;clear a0c a0f a1c a1f alt b0c b0f b1c b1f blt e0c e0f e1c e1f elt;have RB:Blk u0 (w.heap.size) _:=T0.b 0 rfl;replace M0:=num_put M0 RB (.bool s10) (.slice o10 n10 c10);replace N2:=num_put N2 RB (.bool s10) (.slice o10 n10 c10);replace N3:=num_put N3 RB (.bool s10) (.slice o10 n10 c10);replace N7:=num_put N7 RB (.bool s10) (.slice o10 n10 c10);replace GB:=GB.set2 (g:=w.heap.size) (v0:= .bool s10) (v1:= .slice o10 n10 c10) (by omega);replace T0:=T0.w0 (u0:= .bool s10) (u1:= .slice o10 n10 c10);clear RB;generalize ((u0.setCell ⟨w.heap.size,0,none⟩ (.bool s10)).setCell ⟨w.heap.size,1,none⟩ (.slice o10 n10 c10))=U0 at *;have aB:Blk _ (w.heap.size) _:=T0.b 0 rfl;obtain⟨a0c,a0f,a1c,a1f⟩:=aB.cf2;have alt:=aB.lt;clear aB;have bB:Blk _ (w.heap.size+1) _:=T0.b 1 rfl;obtain⟨b0c,b0f,b1c,b1f⟩:=bB.cf2;have blt:=bB.lt;clear bB;have eB:Blk _ (w.heap.size+1+1) _:=T0.b 2 rfl;obtain⟨e0c,e0f,e1c,e1f⟩:=eB.cf2;have elt:=eB.lt;clear eB;obtain⟨g0c,g1c⟩:=GB.cs2;go_wp2_with fail;refine(div_any s5 s7 o5 o7 n5 n7 c5 c7 k d5 d7 _ _ _ N2 N7 (by omega) (by omega)).mono ?_;rintro e u1 ⟨s11,o11,n11,c11,d11,sr1,or1,nr1,cr1,dr1,rfl,M1,-,hB⟩;rw[e2] at M1;replace T0:=T0.step hB;replace GB:=GB.step hB;replace N7:=N7.step hB;replace M0:=M0.step hB;replace N3:=N3.step hB;clear hB g0c g1c N2 a0c a0f a1c a1f alt b0c b0f b1c b1f blt e0c e0f e1c e1f elt;have aB:Blk _ (w.heap.size) _:=T0.b 0 rfl;obtain⟨a0c,a0f,a1c,a1f⟩:=aB.cf2;have alt:=aB.lt;clear aB;have bB:Blk _ (w.heap.size+1) _:=T0.b 1 rfl;obtain⟨b0c,b0f,b1c,b1f⟩:=bB.cf2;have blt:=bB.lt;clear bB;have eB:Blk _ (w.heap.size+1+1) _:=T0.b 2 rfl;obtain⟨e0c,e0f,e1c,e1f⟩:=eB.cf2;have elt:=eB.lt;clear eB;go_upto_region 7 with fail;clear a0c a0f a1c a1f alt b0c b0f b1c b1f blt e0c e0f e1c e1f elt;have RB:Blk u1 (w.heap.size+1) _:=T0.b 1 rfl;replace M0:=num_put M0 RB (.bool s11) (.slice o11 n11 c11);replace M1:=num_put M1 RB (.bool s11) (.slice o11 n11 c11);replace N3:=num_put N3 RB (.bool s11) (.slice o11 n11 c11);replace N7:=num_put N7 RB (.bool s11) (.slice o11 n11 c11);replace GB:=GB.set2 (g:=w.heap.size+1) (v0:= .bool s11) (v1:= .slice o11 n11 c11) (by omega);replace T0:=T0.w1 (u0:= .bool s11) (u1:= .slice o11 n11 c11);clear RB;generalize ((u1.setCell ⟨w.heap.size+1,0,none⟩ (.bool s11)).setCell ⟨w.heap.size+1,1,none⟩ (.slice o11 n11 c11))=U1 at *;have aB:Blk _ (w.heap.size) _:=T0.b 0 rfl;obtain⟨a0c,a0f,a1c,a1f⟩:=aB.cf2;have alt:=aB.lt;clear aB;have bB:Blk _ (w.heap.size+1) _:=T0.b 1 rfl;obtain⟨b0c,b0f,b1c,b1f⟩:=bB.cf2;have blt:=bB.lt;clear bB;have eB:Blk _ (w.heap.size+1+1) _:=T0.b 2 rfl;obtain⟨e0c,e0f,e1c,e1f⟩:=eB.cf2;have elt:=eB.lt;clear eB;obtain⟨g0c,g1c⟩:=GB.cs2;go_wp2_with fail;refine(div_any s6 s7 o6 o7 n6 n7 c6 c7 k d6 d7 _ _ _ N3 N7 (by omega) (by omega)).mono ?_;rintro e u2 ⟨s12,o12,n12,c12,d12,sr2,or2,nr2,cr2,dr2,rfl,M2,-,hB⟩;rw[e3] at M2;replace T0:=T0.step hB;replace GB:=GB.step hB;replace N7:=N7.step hB;replace M0:=M0.step hB;replace M1:=M1.step hB;clear hB g0c g1c N3 a0c a0f a1c a1f alt b0c b0f b1c b1f blt e0c e0f e1c e1f elt;have aB:Blk _ (w.heap.size) _:=T0.b 0 rfl;obtain⟨a0c,a0f,a1c,a1f⟩:=aB.cf2;have alt:=aB.lt;clear aB;have bB:Blk _ (w.heap.size+1) _:=T0.b 1 rfl;obtain⟨b0c,b0f,b1c,b1f⟩:=bB.cf2;have blt:=bB.lt;clear bB;have eB:Blk _ (w.heap.size+1+1) _:=T0.b 2 rfl;obtain⟨e0c,e0f,e1c,e1f⟩:=eB.cf2;have elt:=eB.lt;clear eB;clear a0c a0f a1c a1f alt b0c b0f b1c b1f blt e0c e0f e1c e1f elt;have RB:Blk u2 (w.heap.size+1+1) _:=T0.b 2 rfl;obtain⟨r0c,r0f,r1c,r1f⟩:=RB.cf2;have rlt:=RB.lt;have M3:=num_put M0 RB (.bool s12) (.slice o12 n12 c12);have M4:=num_put M1 RB (.bool s12) (.slice o12 n12 c12);have M5:=num_put M2 RB (.bool s12) (.slice o12 n12 c12);have T1:=T0.w2 (u0:= .bool s12) (u1:= .slice o12 n12 c12);clear M0 M1 M2 T0 RB GB N7;go_wp2_with fail;go_meet
        case rel=>exact⟨s10,o10,n10,c10,d10,s11,o11,n11,c11,d11,s12,o12,n12,c12,d12,T1,M3,M4,M5⟩
     case rest=>
      clear T0 N1 N2 N3 N7 GB hk' hlb;obtain⟨s10,o10,n10,c10,d10,s11,o11,n11,c11,d11,s12,o12,n12,c12,d12,T0,N1,N2,N3⟩:=hcut;have aB:Blk _ (w.heap.size) _:=T0.b 0 rfl;obtain⟨a0c,a0f,a1c,a1f⟩:=aB.cf2;have alt:=aB.lt;clear aB;have bB:Blk _ (w.heap.size+1) _:=T0.b 1 rfl;obtain⟨b0c,b0f,b1c,b1f⟩:=bB.cf2;have blt:=bB.lt;clear bB;have eB:Blk _ (w.heap.size+1+1) _:=T0.b 2 rfl;obtain⟨e0c,e0f,e1c,e1f⟩:=eB.cf2;have elt:=eB.lt;clear eB;have R0:Blk _ (w.heap.size+1+1+1) _:=T0.b 3 rfl;obtain⟨r0c,r0f,r1c,r1f,r2c,r2f,r3c,r3f,r4c,r4f,r5c,r5f⟩:=R0.cf6;have rlt:=R0.lt;have HB:=T0.below;have M1:=num_set6 N1 R0 (.bool s10) (.slice o10 n10 c10) (.bool s11) (.slice o11 n11 c11) (.bool s12) (.slice o12 n12 c12);have M2:=num_set6 N2 R0 (.bool s10) (.slice o10 n10 c10) (.bool s11) (.slice o11 n11 c11) (.bool s12) (.slice o12 n12 c12);have M3:=num_set6 N3 R0 (.bool s10) (.slice o10 n10 c10) (.bool s11) (.slice o11 n11 c11) (.bool s12) (.slice o12 n12 c12);clear T0 N1 N2 N3 R0;go_wp2;refine bodyPost_ret (v:= .agg #[.bool s10,.slice o10 n10 c10,.bool s11,.slice o11 n11 c11,.bool s12,.slice o12 n12 c12]) (by simp[results,Tryz.results66,go_sem,r0c,r1c,r2c,r3c,r4c,r5c]) rfl ?_;refine⟨s10,o10,n10,c10,d10,s11,o11,n11,c11,d11,s12,o12,n12,c12,d12,rfl,M1,M2,M3,?_⟩
      repeat' (refine Below.setCell ?_ (by simp;try omega) _)
      exact HB
def ptV (x y z:Int):Value:=if small x&&small y&&small z then .tuple #[PV x y z,.bool true] else .tuple #[.agg #[.int .u64 0,.int .u64 0,.int .u64 0,.int .u64 0,.int .u64 0,.int .u64 0,.int .u64 0,.int .u64 0,.int .u64 0,.int .u64 0,.int .u64 0,.int .u64 0],.bool false]
def pmV (x y z:Int):Value:=if z=0 then .tuple #[.agg #[.int .u64 0,.int .u64 0,.int .u64 0,.int .u64 0,.int .u64 0,.int .u64 0,.int .u64 0,.int .u64 0,.int .u64 0,.int .u64 0,.int .u64 0,.int .u64 0],.bool false] else ptV (shareZ x (Int.gcd (Int.gcd x y:Int) z:Int) (decide (z<0))) (shareZ y (Int.gcd (Int.gcd x y:Int) z:Int) (decide (z<0))) (shareZ z (Int.gcd (Int.gcd x y:Int) z:Int) (decide (z<0)))
theorem ptV_ex (x y z:Int):∃r0 r1 r2 r3 r4 r5 r6 r7 r8 r9 r10 r11 t,ptV x y z= .tuple #[.agg #[.int .u64 r0,.int .u64 r1,.int .u64 r2,.int .u64 r3,.int .u64 r4,.int .u64 r5,.int .u64 r6,.int .u64 r7,.int .u64 r8,.int .u64 r9,.int .u64 r10,.int .u64 r11],.bool t]:=by
 unfold ptV
 split
 · exact⟨_,_,_,_,_,_,_,_,_,_,_,_,true,rfl⟩
 · exact⟨0,0,0,0,0,0,0,0,0,0,0,0,false,rfl⟩
theorem l3Point_any (ps1:Bool) (po1:Option Addr) (pn1 pc1:Nat) (pd1:List Int) (ps2:Bool) (po2:Option Addr) (pn2 pc2:Nat) (pd2:List Int) (ps3:Bool) (po3:Option Addr) (pn3 pc3:Nat) (pd3:List Int) (x y z:Int) (k:Nat) (hk:k≤100000) (w:World) (N1:IsNum w ps1 po1 pn1 pc1 pd1 x k) (N2:IsNum w ps2 po2 pn2 pc2 pd2 y k) (N3:IsNum w ps3 po3 pn3 pc3 pd3 z k) :
 Calls Tryz.prog 65 #[.agg #[.bool ps1,.slice po1 pn1 pc1,.bool ps2,.slice po2 pn2 pc2,.bool ps3,.slice po3 pn3 pc3]] w (VP (ptV x y z) w):=by
 by_cases hs:small x=true∧small y=true∧small z=true
 · obtain⟨h1,h2,h3⟩:=hs;have:=l3Point_small ps1 po1 pn1 pc1 pd1 ps2 po2 pn2 pc2 pd2 ps3 po3 pn3 pc3 pd3 x y z k hk h1 h2 h3 w N1 N2 N3;unfold ptV;rw[h1,h2,h3];exact this
 · have hv:(small x&&small y&&small z)=false:=by
    rw[Bool.eq_false_iff];intro h
    simp at h
    exact hs ⟨h.1.1,h.1.2,h.2⟩
   have HO:Hid (ptV x y z= .tuple #[.agg #[.int .u64 0,.int .u64 0,.int .u64 0,.int .u64 0,.int .u64 0,.int .u64 0,.int .u64 0,.int .u64 0,.int .u64 0,.int .u64 0,.int .u64 0,.int .u64 0],.bool false]):=by show _=_;unfold ptV;rw[hv];rfl
   have T0:ArgsB w ((w.alloc (.cells #[.bool ps1,.slice po1 pn1 pc1,.bool ps2,.slice po2 pn2 pc2,.bool ps3,.slice po3 pn3 pc3] 66)).alloc (.cells #[.int .u64 0,.int .u64 0,.int .u64 0,.int .u64 0,.int .u64 0,.int .u64 0,.int .u64 0,.int .u64 0,.int .u64 0,.int .u64 0,.int .u64 0,.int .u64 0] 29)) [[.bool ps1,.slice po1 pn1 pc1,.bool ps2,.slice po2 pn2 pc2,.bool ps3,.slice po3 pn3 pc3],[.int .u64 0,.int .u64 0,.int .u64 0,.int .u64 0,.int .u64 0,.int .u64 0,.int .u64 0,.int .u64 0,.int .u64 0,.int .u64 0,.int .u64 0,.int .u64 0]]:=ar2 _ _ _ _ w;replace N1:=N1.below T0.below;replace N2:=N2.below T0.below;replace N3:=N3.below T0.below
   go_enter Tryz.func65,Tryz.ntmps65
   go_wp2_with fail;refine(l3Small_any ps1 po1 pn1 pc1 pd1 ps2 po2 pn2 pc2 pd2 ps3 po3 pn3 pc3 pd3 x y z k hk _ N1 N2 N3).mono ?_;rintro e w0 ⟨rfl,hB⟩;rw[hv];replace T0:=T0.step hB;have o0:=(T0.b 1 rfl).c 0 rfl;have u0:=(T0.b 1 rfl).f 0 rfl;have o1:=(T0.b 1 rfl).c 1 rfl;have u1:=(T0.b 1 rfl).f 1 rfl;have o2:=(T0.b 1 rfl).c 2 rfl;have u2:=(T0.b 1 rfl).f 2 rfl;have o3:=(T0.b 1 rfl).c 3 rfl;have u3:=(T0.b 1 rfl).f 3 rfl;have o4:=(T0.b 1 rfl).c 4 rfl;have u4:=(T0.b 1 rfl).f 4 rfl;have o5:=(T0.b 1 rfl).c 5 rfl;have u5:=(T0.b 1 rfl).f 5 rfl;have o6:=(T0.b 1 rfl).c 6 rfl;have u6:=(T0.b 1 rfl).f 6 rfl;have o7:=(T0.b 1 rfl).c 7 rfl;have u7:=(T0.b 1 rfl).f 7 rfl;have o8:=(T0.b 1 rfl).c 8 rfl;have u8:=(T0.b 1 rfl).f 8 rfl;have o9:=(T0.b 1 rfl).c 9 rfl;have u9:=(T0.b 1 rfl).f 9 rfl;have o10:=(T0.b 1 rfl).c 10 rfl;have u10:=(T0.b 1 rfl).f 10 rfl;have o11:=(T0.b 1 rfl).c 11 rfl;have u11:=(T0.b 1 rfl).f 11 rfl;have olt:=(T0.b 1 rfl).lt;have HB:=T0.below;clear T0 hB hs hv N1 N2 N3;go_wp2;refine bodyPost_ret (v:= .tuple #[.agg #[.int .u64 0,.int .u64 0,.int .u64 0,.int .u64 0,.int .u64 0,.int .u64 0,.int .u64 0,.int .u64 0,.int .u64 0,.int .u64 0,.int .u64 0,.int .u64 0],.bool false]) (by simp[results,Tryz.results65,go_sem,o0,o1,o2,o3,o4,o5,o6,o7,o8,o9,o10,o11]) rfl ?_;refine⟨by rw[HO.out],?_⟩
   repeat' (refine Below.setCell ?_ (by simp;try omega) _)
   exact HB
theorem fromW_det (z:Int) (hz:told z=true) (w:World):Calls Tryz.prog 61 #[W4 z] w (NumP 8 z w):=by
 obtain⟨a3,a2,a1,a0⟩:=ww_words z;have h:=from_any (ww3 z) (ww2 z) (ww1 z) (ww0 z) a3 a2 a1 a0 w;rw[ww_sw hz] at h;exact h
theorem pm_cells {x y z:Int} {w W:World} (T0:ArgsB w W [[.int .u64 (ww3 x),.int .u64 (ww2 x),.int .u64 (ww1 x),.int .u64 (ww0 x)],[.int .u64 (ww3 y),.int .u64 (ww2 y),.int .u64 (ww1 y),.int .u64 (ww0 y)],[.int .u64 (ww3 z),.int .u64 (ww2 z),.int .u64 (ww1 z),.int .u64 (ww0 z)],[.int .u64 0,.int .u64 0,.int .u64 0,.int .u64 0,.int .u64 0,.int .u64 0,.int .u64 0,.int .u64 0,.int .u64 0,.int .u64 0,.int .u64 0,.int .u64 0]]):(fun w' =>w'.cell? ⟨w.heap.size,0,none⟩=some (.int .u64 (ww3 x))∧w'.cell? ⟨w.heap.size,1,none⟩=some (.int .u64 (ww2 x))∧w'.cell? ⟨w.heap.size,2,none⟩=some (.int .u64 (ww1 x))∧w'.cell? ⟨w.heap.size,3,none⟩=some (.int .u64 (ww0 x))∧w'.cell? ⟨w.heap.size+1,0,none⟩=some (.int .u64 (ww3 y))∧w'.cell? ⟨w.heap.size+1,1,none⟩=some (.int .u64 (ww2 y))∧w'.cell? ⟨w.heap.size+1,2,none⟩=some (.int .u64 (ww1 y))∧w'.cell? ⟨w.heap.size+1,3,none⟩=some (.int .u64 (ww0 y))∧w'.cell? ⟨w.heap.size+2,0,none⟩=some (.int .u64 (ww3 z))∧w'.cell? ⟨w.heap.size+2,1,none⟩=some (.int .u64 (ww2 z))∧w'.cell? ⟨w.heap.size+2,2,none⟩=some (.int .u64 (ww1 z))∧w'.cell? ⟨w.heap.size+2,3,none⟩=some (.int .u64 (ww0 z))) W:=⟨(T0.b 0 rfl).c 0 rfl,(T0.b 0 rfl).c 1 rfl,(T0.b 0 rfl).c 2 rfl,(T0.b 0 rfl).c 3 rfl,(T0.b 1 rfl).c 0 rfl,(T0.b 1 rfl).c 1 rfl,(T0.b 1 rfl).c 2 rfl,(T0.b 1 rfl).c 3 rfl,(T0.b 2 rfl).c 0 rfl,(T0.b 2 rfl).c 1 rfl,(T0.b 2 rfl).c 2 rfl,(T0.b 2 rfl).c 3 rfl⟩
theorem pm_cells12 {x y z:Int} {w W:World} {v0 v1 v2 v3 v4 v5 v6 v7 v8 v9 v10 v11:Value} (T0:ArgsB w W [[.int .u64 (ww3 x),.int .u64 (ww2 x),.int .u64 (ww1 x),.int .u64 (ww0 x)],[.int .u64 (ww3 y),.int .u64 (ww2 y),.int .u64 (ww1 y),.int .u64 (ww0 y)],[.int .u64 (ww3 z),.int .u64 (ww2 z),.int .u64 (ww1 z),.int .u64 (ww0 z)],[.int .u64 0,.int .u64 0,.int .u64 0,.int .u64 0,.int .u64 0,.int .u64 0,.int .u64 0,.int .u64 0,.int .u64 0,.int .u64 0,.int .u64 0,.int .u64 0]]):(fun w' =>w'.cell? ⟨w.heap.size,0,none⟩=some (.int .u64 (ww3 x))∧w'.cell? ⟨w.heap.size,1,none⟩=some (.int .u64 (ww2 x))∧w'.cell? ⟨w.heap.size,2,none⟩=some (.int .u64 (ww1 x))∧w'.cell? ⟨w.heap.size,3,none⟩=some (.int .u64 (ww0 x))∧w'.cell? ⟨w.heap.size+1,0,none⟩=some (.int .u64 (ww3 y))∧w'.cell? ⟨w.heap.size+1,1,none⟩=some (.int .u64 (ww2 y))∧w'.cell? ⟨w.heap.size+1,2,none⟩=some (.int .u64 (ww1 y))∧w'.cell? ⟨w.heap.size+1,3,none⟩=some (.int .u64 (ww0 y))∧w'.cell? ⟨w.heap.size+2,0,none⟩=some (.int .u64 (ww3 z))∧w'.cell? ⟨w.heap.size+2,1,none⟩=some (.int .u64 (ww2 z))∧w'.cell? ⟨w.heap.size+2,2,none⟩=some (.int .u64 (ww1 z))∧w'.cell? ⟨w.heap.size+2,3,none⟩=some (.int .u64 (ww0 z))) ((((((((((((W.setCell ⟨(w.heap.size+1+1+1),0,none⟩ v0).setCell ⟨(w.heap.size+1+1+1),1,none⟩ v1).setCell ⟨(w.heap.size+1+1+1),2,none⟩ v2).setCell ⟨(w.heap.size+1+1+1),3,none⟩ v3).setCell ⟨(w.heap.size+1+1+1),4,none⟩ v4).setCell ⟨(w.heap.size+1+1+1),5,none⟩ v5).setCell ⟨(w.heap.size+1+1+1),6,none⟩ v6).setCell ⟨(w.heap.size+1+1+1),7,none⟩ v7).setCell ⟨(w.heap.size+1+1+1),8,none⟩ v8).setCell ⟨(w.heap.size+1+1+1),9,none⟩ v9).setCell ⟨(w.heap.size+1+1+1),10,none⟩ v10).setCell ⟨(w.heap.size+1+1+1),11,none⟩ v11):=by
 have h0:Blk ((((((((((((W.setCell ⟨(w.heap.size+1+1+1),0,none⟩ v0).setCell ⟨(w.heap.size+1+1+1),1,none⟩ v1).setCell ⟨(w.heap.size+1+1+1),2,none⟩ v2).setCell ⟨(w.heap.size+1+1+1),3,none⟩ v3).setCell ⟨(w.heap.size+1+1+1),4,none⟩ v4).setCell ⟨(w.heap.size+1+1+1),5,none⟩ v5).setCell ⟨(w.heap.size+1+1+1),6,none⟩ v6).setCell ⟨(w.heap.size+1+1+1),7,none⟩ v7).setCell ⟨(w.heap.size+1+1+1),8,none⟩ v8).setCell ⟨(w.heap.size+1+1+1),9,none⟩ v9).setCell ⟨(w.heap.size+1+1+1),10,none⟩ v10).setCell ⟨(w.heap.size+1+1+1),11,none⟩ v11) (w.heap.size+0) _:=(T0.b 0 rfl).set12 (by omega);have h1:Blk ((((((((((((W.setCell ⟨(w.heap.size+1+1+1),0,none⟩ v0).setCell ⟨(w.heap.size+1+1+1),1,none⟩ v1).setCell ⟨(w.heap.size+1+1+1),2,none⟩ v2).setCell ⟨(w.heap.size+1+1+1),3,none⟩ v3).setCell ⟨(w.heap.size+1+1+1),4,none⟩ v4).setCell ⟨(w.heap.size+1+1+1),5,none⟩ v5).setCell ⟨(w.heap.size+1+1+1),6,none⟩ v6).setCell ⟨(w.heap.size+1+1+1),7,none⟩ v7).setCell ⟨(w.heap.size+1+1+1),8,none⟩ v8).setCell ⟨(w.heap.size+1+1+1),9,none⟩ v9).setCell ⟨(w.heap.size+1+1+1),10,none⟩ v10).setCell ⟨(w.heap.size+1+1+1),11,none⟩ v11) (w.heap.size+1) _:=(T0.b 1 rfl).set12 (by omega);have h2:Blk ((((((((((((W.setCell ⟨(w.heap.size+1+1+1),0,none⟩ v0).setCell ⟨(w.heap.size+1+1+1),1,none⟩ v1).setCell ⟨(w.heap.size+1+1+1),2,none⟩ v2).setCell ⟨(w.heap.size+1+1+1),3,none⟩ v3).setCell ⟨(w.heap.size+1+1+1),4,none⟩ v4).setCell ⟨(w.heap.size+1+1+1),5,none⟩ v5).setCell ⟨(w.heap.size+1+1+1),6,none⟩ v6).setCell ⟨(w.heap.size+1+1+1),7,none⟩ v7).setCell ⟨(w.heap.size+1+1+1),8,none⟩ v8).setCell ⟨(w.heap.size+1+1+1),9,none⟩ v9).setCell ⟨(w.heap.size+1+1+1),10,none⟩ v10).setCell ⟨(w.heap.size+1+1+1),11,none⟩ v11) (w.heap.size+2) _:=(T0.b 2 rfl).set12 (by omega);exact⟨h0.c 0 rfl,h0.c 1 rfl,h0.c 2 rfl,h0.c 3 rfl,h1.c 0 rfl,h1.c 1 rfl,h1.c 2 rfl,h1.c 3 rfl,h2.c 0 rfl,h2.c 1 rfl,h2.c 2 rfl,h2.c 3 rfl⟩
theorem specPointMake_det (x y z:Int) (hx:told x=true) (hy:told y=true) (hz:told z=true) (w:World):Calls Tryz.prog 39 #[W4 x,W4 y,W4 z] w (VP (pmV x y z) w):=by
 have T0:ArgsB w ((((w.alloc (.cells #[.int .u64 (ww3 x),.int .u64 (ww2 x),.int .u64 (ww1 x),.int .u64 (ww0 x)] 27)).alloc (.cells #[.int .u64 (ww3 y),.int .u64 (ww2 y),.int .u64 (ww1 y),.int .u64 (ww0 y)] 27)).alloc (.cells #[.int .u64 (ww3 z),.int .u64 (ww2 z),.int .u64 (ww1 z),.int .u64 (ww0 z)] 27)).alloc (.cells #[.int .u64 0,.int .u64 0,.int .u64 0,.int .u64 0,.int .u64 0,.int .u64 0,.int .u64 0,.int .u64 0,.int .u64 0,.int .u64 0,.int .u64 0,.int .u64 0] 29)) [[.int .u64 (ww3 x),.int .u64 (ww2 x),.int .u64 (ww1 x),.int .u64 (ww0 x)],[.int .u64 (ww3 y),.int .u64 (ww2 y),.int .u64 (ww1 y),.int .u64 (ww0 y)],[.int .u64 (ww3 z),.int .u64 (ww2 z),.int .u64 (ww1 z),.int .u64 (ww0 z)],[.int .u64 0,.int .u64 0,.int .u64 0,.int .u64 0,.int .u64 0,.int .u64 0,.int .u64 0,.int .u64 0,.int .u64 0,.int .u64 0,.int .u64 0,.int .u64 0]]:=ar4 _ _ _ _ _ _ _ _ w;obtain⟨z3,z2,z1,z0⟩:=ww_words z;have EZ:=eqZ4 (ww3 z) (ww2 z) (ww1 z) (ww0 z);rw[zero4 z3 z2 z1 z0,ww_sw hz] at EZ;clear z3 z2 z1 z0
 by_cases h0:z=0
 · have HO:Hid (pmV x y z= .tuple #[.agg #[.int .u64 0,.int .u64 0,.int .u64 0,.int .u64 0,.int .u64 0,.int .u64 0,.int .u64 0,.int .u64 0,.int .u64 0,.int .u64 0,.int .u64 0,.int .u64 0],.bool false]):=by show _=_;unfold pmV;rw[if_pos h0]
   rw[decide_eq_true h0] at EZ;clear h0 hx hy hz
   go_enter Tryz.func39,Tryz.ntmps39
   go_upto_region 1 with fail;generalize ((((w.alloc (.cells #[.int .u64 (ww3 x),.int .u64 (ww2 x),.int .u64 (ww1 x),.int .u64 (ww0 x)] 27)).alloc (.cells #[.int .u64 (ww3 y),.int .u64 (ww2 y),.int .u64 (ww1 y),.int .u64 (ww0 y)] 27)).alloc (.cells #[.int .u64 (ww3 z),.int .u64 (ww2 z),.int .u64 (ww1 z),.int .u64 (ww0 z)] 27)).alloc (.cells #[.int .u64 0,.int .u64 0,.int .u64 0,.int .u64 0,.int .u64 0,.int .u64 0,.int .u64 0,.int .u64 0,.int .u64 0,.int .u64 0,.int .u64 0,.int .u64 0] 29))=W0 at *;have aB:Blk _ (w.heap.size) _:=T0.b 0 rfl;have a0:=aB.c 0 rfl;have a1:=aB.c 1 rfl;have a2:=aB.c 2 rfl;have a3:=aB.c 3 rfl;clear aB;have bB:Blk _ (w.heap.size+1) _:=T0.b 1 rfl;have b0:=bB.c 0 rfl;have b1:=bB.c 1 rfl;have b2:=bB.c 2 rfl;have b3:=bB.c 3 rfl;clear bB;have eB:Blk _ (w.heap.size+1+1) _:=T0.b 2 rfl;have e0:=eB.c 0 rfl;have e1:=eB.c 1 rfl;have e2:=eB.c 2 rfl;have e3:=eB.c 3 rfl;clear eB;have o0:=(T0.b 3 rfl).c 0 rfl;have u0:=(T0.b 3 rfl).f 0 rfl;have o1:=(T0.b 3 rfl).c 1 rfl;have u1:=(T0.b 3 rfl).f 1 rfl;have o2:=(T0.b 3 rfl).c 2 rfl;have u2:=(T0.b 3 rfl).f 2 rfl;have o3:=(T0.b 3 rfl).c 3 rfl;have u3:=(T0.b 3 rfl).f 3 rfl;have o4:=(T0.b 3 rfl).c 4 rfl;have u4:=(T0.b 3 rfl).f 4 rfl;have o5:=(T0.b 3 rfl).c 5 rfl;have u5:=(T0.b 3 rfl).f 5 rfl;have o6:=(T0.b 3 rfl).c 6 rfl;have u6:=(T0.b 3 rfl).f 6 rfl;have o7:=(T0.b 3 rfl).c 7 rfl;have u7:=(T0.b 3 rfl).f 7 rfl;have o8:=(T0.b 3 rfl).c 8 rfl;have u8:=(T0.b 3 rfl).f 8 rfl;have o9:=(T0.b 3 rfl).c 9 rfl;have u9:=(T0.b 3 rfl).f 9 rfl;have o10:=(T0.b 3 rfl).c 10 rfl;have u10:=(T0.b 3 rfl).f 10 rfl;have o11:=(T0.b 3 rfl).c 11 rfl;have u11:=(T0.b 3 rfl).f 11 rfl;have olt:=(T0.b 3 rfl).lt;have HB:=T0.below;clear T0;go_wp2;refine bodyPost_ret (v:= .tuple #[.agg #[.int .u64 0,.int .u64 0,.int .u64 0,.int .u64 0,.int .u64 0,.int .u64 0,.int .u64 0,.int .u64 0,.int .u64 0,.int .u64 0,.int .u64 0,.int .u64 0],.bool false]) (by simp[results,Tryz.results39,go_sem,o0,o1,o2,o3,o4,o5,o6,o7,o8,o9,o10,o11]) rfl ?_;refine⟨by rw[HO.out],?_⟩
   repeat' (refine Below.setCell ?_ (by simp;try omega) _)
   exact HB
 · have HO:Hid (pmV x y z=ptV (shareZ x (Int.gcd (Int.gcd x y:Int) z:Int) (decide (z<0))) (shareZ y (Int.gcd (Int.gcd x y:Int) z:Int) (decide (z<0))) (shareZ z (Int.gcd (Int.gcd x y:Int) z:Int) (decide (z<0)))):=by show _=_;unfold pmV;rw[if_neg h0]
   rw[decide_eq_false h0] at EZ;have F1:=fromW_det x hx;have F2:=fromW_det y hy;have F3:=fromW_det z hz;obtain⟨r0,r1,r2,r3,r4,r5,r6,r7,r8,r9,r10,r11,t,ht⟩:=ptV_ex (shareZ x (Int.gcd (Int.gcd x y:Int) z:Int) (decide (z<0))) (shareZ y (Int.gcd (Int.gcd x y:Int) z:Int) (decide (z<0))) (shareZ z (Int.gcd (Int.gcd x y:Int) z:Int) (decide (z<0)));rw[ht] at HO;clear hx hy hz;have tok1:True:=trivial;have tok2:True:=trivial
   go_enter Tryz.func39,Tryz.ntmps39
   go_upto_region 1 with fail;generalize ((((w.alloc (.cells #[.int .u64 (ww3 x),.int .u64 (ww2 x),.int .u64 (ww1 x),.int .u64 (ww0 x)] 27)).alloc (.cells #[.int .u64 (ww3 y),.int .u64 (ww2 y),.int .u64 (ww1 y),.int .u64 (ww0 y)] 27)).alloc (.cells #[.int .u64 (ww3 z),.int .u64 (ww2 z),.int .u64 (ww1 z),.int .u64 (ww0 z)] 27)).alloc (.cells #[.int .u64 0,.int .u64 0,.int .u64 0,.int .u64 0,.int .u64 0,.int .u64 0,.int .u64 0,.int .u64 0,.int .u64 0,.int .u64 0,.int .u64 0,.int .u64 0] 29))=W0 at *;have aB:Blk _ (w.heap.size) _:=T0.b 0 rfl;have a0:=aB.c 0 rfl;have a1:=aB.c 1 rfl;have a2:=aB.c 2 rfl;have a3:=aB.c 3 rfl;clear aB;have bB:Blk _ (w.heap.size+1) _:=T0.b 1 rfl;have b0:=bB.c 0 rfl;have b1:=bB.c 1 rfl;have b2:=bB.c 2 rfl;have b3:=bB.c 3 rfl;clear bB;have eB:Blk _ (w.heap.size+1+1) _:=T0.b 2 rfl;have e0:=eB.c 0 rfl;have e1:=eB.c 1 rfl;have e2:=eB.c 2 rfl;have e3:=eB.c 3 rfl;clear eB;go_upto_region 3 with fail;clear a0 a1 a2 a3 b0 b1 b2 b3 e0 e1 e2 e3
   go_region_held3 (fun w' =>w'.cell? ⟨w.heap.size,0,none⟩=some (.int .u64 (ww3 x))∧w'.cell? ⟨w.heap.size,1,none⟩=some (.int .u64 (ww2 x))∧w'.cell? ⟨w.heap.size,2,none⟩=some (.int .u64 (ww1 x))∧w'.cell? ⟨w.heap.size,3,none⟩=some (.int .u64 (ww0 x))∧w'.cell? ⟨w.heap.size+1,0,none⟩=some (.int .u64 (ww3 y))∧w'.cell? ⟨w.heap.size+1,1,none⟩=some (.int .u64 (ww2 y))∧w'.cell? ⟨w.heap.size+1,2,none⟩=some (.int .u64 (ww1 y))∧w'.cell? ⟨w.heap.size+1,3,none⟩=some (.int .u64 (ww0 y))∧w'.cell? ⟨w.heap.size+2,0,none⟩=some (.int .u64 (ww3 z))∧w'.cell? ⟨w.heap.size+2,1,none⟩=some (.int .u64 (ww2 z))∧w'.cell? ⟨w.heap.size+2,2,none⟩=some (.int .u64 (ww1 z))∧w'.cell? ⟨w.heap.size+2,3,none⟩=some (.int .u64 (ww0 z))) (first | (with_reducible exact pm_cells T0) | (with_reducible exact pm_cells T0.drew) | (with_reducible exact pm_cells12 T0))
    (first
     | (go_at_call 61;have _t:=tok1;refine(F1 _).mono ?_;rintro e k1 ⟨s1,o1',n1,c1,d1,rfl,N1,hB⟩;(first | (have T1:=T0.step hB) | (have T1:=T0.drew.step hB));clear T0;have T0:=T1;clear T1;clear hB tok1 _t)
     | (go_at_call 61;have _t:=tok2;refine(F2 _).mono ?_;rintro e k2 ⟨s2,o2',n2,c2,d2,rfl,N2,hB⟩;(first | (have T1:=T0.step hB) | (have T1:=T0.drew.step hB));clear T0;have T0:=T1;clear T1;replace N1:=N1.below hB;clear hB tok2 _t)
     | (go_at_call 61;refine(F3 _).mono ?_;rintro e k3 ⟨s3,o3',n3,c3,d3,rfl,N3,hB⟩;(first | (have T1:=T0.step hB) | (have T1:=T0.drew.step hB));clear T0;have T0:=T1;clear T1;replace N1:=N1.below hB;replace N2:=N2.below hB;clear hB)
     | (go_at_call 66;refine(l3Make_any s1 o1' n1 c1 d1 s2 o2' n2 c2 d2 s3 o3' n3 c3 d3 x y z 8 (by omega) (by omega) _ N1 N2 N3 h0).mono ?_;rintro e k4 ⟨ps1,po1,pn1,pc1,pd1,ps2,po2,pn2,pc2,pd2,ps3,po3,pn3,pc3,pd3,rfl,M1,M2,M3,hB⟩;(first | (have T1:=T0.step hB) | (have T1:=T0.drew.step hB));clear T0;have T0:=T1;clear T1;clear hB N1 N2 N3)
     | (go_at_call 65;refine(l3Point_any ps1 po1 pn1 pc1 pd1 ps2 po2 pn2 pc2 pd2 ps3 po3 pn3 pc3 pd3 _ _ _ _ (by omega) _ M1 M2 M3).mono ?_;rw[ht];rintro e k5 ⟨rfl,hB⟩;(first | (have T1:=T0.step hB) | (have T1:=T0.drew.step hB));clear T0;have T0:=T1;clear T1;clear hB M1 M2 M3;have o0:=(T0.b 3 rfl).c 0 rfl;have u0:=(T0.b 3 rfl).f 0 rfl;have o1:=(T0.b 3 rfl).c 1 rfl;have u1:=(T0.b 3 rfl).f 1 rfl;have o2:=(T0.b 3 rfl).c 2 rfl;have u2:=(T0.b 3 rfl).f 2 rfl;have o3:=(T0.b 3 rfl).c 3 rfl;have u3:=(T0.b 3 rfl).f 3 rfl;have o4:=(T0.b 3 rfl).c 4 rfl;have u4:=(T0.b 3 rfl).f 4 rfl;have o5:=(T0.b 3 rfl).c 5 rfl;have u5:=(T0.b 3 rfl).f 5 rfl;have o6:=(T0.b 3 rfl).c 6 rfl;have u6:=(T0.b 3 rfl).f 6 rfl;have o7:=(T0.b 3 rfl).c 7 rfl;have u7:=(T0.b 3 rfl).f 7 rfl;have o8:=(T0.b 3 rfl).c 8 rfl;have u8:=(T0.b 3 rfl).f 8 rfl;have o9:=(T0.b 3 rfl).c 9 rfl;have u9:=(T0.b 3 rfl).f 9 rfl;have o10:=(T0.b 3 rfl).c 10 rfl;have u10:=(T0.b 3 rfl).f 10 rfl;have o11:=(T0.b 3 rfl).c 11 rfl;have u11:=(T0.b 3 rfl).f 11 rfl;have olt:=(T0.b 3 rfl).lt))
   all_goals have HB:=T0.below
   all_goals have X3:Blk _ (w.heap.size+1+1+1) _:=T0.b 3 rfl
   all_goals clear T0
   all_goals go_wp2
   all_goals refine bodyPost_ret (v:= .tuple #[.agg #[.int .u64 r0,.int .u64 r1,.int .u64 r2,.int .u64 r3,.int .u64 r4,.int .u64 r5,.int .u64 r6,.int .u64 r7,.int .u64 r8,.int .u64 r9,.int .u64 r10,.int .u64 r11],.bool t]) (by simp[results,Tryz.results39,go_sem,o0,o1,o2,o3,o4,o5,o6,o7,o8,o9,o10,o11]) rfl ?_
   all_goals refine⟨by rw[HO.out],?_⟩
   all_goals repeat' (refine Below.setCell ?_ (by simp;try omega) _)
   all_goals first | exact HB | exact HB.drew
theorem cmpI_zero {a b:Int}:cmpI a b=0↔a=b:=by
 unfold cmpI
 split
 · constructor<;>intro h<;>omega
 · split
   · constructor<;>intro h<;>omega
   · constructor<;>intro h<;>omega
theorem ptB_gcd {x y z:Int} (h:ptB x y z=true):0<z∧Int.gcd (Int.gcd x y) z=1:=by
 unfold ptB at h
 simp at h
 exact⟨h.1.1,h.2⟩
theorem dvd3 {x y z t:Int} (hg:Int.gcd (Int.gcd x y) z=1) {d:Int} (h1:d ∣ x*t) (h2:d ∣ y*t) (h3:d ∣ z*t):d ∣ t:=by
 have e1:(Int.gcd (x*t) (y*t):Int)=Int.gcd x y*(t.natAbs:Int):=by rw[Int.gcd_mul_right];simp
 have d1:d ∣ (Int.gcd (x*t) (y*t):Int):=Int.dvd_coe_gcd h1 h2;rw[e1] at d1;have d2:d ∣ z*(t.natAbs:Int):=by
  rcases Int.natAbs_eq t with h | h
  · rw[←h];exact h3
  · have e:(t.natAbs:Int)= -t:=by omega
    rw[e,Int.mul_neg];exact Int.dvd_neg.2 h3
 have d3:=Int.dvd_coe_gcd d1 d2;rw[Int.gcd_mul_right,hg] at d3;exact Int.dvd_natAbs.1 (by simpa using d3)
theorem ord_zero {x y z u v t:Int} (h1:ptB x y z=true) (h2:ptB u v t=true):ordI x y z u v t=0↔x=u∧y=v∧z=t:=by
 obtain⟨pz,g1⟩:=ptB_gcd h1;obtain⟨pt,g2⟩:=ptB_gcd h2
 constructor
 · intro h;unfold ordI at h
   by_cases hc:cmpI (x*t) (u*z)=0
   · rw[if_pos hc] at h;have e1:=cmpI_zero.1 hc;have e2:=cmpI_zero.1 h;have d1:z ∣ t:=dvd3 g1 (by rw[e1];exact Int.dvd_mul_left _ _) (by rw[e2];exact Int.dvd_mul_left _ _) (Int.dvd_mul_right _ _);have d2:t ∣ z:=dvd3 g2 (by rw[←e1];exact Int.dvd_mul_left _ _) (by rw[←e2];exact Int.dvd_mul_left _ _) (Int.dvd_mul_right _ _);have l1:=Int.le_of_dvd pt d1;have l2:=Int.le_of_dvd pz d2;have ez:z=t:=by omega
     subst ez;exact⟨Int.eq_of_mul_eq_mul_right (by omega) e1,Int.eq_of_mul_eq_mul_right (by omega) e2,rfl⟩
   · rw[if_neg hc] at h;exact absurd h hc
 · rintro⟨rfl,rfl,rfl⟩;unfold ordI;rw[if_pos (cmpI_zero.2 rfl)];exact cmpI_zero.2 rfl
theorem frac_trans {x z a c u t:Int} (hz:0<z) (ht:0<t) (hc:0<c) (h1:x*c≤a*z) (h2:a*t≤u*c):x*t≤u*z∧(x*c<a*z∨a*t<u*c→x*t<u*z):=by
 have e1:x*c*t≤a*z*t:=Int.mul_le_mul_of_nonneg_right h1 (by omega);have e2:a*t*z≤u*c*z:=Int.mul_le_mul_of_nonneg_right h2 (by omega);have r1:x*c*t=x*t*c:=Int.mul_right_comm x c t;have r2:a*z*t=a*t*z:=Int.mul_right_comm a z t;have r3:u*c*z=u*z*c:=Int.mul_right_comm u c z;refine⟨Int.le_of_mul_le_mul_right (show x*t*c≤u*z*c by omega) hc,?_⟩;rintro(h | h)
 · have e3:x*c*t<a*z*t:=Int.mul_lt_mul_of_pos_right h ht;exact Int.lt_of_mul_lt_mul_right (show x*t*c<u*z*c by omega) (by omega)
 · have e3:a*t*z<u*c*z:=Int.mul_lt_mul_of_pos_right h hz;exact Int.lt_of_mul_lt_mul_right (show x*t*c<u*z*c by omega) (by omega)
theorem cmpI_val (a b:Int):(a<b∧cmpI a b= -1)∨(a=b∧cmpI a b=0)∨(b<a∧cmpI a b=1):=by
 rcases Int.lt_trichotomy a b with h | h | h
 · exact .inl ⟨h,cmpI_lt h⟩
 · exact .inr (.inl ⟨h,cmpI_eq h⟩)
 · exact .inr (.inr ⟨h,cmpI_gt h⟩)
theorem ord_le (x y z u v t:Int):ordI x y z u v t≤0↔x*t<u*z∨(x*t=u*z∧y*t≤v*z):=by
 unfold ordI
 rcases cmpI_val (x*t) (u*z) with ⟨h,e⟩ | ⟨h,e⟩ | ⟨h,e⟩<;>rcases cmpI_val (y*t) (v*z) with ⟨h',e'⟩ | ⟨h',e'⟩ | ⟨h',e'⟩<;>rw[e]<;>simp[e']<;>omega
theorem ord_in (x y z u v t:Int):ordI x y z u v t= -1∨ordI x y z u v t=0∨ordI x y z u v t=1:=by
 unfold ordI
 rcases cmpI_val (x*t) (u*z) with ⟨h,e⟩ | ⟨h,e⟩ | ⟨h,e⟩<;>rcases cmpI_val (y*t) (v*z) with ⟨h',e'⟩ | ⟨h',e'⟩ | ⟨h',e'⟩<;>rw[e]<;>simp[e']
theorem cmp_turned (a b:Int):cmpI b a= -cmpI a b:=by
 rcases Int.lt_trichotomy a b with h | h | h
 · rw[cmpI_lt h,cmpI_gt h];rfl
 · rw[cmpI_eq h,cmpI_eq h.symm];rfl
 · rw[cmpI_gt h,cmpI_lt h]
theorem ord_turned (x y z u v t:Int):ordI u v t x y z= -ordI x y z u v t:=by
 unfold ordI;rw[cmp_turned (x*t) (u*z),cmp_turned (y*t) (v*z)]
 split<;>split<;>omega
theorem ord_trans {x y z u v t a b c:Int} (hz:0<z) (ht:0<t) (hc:0<c) (h1:ordI x y z a b c≤0) (h2:ordI a b c u v t≤0):ordI x y z u v t≤0:=by
 rw[ord_le] at *;have f:=frac_trans (x:=x) (z:=z) (a:=a) (c:=c) (u:=u) (t:=t) hz ht hc (by omega) (by omega)
 rcases Int.lt_or_eq_of_le f.1 with h | h
 · exact .inl h
 · right
   have n1:¬(x*c<a*z∨a*t<u*c):=fun k=>by have:=f.2 k;omega
   have g:=frac_trans (x:=y) (z:=z) (a:=b) (c:=c) (u:=v) (t:=t) hz ht hc (by omega) (by omega);exact⟨h,g.1⟩
theorem ownE_set {w:World} {base g n cap:Nat} {e:TypeId} {size:Nat} {xs:List Value} (h:w.ownsRow base e size (.slice (some ⟨g,0,none⟩) n cap) n xs) (j:Nat) (u:Value):(w.setCell ⟨g,j,none⟩ u).ownsRow base e size (.slice (some ⟨g,0,none⟩) n cap) n (xs.set j u):=by
 refine⟨by rw[List.length_set];exact h.1,?_⟩
 rcases h.2 with ⟨h',_⟩ | ⟨g',cap',cur,h',hb,hg,h1,h2,h3,h4⟩
 · cases h'
 · cases h';refine .inr ⟨g,cap,cur.setIfInBounds j u,rfl,hb,?_,h1,h2,by simpa using h3,?_⟩
   · simp[World.setCell,Array.getElem?_modify,hg]
   · rw[←h4]
     simp[List.take_set]
def insF {α:Type} (j:Nat) (f:Nat→α) (a:α) (i:Nat):α:=if i<j then f i else if i=j then a else f (i-1)
def setF {α:Type} (f:Nat→α) (j:Nat) (a:α) (i:Nat):α:=if i=j then a else f i
theorem insF_lo {α:Type} {j:Nat} {f:Nat→α} {a:α} {i:Nat} (h:i<j):insF j f a i=f i:=if_pos h
theorem insF_at {α:Type} {j:Nat} {f:Nat→α} {a:α}:insF j f a j=a:=by unfold insF;rw[if_neg (by omega),if_pos rfl]
theorem insF_hi {α:Type} {j:Nat} {f:Nat→α} {a:α} {i:Nat} (h:j<i):insF j f a i=f (i-1):=by unfold insF;rw[if_neg (by omega),if_neg (by omega)]
theorem setF_at {α:Type} {j:Nat} {f:Nat→α} {a:α}:setF f j a j=a:=if_pos rfl
theorem setF_ne {α:Type} {j:Nat} {f:Nat→α} {a:α} {i:Nat} (h:i≠j):setF f j a i=f i:=if_neg h
def ordP (a b:Int×Int×Int):Int:=ordI a.1 a.2.1 a.2.2 b.1 b.2.1 b.2.2
theorem first_ex (P:Nat→Prop):∀n,∃j,j≤n∧(∀i,i<j→P i)∧(j<n→¬P j)
 | 0=>⟨0,Nat.le_refl _,fun _ h=>absurd h (by omega),fun h=>absurd h (by omega)⟩
 | n + 1=>by
  obtain⟨j,h1,h2,h3⟩:=first_ex P n
  by_cases e:j<n
  · exact⟨j,by omega,h2,fun _=>h3 e⟩
  · obtain rfl:j=n:=by omega
    by_cases hp:P j
    · exact⟨j+1,by omega,fun i hi=>by
       by_cases e2:i=j
       · subst e2;exact hp
       · exact h2 i (by omega),fun h=>absurd h (by omega)⟩
    · exact⟨j,by omega,h2,fun _=>hp⟩
structure NumAt (m:Nat) (e:Nat→Int) (x:Int) (j:Nat) (tw:Bool):Prop where
 le:j≤m
 lo:∀i,i<j→e i<x
 t1:tw=true→j<m∧e j=x
 t0:tw=false→j<m→x<e j
 hi:∀i,j<i→i<m→x<e i
theorem endB_rise {m:Nat} {e:Nat→Int} (h:endB m e=true):∀d i,i+d+1<m→e i<e (i+d+1)
 | 0,i,hi=>by
  have h1:=of_decide_eq_true (of_decide_eq_true h (i+1) (by omega));exact h1.2 (by omega)
 | d+1,i,hi=>by
  have h1:=of_decide_eq_true (of_decide_eq_true h (i+(d+1)+1) (by omega));have h2:=h1.2 (by omega);have h3:=endB_rise h d i (by omega);rw[Nat.add_sub_cancel,←Nat.add_assoc] at h2;exact Int.lt_trans h3 h2
theorem numAt_ex {m:Nat} {e:Nat→Int} (h:endB m e=true) (x:Int):∃j tw,NumAt m e x j tw:=by
 obtain⟨j,h1,h2,h3⟩:=first_ex (fun i=>e i<x) m;refine⟨j,decide (j<m∧e j=x),h1,h2,fun t=>of_decide_eq_true t,fun t hj=>?_,fun i hi him=>?_⟩
 · have t2:=of_decide_eq_false t;have:=h3 hj;have t3:¬e j=x:=fun e2=>t2 ⟨hj,e2⟩
   omega
 · have:=h3 (by omega);have r:=endB_rise h (i-j-1) j (by omega);rw[show j+(i-j-1)+1=i by omega] at r
   omega
structure PutAt (n:Nat) (q:Nat→Int×Int×Int) (p:Int×Int×Int) (j:Nat) (th:Bool):Prop where
 le:j≤n
 lo:∀i,i<j→ordP (q i) p<0
 hi:∀i,j≤i→i<n→0≤ordP (q i) p
 t1:th=true→j<n∧q j=p
 t0:th=false→j<n→0<ordP (q j) p∧q j≠p
theorem evB_pt {n:Nat} {q:Nat→Int×Int×Int} {L:Nat→Nat} {E:Nat→Nat→Int} (h:evB n q L E=true) {i:Nat} (hi:i<n):ptB (q i).1 (q i).2.1 (q i).2.2=true:=(of_decide_eq_true ((of_decide_eq_true h).2 i hi).1).1
theorem evB_end {n:Nat} {q:Nat→Int×Int×Int} {L:Nat→Nat} {E:Nat→Nat→Int} (h:evB n q L E=true) {i:Nat} (hi:i<n):endB (L i) (E i)=true:=((of_decide_eq_true h).2 i hi).2
theorem evB_next {n:Nat} {q:Nat→Int×Int×Int} {L:Nat→Nat} {E:Nat→Nat→Int} (h:evB n q L E=true) {i:Nat} (hi:i+1<n):ordP (q i) (q (i+1))<0:=(of_decide_eq_true ((of_decide_eq_true h).2 (i+1) hi).1).2.2 (by omega)
theorem ordP_lt {a b c:Int×Int×Int} (ha:0<a.2.2) (hb:0<b.2.2) (hc:0<c.2.2) (h1:ordP a b<0) (h2:ordP b c<0):ordP a c<0:=by
 unfold ordP at *;have t1:=ord_trans (x:=a.1) (y:=a.2.1) ha hc hb (by omega) (show ordI b.1 b.2.1 b.2.2 c.1 c.2.1 c.2.2≤0 by omega)
 rcases ord_in a.1 a.2.1 a.2.2 c.1 c.2.1 c.2.2 with h | h | h
 · omega
 · have h3:ordI c.1 c.2.1 c.2.2 a.1 a.2.1 a.2.2≤0:=by rw[ord_turned];omega
   have t2:=ord_trans (x:=c.1) (y:=c.2.1) hc hb ha h3 (show ordI a.1 a.2.1 a.2.2 b.1 b.2.1 b.2.2≤0 by omega);rw[ord_turned b.1 b.2.1 b.2.2 c.1 c.2.1 c.2.2] at t2
   omega
 · omega
theorem evB_rise {n:Nat} {q:Nat→Int×Int×Int} {L:Nat→Nat} {E:Nat→Nat→Int} (h:evB n q L E=true):∀d i,i+d+1<n→ordP (q i) (q (i+d+1))<0
 | 0,_,hi=>evB_next h hi
 | d+1,i,hi=>ordP_lt (ptB_small (evB_pt h (show i<n by omega))).1 (ptB_small (evB_pt h (show i+d+1<n by omega))).1 (ptB_small (evB_pt h hi)).1 (evB_rise h d i (by omega)) (evB_next h (i:=i+d+1) (by omega))
theorem putAt_ex {n:Nat} {q:Nat→Int×Int×Int} {L:Nat→Nat} {E:Nat→Nat→Int} (h:evB n q L E=true) {p:Int×Int×Int} (hp:ptB p.1 p.2.1 p.2.2=true):∃j th,PutAt n q p j th:=by
 obtain⟨j,h1,h2,h3⟩:=first_ex (fun i=>ordP (q i) p<0) n;have hz:=fun(hj:j<n)=>ord_zero (evB_pt h hj) hp;refine⟨j,decide (j<n∧q j=p),h1,h2,fun i hji hi=>?_,fun t=>of_decide_eq_true t,fun t hj=>?_⟩
 · have:=h3 (by omega)
   rcases Nat.eq_or_lt_of_le hji with e | e
   · subst e;omega
   · refine Int.not_lt.1 fun hlt=>?_;have r:=evB_rise h (i-j-1) j (by omega);rw[show j+(i-j-1)+1=i by omega] at r;have:=ordP_lt (ptB_small (evB_pt h (show j<n by omega))).1 (ptB_small (evB_pt h hi)).1 (ptB_small hp).1 r hlt
     omega
 · have t2:=of_decide_eq_false t;have t3:q j≠p:=fun e2=>t2 ⟨hj,e2⟩;refine⟨?_,t3⟩;have:=h3 hj;have t4:ordP (q j) p≠0:=fun e0=>t3 (by
    have:=(hz hj).1 e0;exact Prod.ext this.1 (Prod.ext this.2.1 this.2.2))
   omega
theorem ev13_at (p:Int×Int×Int) (u:Value) {k:Nat} (hk:k<12):(ev13 p u)[k]? =some (.int .u64 (w12 p k)):=by
 rcases(show k=0∨k=1∨k=2∨k=3∨k=4∨k=5∨k=6∨k=7∨k=8∨k=9∨k=10∨k=11 by omega) with h | h | h | h | h | h | h | h | h | h | h | h<;>subst h<;>rfl
theorem evCs_ins {n j:Nat} (hj:j≤n) (q:Nat→Int×Int×Int) (s:Nat→Value) (p:Int×Int×Int) (u:Value):evCs (n+1) (wq (insF j q p)) (insF j s u)=(evCs n (wq q) s).take (j*13) ++ev13 p u ++(evCs n (wq q) s).drop (j*13):=by
 have l1:((evCs n (wq q) s).take (j*13)).length=j*13:=by rw[List.length_take,evCs_len];omega
 have l2:(ev13 p u).length=13:=rfl
 apply List.ext_getElem?
 intro k
 by_cases h:k<j*13
 · rw[List.append_assoc,List.getElem?_append_left (by omega),List.getElem?_take_of_lt h,evCs_at (by omega),evCs_at (by omega)];unfold evC wq;rw[insF_lo (show k / 13<j by omega),insF_lo (show k / 13<j by omega)]
 · by_cases h2:k<j*13+13
   · rw[List.append_assoc,List.getElem?_append_right (by omega),List.getElem?_append_left (by omega),evCs_at (by omega),l1];obtain⟨i,rfl⟩:∃i,k=j*13+i:=⟨k-j*13,by omega⟩;rw[Nat.add_sub_cancel_left]
     by_cases e:i=12
     · subst e;rw[evC_12,insF_at]
       rfl
     · rw[evC_at _ _ _ _ (by omega),wq_at _ _ _ (by omega),insF_at,ev13_at _ _ (by omega)]
   · rw[List.getElem?_append_right (by simp only[List.length_append];omega),List.getElem?_drop,List.length_append,l1,l2]
     by_cases h3:k<(n+1)*13
     · rw[evCs_at h3,evCs_at (by omega)];unfold evC wq;rw[insF_hi (show j<k / 13 by omega),insF_hi (show j<k / 13 by omega),show(j*13+(k-(j*13+13)))%13=k%13 by omega,show(j*13+(k-(j*13+13))) / 13=k / 13-1 by omega]
     · rw[List.getElem?_eq_none (by rw[evCs_len];omega),List.getElem?_eq_none (by rw[evCs_len];omega)]
theorem evCs_set {n j:Nat} (x:Nat→Int) (s:Nat→Value) (u:Value):(evCs n x s).set (j*13+12) u=evCs n x (setS s j u):=by
 apply List.ext_getElem?
 intro k
 by_cases h:k<n*13
 · by_cases e:k=j*13+12
   · subst e;rw[List.getElem?_set_self (by rw[evCs_len];exact h),evCs_at h,evC_12]
     simp[setS]
   · rw[List.getElem?_set_ne (by omega),evCs_at h,evCs_at h];unfold evC setS
     by_cases e2:k%13=12
     · rw[if_pos e2,if_pos e2,if_neg (show ¬k / 13=j by omega)]
     · rw[if_neg e2,if_neg e2]
 · rw[List.getElem?_eq_none (by rw[List.length_set,evCs_len];omega),List.getElem?_eq_none (by rw[evCs_len];omega)]
theorem EvOwn.ins_ {w w' :World} {base:Nat} {v v' :Value} {n j:Nat} {q:Nat→Int×Int×Int} {s:Nat→Value} {L:Nat→Nat} {E:Nat→Nat→Int} {p:Int×Int×Int} {u:Value} {e:Nat→Int} {m:Nat} (h:EvOwn w base v n (wq q) s L E) (hj:j≤n)
 (hu:w'.ownsRow base 2 1 u m (noL m e)) (hk:∀i,i<n→w'.ownsRow base 2 1 (s i) (L i) (noL (L i) (E i)))
 (hn:w'.ownsRow base 37 13 v' (n+1) ((evCs n (wq q) s).take (j*13) ++ev13 p u ++(evCs n (wq q) s).drop (j*13)))
 (dv:∀i,i<n→∀k,(s i).ownBlock=some k→v'.ownBlock≠some k) (du:∀k,u.ownBlock=some k→v'.ownBlock≠some k∧∀i,i<n→(s i).ownBlock≠some k):EvOwn w' base v' (n+1) (wq (insF j q p)) (insF j s u) (insF j L m) (insF j E e):=by
 refine⟨by rw[evCs_ins hj];exact hn,fun i hi=>?_,fun i hi k hk' =>?_,fun i i2 hi hi2 hne k hk' =>?_⟩
 · rcases Nat.lt_trichotomy i j with c | c | c
   · rw[insF_lo c,insF_lo c,insF_lo c];exact hk i (by omega)
   · subst c;rw[insF_at,insF_at,insF_at];exact hu
   · rw[insF_hi c,insF_hi c,insF_hi c];exact hk (i-1) (by omega)
 · rcases Nat.lt_trichotomy i j with c | c | c
   · rw[insF_lo c] at hk';exact dv i (by omega) k hk'
   · subst c;rw[insF_at] at hk';exact(du k hk').1
   · rw[insF_hi c] at hk';exact dv (i-1) (by omega) k hk'
 · rcases Nat.lt_trichotomy i j with c | c | c
   · rw[insF_lo c] at hk'
     rcases Nat.lt_trichotomy i2 j with d | d | d
     · rw[insF_lo d];exact h.d2 i i2 (by omega) (by omega) hne k hk'
     · subst d;rw[insF_at];exact fun e=>(du k e).2 i (by omega) hk'
     · rw[insF_hi d];exact h.d2 i (i2-1) (by omega) (by omega) (by omega) k hk'
   · subst c;rw[insF_at] at hk'
     rcases Nat.lt_trichotomy i2 i with d | d | d
     · rw[insF_lo d];exact(du k hk').2 i2 (by omega)
     · omega
     · rw[insF_hi d];exact(du k hk').2 (i2-1) (by omega)
   · rw[insF_hi c] at hk'
     rcases Nat.lt_trichotomy i2 j with d | d | d
     · rw[insF_lo d];exact h.d2 (i-1) i2 (by omega) (by omega) (by omega) k hk'
     · subst d;rw[insF_at];exact fun e=>(du k e).2 (i-1) (by omega) hk'
     · rw[insF_hi d];exact h.d2 (i-1) (i2-1) (by omega) (by omega) (by omega) k hk'
theorem setS_ne {s:Nat→Value} {j i:Nat} {u:Value} (h:i≠j):setS s j u i=s i:=if_neg h
theorem setS_at {s:Nat→Value} {j:Nat} {u:Value}:setS s j u j=u:=if_pos rfl
theorem EvOwn.put_ {w w' :World} {base g n cap:Nat} {j:Nat} {x:Nat→Int} {s:Nat→Value} {L:Nat→Nat} {E:Nat→Nat→Int} {u:Value} {e:Nat→Int} {m:Nat} (h:EvOwn w base (.slice (some ⟨g,0,none⟩) n cap) n x s L E) (hj:j<n)
 (hu:w'.ownsRow base 2 1 u m (noL m e)) (hkb:∀k,k<w.heap.size→(s j).ownBlock≠some k→w'.heap[k]? =w.heap[k]?) (hub:∀k,u.ownBlock=some k→(s j).ownBlock=some k∨w.heap.size≤k):EvOwn (w'.setCell ⟨g,j*13+12,none⟩ u) base (.slice (some ⟨g,0,none⟩) n cap) n x (setS s j u) (setF L j m) (setF E j e):=by
 have hgs:g<w.heap.size:=(h.own.lt g rfl).2;have hgj:(s j).ownBlock≠some g:=fun e=>h.d1 j hj g e rfl;have hug:u.ownBlock≠some g:=fun e=>by
  rcases hub g e with c | c
  · exact hgj c
  · omega
 have setO:∀{v:Value} {a:Nat} {xs:List Value},w'.ownsRow base 2 1 v a xs→v.ownBlock≠some g→(w'.setCell ⟨g,j*13+12,none⟩ u).ownsRow base 2 1 v a xs:=fun {v a xs} hv hne=>by
  rcases hv with ⟨h0,h1 | ⟨b,c,cur,h1,h2,h3,h4⟩⟩
  · exact⟨h0,.inl h1⟩
  · refine⟨h0,.inr ⟨b,c,cur,h1,h2,?_,h4⟩⟩;have hbg:b≠g:=fun e=>hne (by subst h1;subst e;rfl);rw[←h3];exact heap_setCell_other _ _ _ _ hbg
 have kin:∀i,i<n→i≠j→w'.ownsRow base 2 1 (s i) (L i) (noL (L i) (E i)):=fun i hi hne=>by
  have hv:=h.ins i hi
  rcases hv with ⟨h0,h1 | ⟨b,c,cur,h1,h2,h3,h4⟩⟩
  · exact⟨h0,.inl h1⟩
  · refine⟨h0,.inr ⟨b,c,cur,h1,h2,?_,h4⟩⟩;have hbs:b<w.heap.size:=(Array.getElem?_eq_some_iff.1 h3).1;rw[←h3];exact hkb b hbs (h.d2 i j hi hj hne b (by rw[h1];rfl))
 have own' :w'.ownsRow base 37 13 (.slice (some ⟨g,0,none⟩) n cap) n (evCs n x s):=by
  rcases h.own with ⟨h0,h1 | ⟨b,c,cur,h1,h2,h3,h4⟩⟩
  · exact⟨h0,.inl h1⟩
  · cases h1;exact⟨h0,.inr ⟨g,cap,cur,rfl,h2,(hkb g hgs hgj).trans h3,h4⟩⟩
 refine⟨?_,fun i hi=>?_,fun i hi k hk=>?_,fun i i2 hi hi2 hne k hk=>?_⟩
 · rw[←evCs_set];exact ownE_set own' _ _
 · by_cases c:i=j
   · subst c;rw[setS_at,setF_at,setF_at];exact setO hu hug
   · rw[setS_ne c,setF_ne c,setF_ne c];exact setO (kin i hi c) (fun e=>h.d1 i hi g e rfl)
 · by_cases c:i=j
   · subst c;rw[setS_at] at hk;intro e;cases e;exact hug hk
   · rw[setS_ne c] at hk;exact h.d1 i hi k hk
 · by_cases c:i=j
   · subst c;rw[setS_at] at hk;rw[setS_ne (Ne.symm hne)];intro e
     rcases hub k hk with d | d
     · exact h.d2 i2 i hi2 hi (Ne.symm hne) k e d
     · have:=((h.ins i2 hi2).lt k e).2;omega
   · rw[setS_ne c] at hk
     by_cases c2:i2=j
     · subst c2;rw[setS_at];intro e
       rcases hub k e with d | d
       · exact h.d2 i i2 hi hi2 hne k hk d
       · have:=((h.ins i hi).lt k hk).2;omega
     · rw[setS_ne c2];exact h.d2 i i2 hi hi2 hne k hk
theorem EvIn.tail {w:World} {A off n:Nat} {q:Nat→Int×Int×Int} {S:Nat→Option Addr×Nat} {L:Nat→Nat} {E:Nat→Nat→Int} (h:EvIn w (some ⟨A,off,none⟩) n q S L E):EvIn w (some ⟨A,off+13,none⟩) (n-1) (fun i=>q (i+1)) (fun i=>S (i+1)) (fun i=>L (i+1)) (fun i=>E (i+1)):=fun i hi=>by
 obtain⟨A',off',e,hA,c⟩:=h (i+1) (by omega);cases e;refine⟨A,off+13,rfl,hA,?_⟩;rw[show off+(i+1)*13=off+13+i*13 by omega] at c;exact c
def tkP (b:Bool) (q:Nat→Int×Int×Int):Int×Int×Int:=if b=true then q 0 else(0,0,0)
def tkM (b:Bool) (L:Nat→Nat):Nat:=if b=true then L 0 else 0
def tkN (b:Bool) (n:Nat):Nat:=if b=true then n-1 else 0
def tkB (n:Nat) (q:Nat→Int×Int×Int) (L:Nat→Nat) (E:Nat→Nat→Int):Bool:=evB n q L E&&decide (0<n)
theorem evB_pos {n:Nat} {q:Nat→Int×Int×Int} {L:Nat→Nat} {E:Nat→Nat→Int} (h:evB n q L E=true):n≤200∧∀i,i<n→0<L i:=by
 have h1:=of_decide_eq_true h;exact⟨h1.1,fun i hi=>by have h2:=of_decide_eq_true (h1.2 i hi).1;exact h2.2.1⟩
def PutTo (n:Nat) (q:Nat→Int×Int×Int) (L:Nat→Nat) (E:Nat→Nat→Int) (p:Int×Int×Int) (x:Int) (ok:Bool) (N:Nat) (Q:Nat→Int×Int×Int) (L' :Nat→Nat) (E' :Nat→Nat→Int):Prop:=
 ((evB n q L E&&ptB p.1 p.2.1 p.2.2&&decide (0≤x∧x≤39))=false∧ok=false∧N=0∧q=Q∧L=L' ∧E=E')∨
 (evB n q L E=true∧ptB p.1 p.2.1 p.2.2=true∧(0≤x∧x≤39)∧∃j th,PutAt n q p j th∧
  ((th=false∧n=200∧ok=false∧N=0∧q=Q∧L=L' ∧E=E')∨
   (th=false∧n<200∧ok=true∧N=n+1∧Q=insF j q p∧L' =insF j L 1∧E' =insF j E (fun _=>x))∨
   (th=true∧∃jn tw,NumAt (L j) (E j) x jn tw∧ok=true∧n=N∧q=Q∧L' =setF L j (inM (L j) tw)∧E' =setF E j (inE (E j) jn x tw))))
theorem putTo_ex (n:Nat) (q:Nat→Int×Int×Int) (L:Nat→Nat) (E:Nat→Nat→Int) (p:Int×Int×Int) (x:Int):∃ok N Q L' E',PutTo n q L E p x ok N Q L' E' :=by
 by_cases h:(evB n q L E&&ptB p.1 p.2.1 p.2.2&&decide (0≤x∧x≤39))=true
 · simp only[Bool.and_eq_true] at h;obtain⟨⟨h1,h2⟩,h3⟩:=h;have h3:=of_decide_eq_true h3;obtain⟨j,th,hP⟩:=putAt_ex h1 h2;cases th with
   | false=>
    have hn:=(evB_pos h1).1
    by_cases h4:n=200
    · exact⟨_,_,_,_,_,.inr ⟨h1,h2,h3,j,false,hP,.inl ⟨rfl,h4,rfl,rfl,rfl,rfl,rfl⟩⟩⟩
    · exact⟨_,_,_,_,_,.inr ⟨h1,h2,h3,j,false,hP,.inr (.inl ⟨rfl,by omega,rfl,rfl,rfl,rfl,rfl⟩)⟩⟩
   | true=>
    obtain⟨jn,tw,hN⟩:=numAt_ex (evB_end h1 (hP.t1 rfl).1) x;exact⟨_,_,_,_,_,.inr ⟨h1,h2,h3,j,true,hP,.inr (.inr ⟨rfl,jn,tw,hN,rfl,rfl,rfl,rfl,rfl⟩)⟩⟩
 · exact⟨_,_,_,_,_,.inl ⟨Bool.eq_false_iff.2 h,rfl,rfl,rfl,rfl,rfl⟩⟩
theorem endB_ge {m:Nat} {e:Nat→Int} (h:endB m e=true):∀k,k<m→(k:Int)≤e k
 | 0,hk=>(of_decide_eq_true (of_decide_eq_true h 0 hk)).1.1
 | k+1,hk=>by
  have h1:=endB_ge h k (by omega);have h2:=endB_rise h 0 k hk;simp only[Nat.add_zero] at h2
  omega
theorem endB_len {m:Nat} {e:Nat→Int} (h:endB m e=true):m≤40:=by
 rcases Nat.eq_zero_or_pos m with h0 | h0
 · omega
 · have h1:=endB_ge h (m-1) (by omega);have h2:=(of_decide_eq_true (of_decide_eq_true h (m-1) (by omega))).1.2
   omega
theorem PutTo.len {n:Nat} {q:Nat→Int×Int×Int} {L:Nat→Nat} {E:Nat→Nat→Int} {p:Int×Int×Int} {x:Int} {ok:Bool} {N:Nat} {Q:Nat→Int×Int×Int} {L' :Nat→Nat} {E' :Nat→Nat→Int} (h:PutTo n q L E p x ok N Q L' E'):N≤1048576∧∀i,i<N→L' i≤1048576:=by
 rcases h with ⟨_,_,rfl,_⟩ | ⟨h1,h2,h3,j,th,hP,⟨_,_,_,rfl,_⟩ | ⟨_,hn,_,rfl,_,rfl,_⟩ | ⟨ht,jn,tw,hN,_,rfl,_,rfl,_⟩⟩
 · exact⟨by omega,fun i hi=>absurd hi (by omega)⟩
 · exact⟨by omega,fun i hi=>absurd hi (by omega)⟩
 · refine⟨by omega,fun i hi=>?_⟩
   rcases Nat.lt_trichotomy i j with c | c | c
   · rw[insF_lo c];have:=endB_len (evB_end h1 (show i<n by have:=hP.le;omega));omega
   · subst c;rw[insF_at];omega
   · rw[insF_hi c];have:=endB_len (evB_end h1 (show i-1<n by omega));omega
 · have hn:=(evB_pos h1).1;refine⟨by omega,fun i hi=>?_⟩
   by_cases c:i=j
   · subst c;rw[setF_at];have:=endB_len (evB_end h1 hi);unfold inM
     split<;>omega
   · rw[setF_ne c];have:=endB_len (evB_end h1 hi)
     omega
theorem inE_same {m j:Nat} {e:Nat→Int} {x:Int} (h:NumAt m e x j true):inE e j x true=e:=by
 funext i
 unfold inE
 split
 · rfl
 · split
   · rename_i c;subst c;exact((h.t1 rfl).2).symm
   · rfl
theorem noL_ins {m j:Nat} {e:Nat→Int} {x:Int} (h:j≤m):noL (m+1) (inE e j x false)=(noL m e).take (j*1) ++[.int .i64 x] ++(noL m e).drop (j*1):=by
 have l0:(noL m e).length=m:=by simp[noL]
 have l1:((noL m e).take (j*1)).length=j:=by rw[List.length_take,l0];omega
 apply List.ext_getElem?
 intro k
 rcases Nat.lt_trichotomy k j with c | c | c
 · rw[List.append_assoc,List.getElem?_append_left (by omega),List.getElem?_take_of_lt (by omega),noL_at (by omega),noL_at (by omega)];unfold inE;rw[if_pos c]
 · subst c;rw[List.append_assoc,List.getElem?_append_right (by omega),l1,Nat.sub_self,noL_at (by omega)];unfold inE;rw[if_neg (by omega),if_pos rfl]
   rfl
 · rw[List.getElem?_append_right (by rw[List.length_append,l1];show j+1≤k;omega),List.length_append,l1,List.getElem?_drop,show j*1+(k-(j+[Value.int IntKind.i64 x].length))=k-1 by show j*1+(k-(j+1))=k-1;omega]
   by_cases c2:k<m+1
   · rw[noL_at c2,noL_at (by omega)];unfold inE;rw[if_neg (by omega),if_neg (by omega),if_neg (by simp)]
   · rw[List.getElem?_eq_none (by simp[noL];omega),List.getElem?_eq_none (by rw[l0];omega)]
theorem ownE_blk {w:World} {base g n cap:Nat} {e:TypeId} {size:Nat} {xs:List Value} (h:w.ownsRow base e size (.slice (some ⟨g,0,none⟩) n cap) n xs):Blk w g xs:=by
 refine⟨(h.lt g rfl).2,fun i v hi=>⟨?_,?_⟩⟩
 · have h1:=h.cells rfl i v hi;have hadd:(⟨g,0,none⟩:Addr).add i=⟨g,i,none⟩:=by unfold Addr.add;split<;>simp_all
   rw[hadd] at h1;exact h1
 · rcases h.2 with ⟨h',_⟩ | ⟨g',cap',cur,h',_,hg,_⟩
   · cases h'
   · cases h'
     simp[World.frozen?,hg]
theorem ownE_slice {w:World} {base n:Nat} {e:TypeId} {size:Nat} {v:Value} {xs:List Value} (h:w.ownsRow base e size v n xs):∃ao cap,v= .slice ao n cap:=by
 rcases h.2 with ⟨h1,h0⟩ | ⟨g,cap,cur,hv,hb,_⟩
 · subst h0;exact⟨none,0,h1⟩
 · exact⟨_,cap,hv⟩
theorem take_get {xs:List Value} {k j:Nat} {u:Value} (h:(xs.take k)[j]? =some u):xs[j]? =some u:=by
 rw[List.getElem?_take] at h
 split at h
 · exact h
 · cases h
theorem evCs_one {w:World} {base:Nat} {v:Value} {n:Nat} {x:Nat→Int} {s:Nat→Value} {L:Nat→Nat} {E:Nat→Nat→Int} (h:EvOwn w base v n x s L E):∀u∈evCs n x s,u.oneCell' =true:=by
 intro u hu;obtain⟨k,hk,rfl⟩:=List.mem_map.1 hu;have hk:=List.mem_range.1 hk;unfold evC
 split
 · rcases(h.ins (k / 13) (by omega)).2 with ⟨e,_⟩ | ⟨g,c,_,e,_⟩<;>rw[e]<;>rfl
 · rfl
theorem own_one (w:World) (x:Int) {base:Nat} (hb:base≤w.heap.size):(w.alloc (.cells #[.int .i64 x] 2)).ownsRow base 2 1 (.slice (some ⟨w.heap.size,0,none⟩) 1 1) 1 (noL 1 (fun _=>x)):=
 ⟨rfl,.inr ⟨w.heap.size,1,#[.int .i64 x],rfl,hb,heap_alloc_new w _,Nat.le_refl _,by decide,rfl,rfl⟩⟩
end Go.Proofs.YtbogliojkabbjaaGreat
