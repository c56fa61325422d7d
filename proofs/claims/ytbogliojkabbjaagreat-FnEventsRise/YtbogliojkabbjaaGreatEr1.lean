/- Part 1 of the walks that the proof leans on. -/
import Derived.Test.YtbogliojkabbjaaGreatRows
import Derived.WalkKit
import Derived.WalkSpells
import Derived.WalkLawsBesides
import Derived.Laws.Bits64b
import Derived.Deep.QuietTactic
import Derived.BigQuiet
import Derived.Laws.Externs
import Derived.Shelf.Spec.BitsCarry
import Derived.BigRegion
set_option maxRecDepth 100000
set_option maxHeartbeats 16000000
namespace Go.Proofs.YtbogliojkabbjaaGreat
def val:List Int→Int
 | []=>0
 | d::t=>d+4294967296*val t
def Dig (ds:List Int):Prop:=∀d∈ds,0≤d∧d<4294967296
def pw:Nat→Int
 | 0=>1
 | n+1=>4294967296*pw n
theorem pw_pos (n:Nat):0<pw n:=by
 induction n with
 | zero=>simp[pw]
 | succ n ih=>simp only[pw];omega
theorem pw_add (a b:Nat):pw (a+b)=pw a*pw b:=by
 induction a with
 | zero=>simp[pw]
 | succ n ih=>rw[Nat.succ_add,pw,ih,pw,Int.mul_assoc]
theorem pw_mono {a b:Nat} (h:a≤b):pw a≤pw b:=by
 obtain⟨k,rfl⟩:=Nat.exists_eq_add_of_le h;rw[pw_add];have h1:=pw_pos a;have h2:=pw_pos k;have:pw a*1≤pw a*pw k:=Int.mul_le_mul_of_nonneg_left (by omega) (by omega)
 omega
theorem dig_nil:Dig []:=by intro d h;simp at h
theorem dig_cons {d:Int} {t:List Int}:Dig (d::t)↔(0≤d∧d<4294967296)∧Dig t:=by
 constructor
 · intro h;exact⟨h d (by simp),fun x hx=>h x (by simp[hx])⟩
 · rintro⟨h1,h2⟩ x hx
   rcases List.mem_cons.1 hx with rfl | hx
   · exact h1
   · exact h2 x hx
theorem dig_append {a b:List Int}:Dig (a ++b)↔Dig a∧Dig b:=by
 constructor
 · intro h;exact⟨fun x hx=>h x (by simp[hx]),fun x hx=>h x (by simp[hx])⟩
 · rintro⟨h1,h2⟩ x hx
   rcases List.mem_append.1 hx with hx | hx
   · exact h1 x hx
   · exact h2 x hx
theorem dig_take {a:List Int} (h:Dig a) (n:Nat):Dig (a.take n):=fun x hx=>h x (List.mem_of_mem_take hx)
theorem dig_drop {a:List Int} (h:Dig a) (n:Nat):Dig (a.drop n):=fun x hx=>h x (List.mem_of_mem_drop hx)
theorem dig_at {a:List Int} (h:Dig a) (n:Nat) (hn:n<a.length):0≤a[n]∧a[n]<4294967296:=h _ (List.getElem_mem hn)
theorem dig_getD {a:List Int} (h:Dig a) (n:Nat):0≤a.getD n 0∧a.getD n 0<4294967296:=by
 by_cases hn:n<a.length
 · have:=dig_at h n hn;simpa [List.getD,hn] using this
 · simp[List.getD,hn]
theorem val_append (a b:List Int):val (a ++b)=val a+pw a.length*val b:=by
 induction a with
 | nil=>simp[val,pw]
 | cons d t ih=>
  simp only[List.cons_append,val,List.length_cons,pw,ih,Int.mul_add,Int.mul_assoc]
  omega
theorem val_snoc (a:List Int) (d:Int):val (a ++[d])=val a+pw a.length*d:=by
 rw[val_append];simp[val]
theorem val_nonneg {a:List Int} (h:Dig a):0≤val a:=by
 induction a with
 | nil=>simp[val]
 | cons d t ih=>
  obtain⟨h1,h2⟩:=dig_cons.1 h;have:=ih h2;simp only[val];omega
theorem val_lt {a:List Int} (h:Dig a):val a<pw a.length:=by
 induction a with
 | nil=>simp[val,pw]
 | cons d t ih=>
  obtain⟨h1,h2⟩:=dig_cons.1 h;have:=ih h2;simp only[val,List.length_cons,pw];omega
theorem val_zeros (n:Nat):val (List.replicate n 0)=0:=by
 induction n with
 | zero=>rfl
 | succ n ih=>simp[List.replicate_succ,val,ih]
theorem val_take_succ (a:List Int) (k:Nat) (h:k<a.length):val (a.take (k+1))=val (a.take k)+pw k*a[k]:=by
 rw[List.take_succ_eq_append_getElem h,val_snoc]
 simp[Nat.min_eq_left (Nat.le_of_lt h)]
theorem val_take_all (a:List Int) (k:Nat) (h:a.length≤k):val (a.take k)=val a:=by
 rw[List.take_of_length_le h]
def Nrm (ds:List Int):Prop:=Dig ds∧(ds=[]∨∃t d,ds=t ++[d]∧d≠0)
theorem nrm_nil:Nrm []:=⟨dig_nil,Or.inl rfl⟩
theorem nrm_low {ds:List Int} (h:Nrm ds) (hne:ds≠[]):pw (ds.length-1)≤val ds:=by
 obtain⟨hd,h | ⟨t,d,rfl,h⟩⟩:=h
 · exact absurd h hne
 · obtain⟨h1,h2⟩:=dig_append.1 hd;have h3:=(dig_cons.1 h2).1;rw[val_snoc];have h4:=val_nonneg h1;have h5:=pw_pos t.length;have:pw t.length*1≤pw t.length*d:=Int.mul_le_mul_of_nonneg_left (by omega) (by omega);simp only[List.length_append,List.length_cons,List.length_nil];simp only[Nat.zero_add,Nat.add_sub_cancel]
   omega
theorem nrm_pos {ds:List Int} (h:Nrm ds) (hne:ds≠[]):0<val ds:=by
 have:=nrm_low h hne;have:=pw_pos (ds.length-1)
 omega
theorem nrm_zero {ds:List Int} (h:Nrm ds):val ds=0↔ds=[]:=by
 constructor
 · intro h0
   by_cases hne:ds=[]
   · exact hne
   · have:=nrm_pos h hne;omega
 · rintro rfl;rfl
theorem nrm_length {ds:List Int} (h:Nrm ds) (k:Nat) (hv:val ds<pw k):ds.length≤k:=by
 by_cases hne:ds=[]
 · simp[hne]
 · have h1:=nrm_low h hne
   by_cases hk:ds.length≤k
   · exact hk
   · exfalso
     have h3:=pw_mono (a:=k) (b:=ds.length-1) (by omega)
     omega
theorem nrm_more {a b:List Int} (ha:Nrm a) (hb:Nrm b) (h:a.length<b.length):val a<val b:=by
 have h1:=val_lt ha.1;have hne:b≠[]:=by intro h';simp[h'] at h
 have h2:=nrm_low hb hne;have h3:=pw_mono (a:=a.length) (b:=b.length-1) (by omega)
 omega
theorem val_cut (ds:List Int) (n:Nat) (h:∀j,n≤j→(hj:j<ds.length)→ds[j]=0):val (ds.take n)=val ds:=by
 by_cases hn:ds.length≤n
 · rw[List.take_of_length_le hn]
 · have e:ds=ds.take n ++ds.drop n:=(List.take_append_drop n ds).symm;have hz:ds.drop n=List.replicate (ds.length-n) 0:=by
    apply List.ext_getElem
    · simp
    · intro i h1 h2;simp only[List.getElem_drop,List.getElem_replicate];exact h _ (by omega) _
   have h2:val ds=val (ds.take n)+pw (ds.take n).length*val (ds.drop n):=by
    have:=val_append (ds.take n) (ds.drop n);rwa [List.take_append_drop] at this
   rw[h2,hz,val_zeros,Int.mul_zero,Int.add_zero]
theorem nrm_take {ds:List Int} (hd:Dig ds) (n:Nat) (hn:n<ds.length) (h0:ds[n]≠0):Nrm (ds.take (n+1)):=by
 refine⟨dig_take hd _,Or.inr ⟨ds.take n,ds[n],List.take_succ_eq_append_getElem hn,h0⟩⟩
def cmpI (x y:Int):Int:=if x<y then -1 else if y<x then 1 else 0
theorem cmpI_lt {x y:Int} (h:x<y):cmpI x y= -1:=by simp[cmpI,h]
theorem cmpI_gt {x y:Int} (h:y<x):cmpI x y=1:=by unfold cmpI;rw[if_neg (by omega),if_pos h]
theorem cmpI_eq {x y:Int} (h:x=y):cmpI x y=0:=by subst h;simp[cmpI]
theorem val_split (a:List Int) (k:Nat) (h:k<a.length):val a=val (a.take k)+pw k*(a[k]+4294967296*val (a.drop (k+1))):=by
 have h1:=val_append (a.take k) (a.drop k);rw[List.take_append_drop,List.drop_eq_getElem_cons h] at h1
 simpa [val,Nat.min_eq_left (Nat.le_of_lt h)] using h1
theorem val_above {a b:List Int} (ha:Dig a) (hb:Dig b) (k:Nat) (h1:k<a.length) (h2:k<b.length) (he:a.drop (k+1)=b.drop (k+1)) (hlt:a[k]<b[k]):val a<val b:=by
 rw[val_split a k h1,val_split b k h2,he];have e1:=val_lt (dig_take ha k);have e2:=val_nonneg (dig_take hb k);have e3:(a.take k).length=k:=by simp;omega
 rw[e3] at e1;have e4:=pw_pos k;generalize pw k=p at *;generalize 4294967296*val (List.drop (k+1) b)=r;have e5:p*(a[k]+r)+p≤p*(b[k]+r):=by
  have:p*(a[k]+r+1)≤p*(b[k]+r):=Int.mul_le_mul_of_nonneg_left (by omega) (by omega);rw[Int.mul_add p (a[k]+r) 1] at this
  omega
 omega
theorem val_take_getD (a:List Int) (k:Nat):val (a.take (k+1))=val (a.take k)+pw k*a.getD k 0:=by
 by_cases h:k<a.length
 · rw[val_take_succ a k h];simp[List.getD,h]
 · rw[List.take_of_length_le (by omega),List.take_of_length_le (by omega)];simp[List.getD,h]
theorem sub_eq (xs ys zs:List Int) (k:Nat) (hl:zs.length=k) (cv c' v:Int) (hc:cv=0∨cv=1) (hc' :c' =0∨c' =1)
 (eq:val zs=val (xs.take k)-val (ys.take k)+cv*pw k) (he:v=xs.getD k 0-ys.getD k 0-cv+c' *4294967296) :
 val (zs ++[v])=val (xs.take (k+1))-val (ys.take (k+1))+c' *pw (k+1):=by
 rw[val_snoc,hl,val_take_getD,val_take_getD,eq,he,pw]
 rcases hc with rfl | rfl<;>rcases hc' with rfl | rfl<;>simp only[Int.mul_sub,Int.mul_add,Int.mul_one,Int.mul_zero,Int.zero_mul,Int.one_mul]<;>omega
theorem sub_end (xs ys zs:List Int) (n:Nat) (hx:xs.length=n) (hz:zs.length=n) (dx:Dig xs) (dy:Dig ys) (dz:Dig zs) (hle:val ys≤val xs) (cv:Int) (hc:cv=0∨cv=1)
 (eq:val zs=val (xs.take n)-val (ys.take n)+cv*pw n):val zs=val xs-val ys:=by
 rw [val_take_all xs n (by omega)] at eq;have h1:=val_lt dx;have h2:=val_lt dz;rw[hx] at h1;rw[hz] at h2;have h3:val (ys.take n)=val ys:=by
  by_cases hn:ys.length≤n
  · exact val_take_all ys n hn
  · have e:=val_append (ys.take n) (ys.drop n);rw[List.take_append_drop] at e;have e1:(ys.take n).length=n:=by simp;omega
    rw[e1] at e;have e2:=val_nonneg (dig_take dy n);have e3:=val_nonneg (dig_drop dy n)
    by_cases e4:val (ys.drop n)=0
    · rw[e4] at e;omega
    · exfalso
      have:pw n*1≤pw n*val (ys.drop n):=Int.mul_le_mul_of_nonneg_left (by omega) (by have:=pw_pos n;omega)
      omega
 rw[h3] at eq
 rcases hc with rfl | rfl
 · omega
 · omega
theorem left_eq (ds zs:List Int) (q k:Nat) (hl:zs.length=q+k) (p c x:Int) (eq:val zs+c*pw (q+k)=pw q*(p*val (ds.take k))) (hk:k<ds.length) (hx:x=c+ds[k]*p) :
 val (zs ++[x%4294967296])+x / 4294967296*pw (q+(k+1))=pw q*(p*val (ds.take (k+1))):=by
 rw[val_snoc,hl,val_take_succ ds k hk,show q+(k+1)=(q+k)+1 by omega,pw];have e1:x / 4294967296*(4294967296*pw (q+k))=pw (q+k)*(4294967296*(x / 4294967296)):=by
  rw[Int.mul_comm (pw (q+k)),Int.mul_comm 4294967296 (x / 4294967296),Int.mul_assoc]
 have e2:pw (q+k)*(x%4294967296)+pw (q+k)*(4294967296*(x / 4294967296))=pw (q+k)*x:=by
  rw[←Int.mul_add,Int.emod_add_mul_ediv]
 have e3:pw q*(p*(val (ds.take k)+pw k*ds[k]))=pw q*(p*val (ds.take k))+pw (q+k)*(ds[k]*p):=by
  rw[pw_add,Int.mul_add,Int.mul_add,Int.mul_assoc (pw q),←Int.mul_assoc p,Int.mul_comm p (pw k),Int.mul_assoc (pw k),Int.mul_comm p ds[k]]
 rw[e3,←eq,e1,Int.add_assoc,e2,hx,Int.mul_add,Int.mul_comm c]
 omega
theorem left_carry (c d p:Int) (hc0:0≤c) (hc:c<p) (hd0:0≤d) (hd:d<4294967296):0≤c+d*p∧(c+d*p) / 4294967296<p:=by
 have h1:0≤d*p:=Int.mul_nonneg hd0 (by omega);have h2:d*p≤4294967295*p:=Int.mul_le_mul_of_nonneg_right (by omega) (by omega);exact⟨by omega,by omega⟩
theorem pw_two (n:Nat):pw n=((2 ^ (32*n):Nat):Int):=by
 induction n with
 | zero=>simp[pw]
 | succ n ih=>
  rw[pw,ih,show 32*(n+1)=32*n+32 by omega,Nat.pow_add]
  simp[Int.mul_comm]
def BitsOf (v:Int) (b:Nat):Prop:=0≤v∧v<2 ^ b∧(b=0∨(2:Int) ^ (b-1)≤v)
theorem ipow2 (r:Nat):((2:Int) ^ r)=(((2:Nat) ^ r:Nat):Int):=by simp
theorem ipow2_mono {a b:Nat} (h:a≤b):(2:Int) ^ a≤2 ^ b:=by
 rw[ipow2,ipow2];have:=Nat.pow_le_pow_right (n:=2) (by omega) h
 omega
theorem bits_le {v:Int} {b:Nat} (h:BitsOf v b) (m:Nat):b≤m↔v<2 ^ m:=by
 obtain⟨h0,h1,h2⟩:=h
 constructor
 · intro hm;have:=ipow2_mono hm;omega
 · intro hv
   rcases h2 with h2 | h2
   · omega
   · by_cases hm:b≤m
     · exact hm
     · have:=ipow2_mono (a:=m) (b:=b-1) (by omega);omega
theorem bits_top (ds:List Int) (hd:Dig ds) (t:Int) (l:List Int) (hds:ds=l ++[t]) (j:Nat) (hj:BitsOf t j) (ht:t≠0):BitsOf (val ds) (32*l.length+j):=by
 subst hds;obtain⟨h1,h2⟩:=dig_append.1 hd;have e1:=val_lt h1;have e2:=val_nonneg h1;obtain⟨g0,g1,g2⟩:=hj;have hp:(2:Int) ^ (32*l.length)=pw l.length:=by rw[pw_two,ipow2]
 have p0:=pw_pos l.length;have e3:(2:Int) ^ (32*l.length+j)=pw l.length*2 ^ j:=by rw[Int.pow_add,hp]
 rw[val_snoc];refine⟨by have:=Int.mul_nonneg (Int.le_of_lt p0) g0;omega,?_,Or.inr ?_⟩
 · rw[e3];have:pw l.length*(t+1)≤pw l.length*2 ^ j:=Int.mul_le_mul_of_nonneg_left (by omega) (by omega);rw[Int.mul_add] at this
   omega
 · have hj0:j≠0:=by
    rintro rfl
    simp at g1;omega
   rcases g2 with g2 | g2
   · omega
   · rw[show 32*l.length+j-1=32*l.length+(j-1) by omega,Int.pow_add,hp];have:pw l.length*2 ^ (j-1)≤pw l.length*t:=Int.mul_le_mul_of_nonneg_left g2 (by omega)
     omega
theorem bits_half {t x:Int} {j:Nat} (ht:0≤t) (hx:x=t / 2 ^ j) (hj:j=0∨(2:Int) ^ (j-1)≤t) (h0:x=0):BitsOf t j:=by
 refine⟨ht,?_,hj⟩;have hp:(0:Int)<2 ^ j:=Int.pow_pos (by decide);rw[h0] at hx;exact Int.lt_of_not_ge (fun h=>by
  have:=(Int.le_ediv_iff_mul_le hp (a:=1) (b:=t)).2 (by omega)
  omega)
theorem bits_half_step {t x:Int} {j:Nat} (hx:x=t / 2 ^ j) (h0:0<x):x / 2=t / 2 ^ (j+1)∧(j+1=0∨(2:Int) ^ (j+1-1)≤t):=by
 have hp:(0:Int)<2 ^ j:=Int.pow_pos (by decide)
 constructor
 · rw[hx,Int.pow_succ,Int.ediv_ediv_of_nonneg (by omega)]
 · right
   simp only[Nat.add_sub_cancel];have:1*2 ^ j≤t:=(Int.le_ediv_iff_mul_le hp).1 (by omega)
   omega
open Go.RowKit
def Rd (w:World) (ao:Option Addr) (ds:List Int):Prop:=
 ∀i,(h:i<ds.length)→∃b off,ao=some ⟨b,off,none⟩∧b<w.heap.size∧w.cell? ⟨b,off+i,none⟩=some (.int .u32 ds[i])
theorem Rd.nil (w:World) (ao:Option Addr):Rd w ao []:=by intro i h;simp at h
theorem Rd.below {w w' :World} {ao:Option Addr} {ds:List Int} (h:Rd w ao ds) {B:Nat} (hb:Below B w w') (hB:w.heap.size≤B):Rd w' ao ds:=by
 intro i hi;obtain⟨b,off,e,hl,hc⟩:=h i hi;refine⟨b,off,e,Nat.lt_of_lt_of_le hl hb.size,?_⟩;rw[hb.cell (by show b<B;omega)];exact hc
theorem Rd.take {w:World} {ao:Option Addr} {ds:List Int} (h:Rd w ao ds) (n:Nat):Rd w ao (ds.take n):=by
 intro i hi;have:i<ds.length:=by simp at hi;omega
 obtain⟨b,off,e,hl,hc⟩:=h i this;exact⟨b,off,e,hl,by rw[hc];simp⟩
theorem cell_alloc {w:World} {o:Obj} {b off:Nat} {v:Value} (hb:b<w.heap.size) (h:w.cell? ⟨b,off,none⟩=some v):(w.alloc o).cell? ⟨b,off,none⟩=some v:=by
 rw[((Below.refl w.heap.size w).alloc (Nat.le_refl _) o).cell (p:=⟨b,off,none⟩) hb];exact h
theorem ret_int {k:IntKind} {a b:Int} (h:b=a):Ending.returned (.int k a)= .returned (.int k b):=by rw[h]
theorem bdrew {B:Nat} {a w:World} (h:Below B a w) (n:Nat):Below B a (w.drewN n):=⟨h.os,h.tape,h.output,h.size,h.block⟩
theorem one_cell (k:IntKind) (x:Int):∀u∈[Value.int k x],u.oneCell' =true:=by
 intro u hu;simp only[List.mem_singleton] at hu;subst hu;rfl
theorem Rd.own {w:World} {base g n cap:Nat} {e:TypeId} {zs:List Int} (h:w.ownsRow base e 1 (.slice (some ⟨g,0,none⟩) n cap) n (zs.map (Value.int .u32))) (hl:zs.length=n):Rd w (some ⟨g,0,none⟩) zs:=by
 intro i hi;refine⟨g,0,rfl,(h.lt g rfl).2,?_⟩;rw[Nat.zero_add,h.cellAt i (by omega)]
 simp[hi]
theorem own_cap {w:World} {base g n cap:Nat} {e:TypeId} {xs:List Value} (h:w.ownsRow base e 1 (.slice (some ⟨g,0,none⟩) n cap) n xs):n≤cap:=by
 rcases h.2 with ⟨h',_⟩ | ⟨g',cap',cur,h',_,_,hc,_⟩
 · simp at h'
 · simp only[Value.slice.injEq,Option.some.injEq,Addr.mk.injEq,and_true,true_and] at h'
   omega
theorem own_shape {w:World} {base n:Nat} {e:TypeId} {v:Value} {xs:List Value} (h:w.ownsRow base e 1 v n xs) (hne:v≠.slice none 0 0):∃g cap,v= .slice (some ⟨g,0,none⟩) n cap:=by
 rcases h.2 with ⟨h',_⟩ | ⟨g,cap,_,h',_⟩
 · exact absurd h' hne
 · exact⟨g,cap,h'⟩
theorem made_one (v:Value) (q:Nat):(madeCells #[v] q).toList=List.replicate q v:=by
 apply List.ext_getElem
 · simp[madeCells]
 · intro i h1 h2
   simp[madeCells,Nat.mod_one]
theorem field_d (x0 x1:Value) (w:World):(Instr.field 64 (.agg #[x0,x1]) 1).run Tryz.prog w= .ok x1 w:=by kernel_rfl
theorem Rd.set {w:World} {ao:Option Addr} {ds:List Int} (h:Rd w ao ds) {p:Addr} {v:Value} (u:Value) (hp:w.cell? p=some v) (hv:∀x,v≠.int .u32 x):Rd (w.setCell p u) ao ds:=by
 intro i hi;obtain⟨b,off,e,hl,hc⟩:=h i hi;refine⟨b,off,e,by simpa [World.setCell] using hl,?_⟩;have hne:p≠⟨b,off+i,none⟩:=by
  intro e';rw[e',hc] at hp;exact hv _ (by simpa using hp.symm)
 exact(World.cell?_setCell_other _ _ _ _ hne).trans hc
theorem Rd.lit (w:World) {cs:Array Value} {e:TypeId} {zs:List Int} {g:Nat} (hg:g=w.heap.size) (h:cs.toList=zs.map (Value.int .u32)) (hl:zs.length≤maxLen):Rd (w.alloc (.cells cs e)) (some ⟨g,0,none⟩) zs:=by
 subst hg;have hs:cs.size=zs.length*1:=by rw[←Array.length_toList,h];simp
 have:=World.ownsRow_lit (base:=w.heap.size) (e:=e) (size:=1) w cs zs.length (Nat.le_refl _) hl hs;rw[h] at this;exact Rd.own this rfl
theorem res2 {w w3:World} {a b:Value} {T:TypeId} (h:Below (w.heap.size+1) (w.alloc (.cells #[a,b] T)) w3) :
 w3.cell? ⟨w.heap.size,0,none⟩=some a∧w3.cell? ⟨w.heap.size,1,none⟩=some b∧w3.frozen? ⟨w.heap.size,0,none⟩=false∧w3.frozen? ⟨w.heap.size,1,none⟩=false∧w.heap.size<w3.heap.size∧Below w.heap.size w w3:=by
 refine⟨?_,?_,?_,?_,?_,((Below.refl _ _).alloc (Nat.le_refl _) _).trans (h.mono (Nat.le_succ _))⟩
 · rw[h.cell (p:=⟨w.heap.size,0,none⟩) (Nat.lt_succ_self _)];simp[go_sem]
 · rw[h.cell (p:=⟨w.heap.size,1,none⟩) (Nat.lt_succ_self _)];simp[go_sem]
 · rw[h.frozen (p:=⟨w.heap.size,0,none⟩) (Nat.lt_succ_self _)];simp[go_sem]
 · rw[h.frozen (p:=⟨w.heap.size,1,none⟩) (Nat.lt_succ_self _)];simp[go_sem]
 · have:=h.size;simp at this;omega
theorem bcell {W w1:World} (hb:Below W.heap.size W w1):(∀b o,b<W.heap.size→w1.cell? ⟨b,o,none⟩=W.cell? ⟨b,o,none⟩)∧(∀b o,b<W.heap.size→w1.frozen? ⟨b,o,none⟩=W.frozen? ⟨b,o,none⟩):=
 ⟨fun b o h=>hb.cell (p:=⟨b,o,none⟩) h,fun b o h=>hb.frozen (p:=⟨b,o,none⟩) h⟩
structure IsNum (w:World) (s:Bool) (ao:Option Addr) (n cap:Nat) (ds:List Int) (z:Int) (k:Nat):Prop where
 neg:s=decide (z<0)
 len:ds.length=n
 cap:n≤cap
 rd:Rd w ao ds
 nrm:Nrm ds
 val:val ds=(z.natAbs:Int)
 le:n≤k
def NumP (k:Nat) (z:Int) (w:World) (e:Ending) (w' :World):Prop:=
 ∃(s:Bool) (ao:Option Addr) (n cap:Nat) (ds:List Int),e= .returned (.agg #[.bool s,.slice ao n cap])∧IsNum w' s ao n cap ds z k∧Below w.heap.size w w'
theorem num_ret {w w3:World} {s:Bool} {ao:Option Addr} {n cap:Nat} {ds:List Int} {z:Int} {k R:Nat} {b0:Bool} {a0:Option Addr} {n0 c0:Nat} (hR:w.heap.size≤R) (h0:w3.cell? ⟨R,0,none⟩=some (.bool b0)) (h1:w3.cell? ⟨R,1,none⟩=some (.slice a0 n0 c0))
 (h:IsNum w3 s ao n cap ds z k) (hb:Below w.heap.size w w3):NumP k z w (.returned (.agg #[.bool s,.slice ao n cap])) ((w3.setCell ⟨R,0,none⟩ (.bool s)).setCell ⟨R,1,none⟩ (.slice ao n cap)):=by
 refine⟨s,ao,n,cap,ds,rfl,⟨h.neg,h.len,h.cap,?_,h.nrm,h.val,h.le⟩,(hb.setCell hR _).setCell hR _⟩;have h2:(w3.setCell ⟨R,0,none⟩ (.bool s)).cell? ⟨R,1,none⟩=some (.slice a0 n0 c0):=(World.cell?_setCell_other _ _ _ _ (by simp)).trans h1;exact(h.rd.set _ h0 (by simp)).set _ h2 (by simp)
theorem num_of {w:World} {neg s:Bool} {ao:Option Addr} {n cap:Nat} {ds' :List Int} {z:Int} {k:Nat} {v:Int} (k1:ds'.length=n) (k2:n≤cap) (k3:n≤k) (k4:Nrm ds') (k5:val ds' =v) (k6:s=(neg&&decide (v≠0))) (k7:Rd w ao ds')
 (hv:v=(z.natAbs:Int)) (hn:z≠0→neg=decide (z<0)):IsNum w s ao n cap ds' z k:=by
 refine⟨?_,k1,k2,k7,k4,by rw[k5,hv],k3⟩
 by_cases hz:z=0
 · subst hz;rw[k6,hv];simp
 · rw[k6,hn hz,hv];simp[hz]
theorem IsNum.below {w w' :World} {s:Bool} {ao:Option Addr} {n cap:Nat} {ds:List Int} {z:Int} {k:Nat} (h:IsNum w s ao n cap ds z k) (hb:Below w.heap.size w w'):IsNum w' s ao n cap ds z k:=
 ⟨h.neg,h.len,h.cap,h.rd.below hb (Nat.le_refl _),h.nrm,h.val,h.le⟩
theorem IsNum.tight {w:World} {s:Bool} {ao:Option Addr} {n cap:Nat} {ds:List Int} {z:Int} {k:Nat} (h:IsNum w s ao n cap ds z k) (m:Nat) (hz:(z.natAbs:Int)<pw m):IsNum w s ao n cap ds z m:=
 ⟨h.neg,h.len,h.cap,h.rd,h.nrm,h.val,by have:=nrm_length h.nrm m (by rw[h.val];exact hz);rw[h.len] at this;exact this⟩
theorem IsNum.zero {w:World} {s:Bool} {ao:Option Addr} {n cap:Nat} {ds:List Int} {z:Int} {k:Nat} (h:IsNum w s ao n cap ds z k):n=0↔z=0:=by
 have h1:=nrm_zero h.nrm;have h2:=h.val;have h3:=h.len
 constructor
 · intro h0;have:ds=[]:=List.eq_nil_of_length_eq_zero (by omega);have:=h1.2 this;omega
 · rintro rfl;have:ds=[]:=h1.1 (by rw[h2];rfl);rw[this] at h3;simpa using h3.symm
def TrimP (neg:Bool) (n:Nat) (ds:List Int) (w:World) (e:Ending) (w' :World):Prop:=
 ∃(neg' :Bool) (ao' :Option Addr) (n' cap' :Nat) (ds' :List Int),e= .returned (.agg #[.bool neg',.slice ao' n' cap'])∧
  ds'.length=n' ∧n' ≤cap' ∧n' ≤n∧Nrm ds' ∧val ds' =val ds∧neg' =(neg&&decide (val ds≠0))∧Rd w' ao' ds' ∧Below w.heap.size w w'
theorem trim_some (neg:Bool) (n cap:Nat) (ds:List Int) (w w' :World) {b off:Nat} (hn:ds.length=n) (hc:n≤cap) (hd:Dig ds) (hr:Rd w (some ⟨b,off,none⟩) ds) (m:Nat) (hm:m<ds.length) (h0:ds[m]≠0)
 (hz:∀j,m+1≤j→(h:j<ds.length)→ds[j]=0) (hb:Below w.heap.size w w') :
 TrimP neg n ds w (.returned (.agg #[.bool neg,.slice (some ⟨b,off,none⟩) (m+1) cap])) w' :=by
 have hv:=val_cut ds (m+1) hz;have hnr:=nrm_take hd m hm h0;refine⟨neg,_,m+1,cap,ds.take (m+1),rfl,by simp;omega,by omega,by omega,hnr,hv,?_,(hr.take _).below hb (Nat.le_refl _),hb⟩;have hne:ds.take (m+1)≠[]:=by intro h;have:=congrArg List.length h;simp at this;subst this;simp at hm
 have:=nrm_pos hnr hne
 simp;intro _;omega
theorem trim_none (neg:Bool) (n:Nat) (ds:List Int) (w w' :World) (hz:∀j,(h:j<ds.length)→ds[j]=0) (hb:Below w.heap.size w w') :
 TrimP neg n ds w (.returned (.agg #[.bool false,.slice none 0 0])) w' :=by
 have hv:=val_cut ds 0 (fun j _ h=>hz j h)
 simp[val] at hv
 exact⟨false,none,0,0,[],rfl,rfl,Nat.le_refl _,Nat.zero_le _,nrm_nil,by simp[val,←hv],by simp[←hv],Rd.nil _ _,hb⟩
theorem trim_any (neg:Bool) (ao:Option Addr) (n cap:Nat) (ds:List Int) (w:World) (hn:ds.length=n) (hc:n≤cap) (hd:Dig ds) (hr:Rd w ao ds) (hm:n≤1000000000) :
 Calls Tryz.prog 68 #[.bool neg,.slice ao n cap] w (TrimP neg n ds w):=by
 go_enter Tryz.func68,Tryz.ntmps68
 go_wp2
 go_loop [5] (fun i=>∃k:Nat,k≤n∧i= .int .i64 k∧∀j,k≤j→(h:j<ds.length)→ds[j]=0) (fun i=>(intOf i).toNat)
 case atStart=>exact⟨n,Nat.le_refl _,rfl,fun j h1 h2=>by omega⟩
 case round=>
  obtain⟨k,hk,rfl,hz⟩:=hrel;have HN:Hid (ds.length=n):=hn;have HD:Hid (Dig ds):=hd;have HZ:Hid (∀j,k≤j→(h:j<ds.length)→ds[j]=0):=hz;have HR:Hid (Rd w ao ds):=hr;clear hz hr hd hn
  by_cases hk0:0<k
  · obtain⟨m,rfl⟩:∃m,k=m+1:=⟨k-1,by omega⟩;have hml:m<ds.length:=by have:=HN.out;omega
    obtain⟨b,off,rfl,hbl,hcell0⟩:=HR.out m hml;have hcell:=cell_alloc (o:=Obj.cells #[Value.bool false,Value.slice none 0 0] 64) hbl hcell0;clear hcell0;go_wp2
    · go_round
      case rel=>
       have h0:(ds[m]==0)=true:=by assumption
       exact⟨m,by omega,by go_num,fun j h1 h2=>by
        by_cases e:j=m
        · subst e;simpa using h0
        · exact HZ.out j (by omega) h2⟩
      case measure=>simp[intOf]
    · refine bodyPost_ret (v:= .agg #[.bool neg,.slice (some ⟨b,off,none⟩) (m+1) cap]) (by simp[results,Tryz.results68,go_sem]) rfl ?_;have h0:(ds[m]==0)=false:=by assumption
      exact trim_some neg n cap ds w _ HN.out hc HD.out HR.out m hml (by simpa using h0) HZ.out ((Below.refl _ _).alloc (Nat.le_refl _) _)
  · go_wp2;refine bodyPost_ret (v:= .agg #[.bool false,.slice none 0 0]) (by simp[results,Tryz.results68,go_sem]) rfl ?_;exact trim_none neg n ds w _ (fun j h=>HZ.out j (by omega) h) ((Below.refl _ _).alloc (Nat.le_refl _) _)
theorem Tryz.info88:(Tryz.prog.info? 108).map (fun i=>(i.zero,i.size,i.bytes))=some (some (.int .u32 0),1,4):=by kernel_rfl
def DigsP (n:Nat) (z:Int) (w:World) (e:Ending) (w' :World):Prop:=
 ∃(ao:Option Addr) (cap:Nat) (zs:List Int),e= .returned (.slice ao n cap)∧zs.length=n∧n≤cap∧Dig zs∧val zs=z∧Rd w' ao zs∧Below w.heap.size w w'
structure SubI (w wr:World) (n:Nat) (xs ys:List Int) (k:Nat) (cv:Int) (zs:List Int):Prop where
 len:zs.length=k
 dig:Dig zs
 eq:val zs=val (xs.take k)-val (ys.take k)+cv*pw k
 own:wr.ownsRow w.heap.size 108 1 (.slice (some ⟨w.heap.size,0,none⟩) k n) k (zs.map (Value.int .u32))
 below:Below w.heap.size w wr
theorem sub_step {w wr w2:World} {n:Nat} {xs ys:List Int} {k:Nat} {cv:Int} {zs:List Int} (hI:SubI w wr n xs ys k cv zs) (hc0:0≤cv) (hc1:cv≤1) (v c' :Int) (hc' :c' =0∨c' =1) (h0:0≤v) (h1:v<4294967296)
 (he:v=xs.getD k 0-ys.getD k 0-cv+c' *4294967296) {o:Obj} (hown:w2.ownsRow w.heap.size 108 1 (.slice (some ⟨w.heap.size,0,none⟩) (k+1) n) (k+1) (zs.map (Value.int .u32) ++[.int .u32 v]))
 (hgrow:(wr.alloc o).grownBy w2 (some w.heap.size)):SubI w w2 n xs ys (k+1) c' (zs ++[v]):=by
 refine⟨by simp[hI.len],dig_append.2 ⟨hI.dig,dig_cons.2 ⟨⟨h0,h1⟩,dig_nil⟩⟩,sub_eq xs ys zs k hI.len cv c' v (by omega) hc' hI.eq he,by simpa using hown,?_⟩;have hs:=hI.below.size;refine(hI.below.alloc hs o).grown hgrow (by simp;omega) ?_;intro j hj;cases hj;exact Nat.le_refl _
theorem sub_done {w wr:World} {n:Nat} {xs ys:List Int} {cv:Int} {zs:List Int} (hI:SubI w wr n xs ys n cv zs) (hc0:0≤cv) (hc1:cv≤1) (hx:xs.length=n) (dx:Dig xs) (dy:Dig ys) (hle:val ys≤val xs) :
 DigsP n (val xs-val ys) w (.returned (.slice (some ⟨w.heap.size,0,none⟩) n n)) wr:=
 ⟨_,n,zs,rfl,hI.len,Nat.le_refl _,hI.dig,sub_end xs ys zs n hx hI.len dx dy hI.dig hle cv (by omega) hI.eq,Rd.own hI.own hI.len,hI.below⟩
theorem subAbs_any (ao bo:Option Addr) (n m ca cb:Nat) (xs ys:List Int) (w:World) (hx:xs.length=n) (hy:ys.length=m) (dx:Dig xs) (dy:Dig ys) (rx:Rd w ao xs) (ry:Rd w bo ys) (hm:n≤1000000) (_hm' :m≤1000000)
 (hle:val ys≤val xs) :
 Calls Tryz.prog 83 #[.slice ao n ca,.slice bo m cb] w (DigsP n (val xs-val ys) w):=by
 obtain⟨i0,hi,hz0,hz1,hz2⟩:=info_parts Tryz.info88;have HX:Hid (xs.length=n):=hx;have HY:Hid (ys.length=m):=hy;have HDX:Hid (Dig xs):=dx;have HDY:Hid (Dig ys):=dy;have HRX:Hid (Rd w ao xs):=rx;have HRY:Hid (Rd w bo ys):=ry;have HLE:Hid (val ys≤val xs):=hle;clear rx ry dx dy hx hy hle
 go_enter Tryz.func83,Tryz.ntmps83
 go_wp2_with (at_make;refine wpList_make_own _ rfl _ _ 62 rfl w.heap.size 108 i0 (.int .u32 0) 1 Tryz.underlying62 hi hz0 hz1 _ _ _ n rfl rfl rfl (by rw[hz2];omega) (by unfold maxLen;omega) (Nat.le_refl _) ?_)
 intro w1 hown hgrow;go_wp2
 go_loopw [5,6,7] (fun o c i wr=>∃(k:Nat) (cv:Int) (zs:List Int),k≤n∧i= .int .i64 k∧0≤cv∧cv≤1∧c= .int .u64 cv∧o= .slice (some ⟨w.heap.size,0,none⟩) k n∧SubI w wr n xs ys k cv zs) (fun _ _ i _=>n-(intOf i).toNat)
 case atStart=>exact⟨0,0,[],Nat.zero_le _,rfl,by decide,by decide,rfl,rfl,⟨rfl,dig_nil,by simp[val],hown,(Below.refl _ _).grown hgrow (Nat.le_refl _) (by simp)⟩⟩
 case round=>
  obtain⟨k,cv,zs,hk,rfl,hc0,hc1,rfl,rfl,hI⟩:=hrel
  by_cases hkn:k<n
  · have hkx:k<xs.length:=by have:=HX.out;omega
    obtain⟨b,off,rfl,hbl,hcx0⟩:=HRX.out k hkx;have hcx:=(hI.below.cell (p:=⟨b,off+k,none⟩) hbl).trans hcx0;clear hcx0;have hxd:=dig_at HDX.out k hkx;obtain⟨hx0,hx1⟩:=hxd
    by_cases hkm:k<m
    · have hky:k<ys.length:=by have:=HY.out;omega
      obtain⟨b',off',rfl,hbl',hcy0⟩:=HRY.out k hky;have hcy:=(hI.below.cell (p:=⟨b',off' +k,none⟩) hbl').trans hcy0;clear hcy0;obtain⟨hy0,hy1⟩:=dig_at HDY.out k hky
      by_cases hlt:xs[k]<cv+ys[k]
      · go_wp2_with (at_builtin;refine wpList_append_fits _ rfl _ _ 62 rfl w.heap.size 108 i0 1 Tryz.underlying62 hi hz1 w.heap.size k n _ rfl (hI.own.alloc _) ⟨wr.heap.size,0,none⟩ 1 1 [.int .u32 (xs[k]+4294967296-(cv+ys[k]))] rfl rfl (cell_one_new _ _ _) (one_cell _ _) (by omega) ?_)
        intro w2 hown2 hgrow2;go_wp2;go_roundw
        case rel=>exact⟨k+1,1,zs ++[xs[k]+4294967296-(cv+ys[k])],by omega,by go_num,by decide,by decide,rfl,rfl,sub_step hI hc0 hc1 _ 1 (by decide) (by omega) (by omega) (by simp[List.getD,hkx,hky]<;>omega) hown2 hgrow2⟩
        case measure=>simp[intOf];omega
      · go_wp2_with (at_builtin;refine wpList_append_fits _ rfl _ _ 62 rfl w.heap.size 108 i0 1 Tryz.underlying62 hi hz1 w.heap.size k n _ rfl (hI.own.alloc _) ⟨wr.heap.size,0,none⟩ 1 1 [.int .u32 (xs[k]-(cv+ys[k]))] rfl rfl (cell_one_new _ _ _) (one_cell _ _) (by omega) ?_)
        intro w2 hown2 hgrow2;go_wp2;go_roundw
        case rel=>exact⟨k+1,0,zs ++[xs[k]-(cv+ys[k])],by omega,by go_num,by decide,by decide,rfl,rfl,sub_step hI hc0 hc1 _ 0 (by decide) (by omega) (by omega) (by simp[List.getD,hkx,hky]<;>omega) hown2 hgrow2⟩
        case measure=>simp[intOf];omega
    · by_cases hlt:xs[k]<cv
      · go_wp2_with (at_builtin;refine wpList_append_fits _ rfl _ _ 62 rfl w.heap.size 108 i0 1 Tryz.underlying62 hi hz1 w.heap.size k n _ rfl (hI.own.alloc _) ⟨wr.heap.size,0,none⟩ 1 1 [.int .u32 (xs[k]+4294967296-cv)] rfl rfl (cell_one_new _ _ _) (one_cell _ _) (by omega) ?_)
        intro w2 hown2 hgrow2;go_wp2;go_roundw
        case rel=>exact⟨k+1,1,zs ++[xs[k]+4294967296-cv],by omega,by go_num,by decide,by decide,rfl,rfl,sub_step hI hc0 hc1 _ 1 (by decide) (by omega) (by omega) (by have:=HY.out;simp[List.getD,hkx,show ¬k<ys.length by omega]<;>omega) hown2 hgrow2⟩
        case measure=>simp[intOf];omega
      · go_wp2_with (at_builtin;refine wpList_append_fits _ rfl _ _ 62 rfl w.heap.size 108 i0 1 Tryz.underlying62 hi hz1 w.heap.size k n _ rfl (hI.own.alloc _) ⟨wr.heap.size,0,none⟩ 1 1 [.int .u32 (xs[k]-cv)] rfl rfl (cell_one_new _ _ _) (one_cell _ _) (by omega) ?_)
        intro w2 hown2 hgrow2;go_wp2;go_roundw
        case rel=>exact⟨k+1,0,zs ++[xs[k]-cv],by omega,by go_num,by decide,by decide,rfl,rfl,sub_step hI hc0 hc1 _ 0 (by decide) (by omega) (by omega) (by have:=HY.out;simp[List.getD,hkx,show ¬k<ys.length by omega]<;>omega) hown2 hgrow2⟩
        case measure=>simp[intOf];omega
  · go_wp2;go_ret;obtain rfl:k=n:=by omega
    exact sub_done hI hc0 hc1 HX.out HDX.out HDY.out HLE.out
theorem pow_le_32 (r:Nat) (hr:r≤32):(2:Nat) ^ r≤4294967296:=by
 have:=Nat.pow_le_pow_right (n:=2) (by omega) hr
 simpa using this
theorem ipow (r:Nat):((2:Int) ^ r)=(((2:Nat) ^ r:Nat):Int):=by simp
theorem shl_bound (d:Nat) (r:Nat) (hr:r≤32) (hd:d<4294967296):d*2 ^ r≤4294967295*2 ^ r∧d*2 ^ r<18446744073709551616:=by
 have h1:=pow_le_32 r hr;have h2:d*2 ^ r≤4294967295*2 ^ r:=Nat.mul_le_mul_right _ (by omega);exact⟨h2,by omega⟩
theorem or_shl (c d:Int) (r:Nat) (hr:r≤32) (hc0:0≤c) (hc:c<2 ^ r) (hd0:0≤d) (hd:d<4294967296) :
 bits .or .u64 c (IntKind.u64.wrap (d*2 ^ r))=c+d*2 ^ r:=by
 obtain⟨c,rfl⟩:=Int.eq_ofNat_of_zero_le hc0;obtain⟨d,rfl⟩:=Int.eq_ofNat_of_zero_le hd0;rw[ipow] at hc⊢;have hc' :c<2 ^ r:=by omega
 obtain⟨h1,h2⟩:=shl_bound d r hr (by omega);have h3:=pow_le_32 r hr;have e:((d:Int)*((2 ^ r:Nat):Int))=((d*2 ^ r:Nat):Int):=(Int.natCast_mul _ _).symm;rw[e,IntKind.wrap_u64,show((d*2 ^ r:Nat):Int)%18446744073709551616=((d*2 ^ r:Nat):Int) by omega,bits_or_u64_nat c (d*2 ^ r) (by omega) h2];have e2:=Nat.two_pow_add_eq_or_of_lt hc' d;rw[Nat.mul_comm] at e2;rw[Nat.or_comm,←e2]
 omega
theorem or_hi (x y:Int) (hx:0≤x∧x<4294967296) (hy:0≤y∧y<4294967296):bits .or .u64 (IntKind.u64.wrap (y*4294967296)) x=x+y*4294967296:=by
 obtain⟨x,rfl⟩:=Int.eq_ofNat_of_zero_le hx.1;obtain⟨y,rfl⟩:=Int.eq_ofNat_of_zero_le hy.1;rw[IntKind.wrap_u64,show((y:Int)*4294967296)%18446744073709551616=((y*4294967296:Nat):Int) by omega,bits_or_u64_nat _ _ (by omega) (by omega)];have e2:=Nat.two_pow_add_eq_or_of_lt (i:=32) (b:=x) (by omega) y;have e3:(2:Nat) ^ 32*y=y*4294967296:=by omega
 rw[e3] at e2;rw[←e2]
 omega
structure LeftI (w wr:World) (ds:List Int) (q:Nat) (p:Int) (k:Nat) (c:Int) (g cp:Nat) (zs:List Int):Prop where
 len:zs.length=q+k
 dig:Dig zs
 eq:val zs+c*pw (q+k)=pw q*(p*val (ds.take k))
 own:wr.ownsRow w.heap.size 108 1 (.slice (some ⟨g,0,none⟩) (q+k) cp) (q+k) (zs.map (Value.int .u32))
 below:Below w.heap.size w wr
def NrmP (k:Nat) (z:Int) (w:World) (e:Ending) (w' :World):Prop:=
 ∃(ao:Option Addr) (n cap:Nat) (zs:List Int),e= .returned (.slice ao n cap)∧zs.length=n∧n≤cap∧n≤k∧Nrm zs∧val zs=z∧Rd w' ao zs∧Below w.heap.size w w'
theorem left_start (w w1:World) (ds:List Int) (q:Nat) (p:Int) (hown:w1.ownsRow w.heap.size 108 1 (.slice (some ⟨w.heap.size,0,none⟩) q q) q (madeCells #[Value.int .u32 0] q).toList) (hgrow:w.grownBy w1 none) :
 LeftI w w1 ds q p 0 0 w.heap.size q (List.replicate q 0):=by
 refine⟨by simp,fun d hd=>by rw[List.eq_of_mem_replicate hd];decide,by simp[val_zeros,val],?_,(Below.refl _ _).grown hgrow (Nat.le_refl _) (by simp)⟩;rw[made_one] at hown
 simpa using hown
theorem left_step {w wr w2:World} {ds:List Int} {q:Nat} {p:Int} {k:Nat} {c:Int} {g cp:Nat} {zs:List Int} (hI:LeftI w wr ds q p k c g cp zs) (hk:k<ds.length) (x:Int) (hx:x=c+ds[k]*p) (g' cp' :Nat) {o:Obj}
 (hown:w2.ownsRow w.heap.size 108 1 (.slice (some ⟨g',0,none⟩) (q+k+1) cp') (q+k+1) (zs.map (Value.int .u32) ++[.int .u32 (x%4294967296)])) (hgrow:(wr.alloc o).grownBy w2 (some g)) :
 LeftI w w2 ds q p (k+1) (x / 4294967296) g' cp' (zs ++[x%4294967296]):=by
 refine⟨by simp[hI.len,Nat.add_assoc],dig_append.2 ⟨hI.dig,dig_cons.2 ⟨⟨by omega,by omega⟩,dig_nil⟩⟩,left_eq ds zs q k hI.len p c x hI.eq hk hx,by simpa [Nat.add_assoc] using hown,?_⟩;have hs:=hI.below.size;refine(hI.below.alloc hs o).grown hgrow (by simp;omega) ?_;intro j hj;cases hj;exact(hI.own.lt g rfl).1
theorem left_last {w wr w2:World} {ds:List Int} {q:Nat} {p:Int} {k:Nat} {c:Int} {g cp:Nat} {zs:List Int} (hI:LeftI w wr ds q p k c g cp zs) (hc0:0≤c) (hc1:c<4294967296) {g' cp' :Nat} {o:Obj}
 (hown:w2.ownsRow w.heap.size 108 1 (.slice (some ⟨g',0,none⟩) (q+k+1) cp') (q+k+1) (zs.map (Value.int .u32) ++[.int .u32 c])) (hgrow:(wr.alloc o).grownBy w2 (some g)) :
 (zs ++[c]).length=q+k+1∧Dig (zs ++[c])∧val (zs ++[c])=val zs+c*pw (q+k)∧Rd w2 (some ⟨g',0,none⟩) (zs ++[c])∧Below w.heap.size w w2:=by
 have hl:(zs ++[c]).length=q+k+1:=by simp[hI.len]
 refine⟨hl,dig_append.2 ⟨hI.dig,dig_cons.2 ⟨⟨hc0,hc1⟩,dig_nil⟩⟩,by rw[val_snoc,hI.len,Int.mul_comm c],Rd.own (by simpa using hown) hl,?_⟩;have hs:=hI.below.size;refine(hI.below.alloc hs o).grown hgrow (by simp;omega) ?_;intro j hj;cases hj;exact(hI.own.lt g rfl).1
theorem left_any (ao:Option Addr) (n cap:Nat) (s:Nat) (ds:List Int) (w:World) (hn:ds.length=n) (hd:Dig ds) (hr:Rd w ao ds) (hm:n≤1000000) (hs:s≤1000000) :
 Calls Tryz.prog 69 #[.slice ao n cap,.int .i64 s] w (NrmP (s / 32+n+1) (pw (s / 32)*(2 ^ (s%32)*val ds)) w):=by
 obtain⟨i0,hi,hz0,hz1,hz2⟩:=info_parts Tryz.info88;have HN:Hid (ds.length=n):=hn;have HD:Hid (Dig ds):=hd;have HR:Hid (Rd w ao ds):=hr;clear hn hd hr
 go_enter Tryz.func69,Tryz.ntmps69
 go_wp2_with (at_make;refine wpList_make_full _ rfl _ _ 62 rfl w.heap.size 108 i0 (.int .u32 0) 1 Tryz.underlying62 hi hz0 hz1 _ _ _ _ (s / 32) rfl rfl (by omega) (by omega) (by rw[hz2];omega) (by unfold maxLen;omega) (Nat.le_refl _) ?_)
 intro w1 hown hgrow;have HS:=left_start w w1 ds (s / 32) (2 ^ (s%32)) hown hgrow;clear hown hgrow;go_wp2
 go_loopw [5,7,8] (fun o c i wr=>∃(k:Nat) (cv:Int) (zs:List Int) (g cp:Nat),k≤n∧i= .int .i64 k∧0≤cv∧cv<2 ^ (s%32)∧c= .int .u64 cv∧o= .slice (some ⟨g,0,none⟩) (s / 32+k) cp∧LeftI w wr ds (s / 32) (2 ^ (s%32)) k cv g cp zs) (fun _ _ i _=>n-(intOf i).toNat)
 case atStart=>exact⟨0,0,_,_,_,Nat.zero_le _,rfl,by decide,Int.pow_pos (by decide),rfl,rfl,HS⟩
 case round=>
  obtain⟨k,cv,zs,g,cp,hk,rfl,hc0,hc1,rfl,rfl,hI⟩:=hrel;clear HS
  by_cases hkn:k<n
  · have hkx:k<ds.length:=by have:=HN.out;omega
    obtain⟨b,off,rfl,hbl,hcx0⟩:=HR.out k hkx;have hcx:=(hI.below.cell (p:=⟨b,off+k,none⟩) hbl).trans hcx0;clear hcx0;obtain⟨hx0,hx1⟩:=dig_at HD.out k hkx;obtain⟨x,hx⟩:∃x,x=cv+ds[k]*2 ^ (s%32):=⟨_,rfl⟩;have hor:bits .or .u64 cv (IntKind.u64.wrap (ds[k]*2 ^ (s%32)))=x:=by rw[hx];exact or_shl cv _ _ (by omega) hc0 hc1 hx0 hx1
    obtain⟨hy0,hy1⟩:=left_carry cv ds[k] (2 ^ (s%32)) hc0 hc1 hx0 hx1;rw[←hx] at hy0 hy1;have HX:Hid (x=cv+ds[k]*2 ^ (s%32)):=hx;have HC:Hid (cv<2 ^ (s%32)):=hc1;have HY:Hid (x / 4294967296<2 ^ (s%32)):=hy1;clear hx hc1 hy1;have hlen:=hI.len
    go_wp2_with (at_builtin;refine wpList_append_own _ rfl _ _ 62 rfl w.heap.size 108 i0 (.int .u32 0) 1 4 Tryz.underlying62 hi hz0 hz1 hz2 rfl (by decide) _ _ _ rfl (hI.own.alloc _) ⟨wr.heap.size,0,none⟩ 1 1 [.int .u32 (x%4294967296)] rfl rfl (cell_one_new _ _ _) (one_cell _ _) (by unfold maxLen;omega) (by omega) (by have:=hI.below.size;simp;omega) ?_)
    intro v' w2 hown2 hgrow2 hnn;obtain⟨g',cp',hv⟩:=own_shape hown2 hnn;subst hv;have R:=left_step hI hkx x HX.out g' cp' hown2 hgrow2;clear hown2 hgrow2 hnn hI;go_wp2;go_roundw
    case rel=>exact⟨k+1,x / 4294967296,_,g',cp',by omega,by go_num,by omega,HY.out,rfl,by rw[Nat.add_assoc],R⟩
    case measure=>simp[intOf];omega
  · obtain rfl:k=n:=by omega
    have HEQ:=hI.eq;rw[List.take_of_length_le (by have:=HN.out;omega)] at HEQ;have hp32:(2:Int) ^ (s%32)≤4294967296:=by rw[ipow];have:=pow_le_32 (s%32) (by omega);omega
    have hc2:cv<4294967296:=by omega
    have HQ:Hid (val zs+cv*pw (s / 32+k)=pw (s / 32)*(2 ^ (s%32)*val ds)):=HEQ;clear HEQ hp32 hc1;have hlen:=hI.len;have hle:=own_cap hI.own
    by_cases hcp:0<cv
    · go_wp2_with (at_builtin;refine wpList_append_own _ rfl _ _ 62 rfl w.heap.size 108 i0 (.int .u32 0) 1 4 Tryz.underlying62 hi hz0 hz1 hz2 rfl (by decide) _ _ _ rfl (hI.own.alloc _) ⟨wr.heap.size,0,none⟩ 1 1 [.int .u32 cv] rfl rfl (cell_one_new _ _ _) (one_cell _ _) (by unfold maxLen;omega) (by omega) (by have:=hI.below.size;simp;omega) ?_)
      intro v' w2 hown2 hgrow2 hnn;obtain⟨g',cp',hv⟩:=own_shape hown2 hnn;subst hv;have R:=left_last hI (by omega) (by omega) hown2 hgrow2;have hle2:=own_cap hown2;clear hown2 hgrow2 hnn hI;go_wp2_with fail;refine(trim_any false _ _ _ (zs ++[cv]) _ R.1 hle2 R.2.1 R.2.2.2.1 (by omega)).mono ?_;rintro e w3 ⟨neg',ao',n',cap',ds',rfl,h1,h2,h3,h4,h5,_,h7,h8⟩;have HF:Hid (val ds' =pw (s / 32)*(2 ^ (s%32)*val ds)):=by show _=_;rw[h5,R.2.2.1,HQ.out]
      have HB:=R.2.2.2.2.trans (h8.mono R.2.2.2.2.size);clear h5 R h8;have hfd:=field_d;go_wp2;go_ret;exact⟨_,_,_,ds',rfl,h1,h2,h3,h4,HF.out,h7,HB⟩
    · obtain rfl:cv=0:=by omega
      have R1:=hI.dig;have R2:=Rd.own hI.own hI.len;have R3:=hI.below;clear hI;go_wp2_with fail;refine(trim_any false _ _ _ zs _ hlen hle R1 R2 (by omega)).mono ?_;rintro e w3 ⟨neg',ao',n',cap',ds',rfl,h1,h2,h3,h4,h5,_,h7,h8⟩;have HF:Hid (val ds' =pw (s / 32)*(2 ^ (s%32)*val ds)):=by show _=_;rw[h5,←HQ.out];simp
      have HB:=R3.trans (h8.mono R3.size);clear h5 R1 R2 R3 h8;have hfd:=field_d;go_wp2;go_ret;exact⟨_,_,_,ds',rfl,h1,h2,by omega,h4,HF.out,h7,HB⟩
def IntP (z:Int) (w:World) (e:Ending) (w' :World):Prop:=e= .returned (.int .i64 z)∧Below w.heap.size w w'
theorem cmpAbs_ne (ao bo:Option Addr) (n m ca cb:Nat) (w:World) (_hm:n≤1000000) (_hm' :m≤1000000) (z:Int) (hz:(n<m∧z= -1)∨(m<n∧z=1)) :
 Calls Tryz.prog 87 #[.slice ao n ca,.slice bo m cb] w (IntP z w):=by
 have hne:((n:Int) != (m:Int))=true:=by rw[bne_iff_ne];omega
 rcases hz with ⟨h1,rfl⟩ | ⟨h1,rfl⟩
 · go_enter Tryz.func87,Tryz.ntmps87
   go_wp2;go_ret;exact⟨rfl,Below.refl _ _⟩
 · have h2:¬n<m:=by omega
   go_enter Tryz.func87,Tryz.ntmps87
   go_wp2;go_ret;exact⟨rfl,Below.refl _ _⟩
theorem cmpAbs_eq (ao bo:Option Addr) (n ca cb:Nat) (xs ys:List Int) (w:World) (hx:xs.length=n) (hy:ys.length=n) (dx:Dig xs) (dy:Dig ys) (rx:Rd w ao xs) (ry:Rd w bo ys) (hm:n≤1000000) :
 Calls Tryz.prog 87 #[.slice ao n ca,.slice bo n cb] w (IntP (cmpI (val xs) (val ys)) w):=by
 go_enter Tryz.func87,Tryz.ntmps87
 go_wp2
 go_loopw [5] (fun i wr=>∃k:Nat,k≤n∧i= .int .i64 ((k:Int)-1)∧xs.drop k=ys.drop k∧Below w.heap.size w wr) (fun i _=>(intOf i+1).toNat)
 case atStart=>exact⟨n,Nat.le_refl _,rfl,by rw[List.drop_of_length_le (by omega),List.drop_of_length_le (by omega)],Below.refl _ _⟩
 case round=>
  obtain⟨k,hk,rfl,hz,hb⟩:=hrel;have HX:Hid (xs.length=n):=hx;have HY:Hid (ys.length=n):=hy;have HDX:Hid (Dig xs):=dx;have HDY:Hid (Dig ys):=dy;have HZ:Hid (xs.drop k=ys.drop k):=hz;have HRX:Hid (Rd w ao xs):=rx;have HRY:Hid (Rd w bo ys):=ry;clear hz rx ry dx dy hx hy
  by_cases hk0:0<k
  · obtain⟨m,rfl⟩:∃m,k=m+1:=⟨k-1,by omega⟩;have hmx:m<xs.length:=by have:=HX.out;omega
    have hmy:m<ys.length:=by have:=HY.out;omega
    obtain⟨b,off,rfl,hbl,hcx0⟩:=HRX.out m hmx;obtain⟨b',off',rfl,hbl',hcy0⟩:=HRY.out m hmy;have hcx:=(hb.cell (p:=⟨b,off+m,none⟩) hbl).trans hcx0;have hcy:=(hb.cell (p:=⟨b',off' +m,none⟩) hbl').trans hcy0;clear hcx0 hcy0;rw[show(((m+1:Nat):Int)-1)=(m:Int) by omega];have hmn:(m:Int)<n:=by omega
    rcases Int.lt_trichotomy xs[m] ys[m] with hlt | heq | hgt
    · go_wp2
      go_quiet (fail)
      go_wp2;go_ret;exact⟨ret_int (cmpI_lt (val_above HDX.out HDY.out m hmx hmy HZ.out hlt)),bdrew hb _⟩
    · have h1:¬xs[m]<ys[m]:=by omega
      have h2:¬ys[m]<xs[m]:=by omega
      have HE:Hid (xs[m]=ys[m]):=heq;clear heq;go_wp2
      go_quiet (fail)
      go_wp2
      go_quiet (fail)
      go_wp2;go_roundw
      case rel=>exact⟨m,by omega,rfl,by rw[List.drop_eq_getElem_cons hmx,List.drop_eq_getElem_cons hmy,HZ.out,HE.out],bdrew hb _⟩
      case measure=>simp[intOf]
    · have h1:¬xs[m]<ys[m]:=by omega
      go_wp2
      go_quiet (fail)
      go_wp2
      go_quiet (fail)
      go_wp2;go_ret;exact⟨ret_int (cmpI_gt (val_above HDY.out HDX.out m hmy hmx HZ.out.symm hgt)),bdrew (bdrew hb _) _⟩
  · go_wp2;go_ret;exact⟨ret_int (cmpI_eq (by
     have:k=0:=by omega
     subst this;have:=HZ.out;simp only[List.drop_zero] at this;rw[this])),hb⟩
theorem cmpAbs_any (ao bo:Option Addr) (n m ca cb:Nat) (xs ys:List Int) (w:World) (hx:xs.length=n) (hy:ys.length=m) (dx:Nrm xs) (dy:Nrm ys) (rx:Rd w ao xs) (ry:Rd w bo ys) (hm:n≤1000000) (hm' :m≤1000000) :
 Calls Tryz.prog 87 #[.slice ao n ca,.slice bo m cb] w (IntP (cmpI (val xs) (val ys)) w):=by
 rcases Nat.lt_trichotomy n m with h | h | h
 · exact cmpAbs_ne ao bo n m ca cb w hm hm' _ (Or.inl ⟨h,cmpI_lt (nrm_more dx dy (by omega))⟩)
 · subst h;exact cmpAbs_eq ao bo n ca cb xs ys w hx hy dx.1 dy.1 rx ry hm
 · exact cmpAbs_ne ao bo n m ca cb w hm hm' _ (Or.inr ⟨h,cmpI_gt (nrm_more dy dx (by omega))⟩)
def BitsP (v:Int) (w:World) (e:Ending) (w' :World):Prop:=∃b:Nat,e= .returned (.int .i64 b)∧BitsOf v b∧Below w.heap.size w w'
theorem bits_any (ao:Option Addr) (n cap:Nat) (ds:List Int) (w:World) (hn:ds.length=n) (hd:Nrm ds) (hr:Rd w ao ds) (hm:n≤1000000) :
 Calls Tryz.prog 80 #[.slice ao n cap] w (BitsP (val ds) w):=by
 by_cases h0:n=0
 · subst h0;have:ds=[]:=List.eq_nil_of_length_eq_zero hn;subst this;clear hn hd hr
   go_enter Tryz.func80,Tryz.ntmps80
   go_wp2;go_ret;exact⟨0,rfl,⟨by decide,by decide,Or.inl rfl⟩,Below.refl _ _⟩
 · obtain⟨m,rfl⟩:∃m,n=m+1:=⟨n-1,by omega⟩;have hml:m<ds.length:=by omega
   obtain⟨b,off,rfl,hbl,hcell⟩:=hr m hml;obtain⟨l,t,hds,ht⟩:∃l t,ds=l ++[t]∧t≠0:=by
    rcases hd.2 with h | h
    · rw[h] at hn;simp at hn
    · exact h
   have hll:l.length=m:=by rw[hds] at hn;simpa using hn
   have hlast:ds[m]=t:=by subst hds;simp[←hll]
   rw[hlast] at hcell;have htd:0≤t∧t<4294967296:=by have:=dig_at hd.1 m hml;rw[hlast] at this;exact this
   obtain⟨ht0,ht1⟩:=htd;have H:Hid (∀j,BitsOf t j→BitsOf (val ds) (32*m+j)):=fun j hj=>by
    have:=bits_top ds hd.1 t l hds j hj ht;rwa [hll] at this
   clear hd hr hn hlast hds hll hml
   go_enter Tryz.func80,Tryz.ntmps80
   go_wp2
   go_loop [3,4] (fun nn x=>∃(j:Nat) (xv:Int),j≤32∧nn= .int .i64 ((m:Int)*32+j)∧x= .int .u32 xv∧0≤xv∧xv<4294967296∧xv=t / 2 ^ j∧(j=0∨(2:Int) ^ (j-1)≤t)) (fun _ x=>(intOf x).toNat)
   case atStart=>exact⟨0,t,by omega,by simp,rfl,ht0,ht1,by simp,Or.inl rfl⟩
   case round=>
    obtain⟨j,xv,hj,rfl,rfl,hx0,hx1,hxe,hjj⟩:=hrel;have HX:Hid (xv=t / 2 ^ j):=hxe;have HJ:Hid (j=0∨(2:Int) ^ (j-1)≤t):=hjj;clear hxe hjj
    by_cases hp:0<xv
    · go_wp2
      go_round
      case rel=>
       obtain⟨g1,g2⟩:=bits_half_step HX.out hp;have g3:j<32:=by
        apply Nat.lt_of_not_le
        intro h;have:=ipow2_mono h
        rcases g2 with g2 | g2
        · omega
        · simp only[Nat.add_sub_cancel] at g2;omega
       exact⟨j+1,xv / 2,by omega,by go_num,rfl,by omega,by omega,g1,g2⟩
      case measure=>simp[intOf];omega
    · go_wp2;go_ret;exact⟨32*m+j,ret_int (by omega),H.out j (bits_half ht0 HX.out HJ.out (by omega)),Below.refl _ _⟩
theorem int_any (n:Int) (w:World) (h0: -9223372036854775808≤n) (h1:n≤9223372036854775807) :
 Calls Tryz.prog 58 #[.int .i64 n] w (NumP 2 n w):=by
 by_cases hn:n<0
 · obtain⟨u,hu⟩:∃u,u= -n:=⟨_,rfl⟩;have hw:IntKind.u64.wrap (-IntKind.u64.wrap n)=u:=by rw[IntKind.wrap_u64,IntKind.wrap_u64];omega
   have HU:Hid (u= -n):=hu;have hu0:0<u:=by omega
   have hu1:u≤9223372036854775808:=by omega
   clear hu
   go_enter Tryz.func58,Tryz.ntmps58
   go_wp2_with fail;refine(trim_any true _ 2 2 [u%4294967296,u / 4294967296] _ rfl (Nat.le_refl _) (dig_cons.2 ⟨by omega,dig_cons.2 ⟨by omega,dig_nil⟩⟩) (Rd.lit _ (by simp) rfl (by simp[maxLen])) (by omega)).mono ?_;rintro e w3 ⟨neg',ao',n',cap',ds',rfl,k1,k2,k3,k4,k5,k6,k7,k8⟩;obtain⟨c0,c1,f0,f1,hz,hB⟩:=res2 (((Below.refl (w.heap.size+1) _).alloc (by simp) _).trans (k8.mono (by simp)));have HN:=num_of (z:=n) k1 k2 k3 k4 k5 k6 k7 (by have:=HU.out;simp[val];omega) (by intro _;simp[hn]);have HB:Hid (Below w.heap.size w w3):=hB;clear k1 k2 k3 k4 k5 k6 k7 k8 hB;go_wp2;refine bodyPost_ret (v:= .agg #[.bool neg',.slice ao' n' cap']) (by simp[results,Tryz.results58,go_sem,c0,c1]) rfl ?_;exact num_ret (Nat.le_refl _) c0 c1 HN HB.out
 · go_enter Tryz.func58,Tryz.ntmps58
   go_wp2_with fail;refine(trim_any false _ 2 2 [n%4294967296,n / 4294967296] _ rfl (Nat.le_refl _) (dig_cons.2 ⟨by omega,dig_cons.2 ⟨by omega,dig_nil⟩⟩) (Rd.lit _ (by simp) rfl (by simp[maxLen])) (by omega)).mono ?_;rintro e w3 ⟨neg',ao',n',cap',ds',rfl,k1,k2,k3,k4,k5,k6,k7,k8⟩;obtain⟨c0,c1,f0,f1,hz,hB⟩:=res2 (((Below.refl (w.heap.size+1) _).alloc (by simp) _).trans (k8.mono (by simp)));have HN:=num_of (z:=n) k1 k2 k3 k4 k5 k6 k7 (by simp[val];omega) (by intro _;simp[hn]);have HB:Hid (Below w.heap.size w w3):=hB;clear k1 k2 k3 k4 k5 k6 k7 k8 hB;go_wp2;refine bodyPost_ret (v:= .agg #[.bool neg',.slice ao' n' cap']) (by simp[results,Tryz.results58,go_sem,c0,c1]) rfl ?_;exact num_ret (Nat.le_refl _) c0 c1 HN HB.out
theorem sign_any (s:Bool) (ao:Option Addr) (n cap:Nat) (ds:List Int) (z:Int) (k:Nat) (w:World) (h:IsNum w s ao n cap ds z k) :
 Calls Tryz.prog 54 #[.agg #[.bool s,.slice ao n cap]] w (IntP (cmpI z 0) w):=by
 have h1:=h.zero;have h2:=h.neg
 by_cases hz:z=0
 · have hn:=h1.2 hz;subst hn;clear h1 h2 h
   go_enter Tryz.func54,Tryz.ntmps54
   go_wp2;go_ret;exact⟨ret_int (cmpI_eq hz),(Below.refl _ _).alloc (Nat.le_refl _) _⟩
 · have hn:((n:Int)==0)=false:=beq_eq_false_iff_ne.2 (by have:=fun h=>hz (h1.1 h);omega);clear h1 h
   by_cases hs:z<0
   · have:s=true:=by rw[h2];simpa using hs
     subst this;clear h2
     go_enter Tryz.func54,Tryz.ntmps54
     go_wp2;go_ret;exact⟨ret_int (cmpI_lt hs),(Below.refl _ _).alloc (Nat.le_refl _) _⟩
   · have:s=false:=by rw[h2];simpa using hs
     subst this;clear h2
     go_enter Tryz.func54,Tryz.ntmps54
     go_wp2;go_ret;exact⟨ret_int (cmpI_gt (by omega)),(Below.refl _ _).alloc (Nat.le_refl _) _⟩
def Word (x:Int):Prop:=0≤x∧x<18446744073709551616
def uw (a3 a2 a1 a0:Int):Int:=a0+18446744073709551616*(a1+18446744073709551616*(a2+18446744073709551616*a3))
def sw (a3 a2 a1 a0:Int):Int:=if a3<9223372036854775808 then uw a3 a2 a1 a0 else uw a3 a2 a1 a0-115792089237316195423570985008687907853269984665640564039457584007913129639936
theorem uw_bound {a3 a2 a1 a0:Int} (h3:Word a3) (h2:Word a2) (h1:Word a1) (h0:Word a0):0≤uw a3 a2 a1 a0∧uw a3 a2 a1 a0<115792089237316195423570985008687907853269984665640564039457584007913129639936:=by
 unfold Word at *;unfold uw;omega
theorem sw_neg {a3 a2 a1 a0:Int} (h3:Word a3) (h2:Word a2) (h1:Word a1) (h0:Word a0):sw a3 a2 a1 a0<0↔9223372036854775808≤a3:=by
 unfold Word at *;unfold sw uw;split<;>omega
theorem pw8:pw 8=115792089237316195423570985008687907853269984665640564039457584007913129639936:=by decide
def dw (a3 a2 a1 a0:Int):List Int:=[a0%4294967296,a0 / 4294967296,a1%4294967296,a1 / 4294967296,a2%4294967296,a2 / 4294967296,a3%4294967296,a3 / 4294967296]
theorem dw_dig {a3 a2 a1 a0:Int} (h3:Word a3) (h2:Word a2) (h1:Word a1) (h0:Word a0):Dig (dw a3 a2 a1 a0):=by
 unfold Word at *;unfold dw
 iterate 8 (refine dig_cons.2 ⟨by omega,?_⟩)
 exact dig_nil
theorem dw_val (a3 a2 a1 a0:Int):val (dw a3 a2 a1 a0)=uw a3 a2 a1 a0:=by
 simp only[dw,val,uw];omega
theorem res2' {w w3:World} {a b:Value} {T:TypeId} {R:Nat} (hR:R=w.heap.size) (h:Below (w.heap.size+1) (w.alloc (.cells #[a,b] T)) w3) :
 w3.cell? ⟨R,0,none⟩=some a∧w3.cell? ⟨R,1,none⟩=some b∧w3.frozen? ⟨R,0,none⟩=false∧w3.frozen? ⟨R,1,none⟩=false∧R<w3.heap.size∧Below w.heap.size w w3:=by
 subst hR;exact res2 h
theorem from_pos (a3 a2 a1 a0:Int) (h3:Word a3) (h2:Word a2) (h1:Word a1) (h0:Word a0) (hp:a3<9223372036854775808) (w:World) :
 Calls Tryz.prog 61 #[.agg #[.int .u64 a3,.int .u64 a2,.int .u64 a1,.int .u64 a0]] w (NumP 8 (sw a3 a2 a1 a0) w):=by
 have hb:(a3 / 9223372036854775808==1)=false:=beq_eq_false_iff_ne.2 (by have:=h3.1;omega);have HD:=dw_dig h3 h2 h1 h0;have HV:Hid (val (dw a3 a2 a1 a0)=((sw a3 a2 a1 a0).natAbs:Int)∧¬sw a3 a2 a1 a0<0):=by
  have e1:=uw_bound h3 h2 h1 h0;have e2:=dw_val a3 a2 a1 a0;have e3:sw a3 a2 a1 a0=uw a3 a2 a1 a0:=by unfold sw;rw[if_pos hp]
  exact⟨by rw[e2,e3];omega,by omega⟩
 obtain⟨l3,u3⟩:=h3;obtain⟨l2,u2⟩:=h2;obtain⟨l1,u1⟩:=h1;obtain⟨l0,u0⟩:=h0
 go_enter Tryz.func61,Tryz.ntmps61
 go_wp2_with fail;refine(trim_any false _ 8 8 (dw a3 a2 a1 a0) _ rfl (Nat.le_refl _) HD (Rd.lit _ (by simp) rfl (by simp[maxLen,dw])) (by omega)).mono ?_;rintro e w3 ⟨neg',ao',n',cap',ds',rfl,k1,k2,k3,k4,k5,k6,k7,k8⟩;obtain⟨c0,c1,f0,f1,hz,hB⟩:=res2' (R:=w.heap.size+1) (by simp) (((Below.refl _ _).alloc (by simp) _).trans (k8.mono (by simp)));have HN:=num_of (z:=sw a3 a2 a1 a0) k1 k2 k3 k4 k5 k6 k7 HV.out.1 (by intro _;simp[HV.out.2]);have HB:Hid (Below w.heap.size w w3):=((Below.refl _ _).alloc (Nat.le_refl _) _).trans (hB.mono (by simp));clear k1 k2 k3 k4 k5 k6 k7 k8 hB HD;go_wp2;refine bodyPost_ret (v:= .agg #[.bool neg',.slice ao' n' cap']) (by simp[results,Tryz.results61,go_sem,c0,c1]) rfl ?_;exact num_ret (Nat.le_succ _) c0 c1 HN HB.out
theorem from_neg (a3 a2 a1 a0:Int) (h3:Word a3) (h2:Word a2) (h1:Word a1) (h0:Word a0) (hp:9223372036854775808≤a3) (w:World) :
 Calls Tryz.prog 61 #[.agg #[.int .u64 a3,.int .u64 a2,.int .u64 a1,.int .u64 a0]] w (NumP 8 (sw a3 a2 a1 a0) w):=by
 have hb:(a3 / 9223372036854775808==1)=true:=beq_iff_eq.2 (by have:=h3.2;omega);have HD:=dw_dig h3 h2 h1 h0;have HV:Hid (val (dw a3 a2 a1 a0)≤pw 8∧pw 8-val (dw a3 a2 a1 a0)=((sw a3 a2 a1 a0).natAbs:Int)∧sw a3 a2 a1 a0<0∧((sw a3 a2 a1 a0).natAbs:Int)<pw 8):=by
  have e1:=uw_bound h3 h2 h1 h0;have e2:=dw_val a3 a2 a1 a0;have e3:sw a3 a2 a1 a0=uw a3 a2 a1 a0-115792089237316195423570985008687907853269984665640564039457584007913129639936:=by unfold sw;rw[if_neg (by omega)]
  have e4:uw a3 a2 a1 a0≠0:=by unfold uw;unfold Word at *;omega
  have e5:=pw8;exact⟨by omega,by omega,by omega,by omega⟩
 obtain⟨l3,u3⟩:=h3;obtain⟨l2,u2⟩:=h2;obtain⟨l1,u1⟩:=h1;obtain⟨l0,u0⟩:=h0
 go_enter Tryz.func61,Tryz.ntmps61
 go_wp2_with fail;refine(left_any _ 1 1 256 [1] _ rfl (dig_cons.2 ⟨by omega,dig_nil⟩) (Rd.lit _ (by simp) rfl (by simp[maxLen])) (by omega) (by omega)).mono ?_;rintro e w3 ⟨ao1,n1,cap1,zs1,rfl,k1,k2,k3,k4,k5,k6,k7⟩;have hRd:Rd w3 (some ⟨w.heap.size+1+1,0,none⟩) (dw a3 a2 a1 a0):=((Rd.lit _ (by simp) rfl (by simp[maxLen,dw])).below ((Below.refl _ _).alloc (Nat.le_refl _) _) (Nat.le_refl _)).below k7 (Nat.le_refl _);have hA:Below (w.heap.size+2) ((w.alloc (Obj.cells #[Value.int IntKind.u64 a3,Value.int IntKind.u64 a2,Value.int IntKind.u64 a1,Value.int IntKind.u64 a0] 27)).alloc (Obj.cells #[Value.bool false,Value.slice none 0 0] 64)) w3:=
  (((Below.refl _ _).alloc (by simp) _).alloc (by simp) _).trans (k7.mono (by simp))
 have hv1:val zs1=pw 8:=by rw[k5];simp[val]
 have k3' :n1≤10:=k3;clear k7 k5 k3;have HV1:Hid (val zs1=pw 8):=hv1;clear hv1;go_wp2_with fail;refine(subAbs_any ao1 _ n1 8 cap1 8 zs1 (dw a3 a2 a1 a0) _ k1 rfl k4.1 HD k6 hRd (by omega) (by omega) (by rw[HV1.out];exact HV.out.1)).mono ?_;rintro e w4 ⟨ao2,cap2,zs2,rfl,m1,m2,m3,m4,m5,m6⟩;have hA2:=hA.trans (m6.mono (by have:=hA.size;simp at this⊢;omega));have HV2:Hid (val zs2=((sw a3 a2 a1 a0).natAbs:Int)):=by show _=_;rw[m4,HV1.out];exact HV.out.2.1
 clear hA m6 m4 k1 k2 k4 k6 hRd HV1 HD;go_wp2_with fail;refine(trim_any true _ n1 _ zs2 _ m1 m2 m3 m5 (by omega)).mono ?_;rintro e w5 ⟨neg',ao',n',cap',ds',rfl,k1,k2,k3,k4,k5,k6,k7,k8⟩;have hA3:=hA2.trans (k8.mono (by have:=hA2.size;simp at this⊢;omega));obtain⟨c0,c1,f0,f1,hz,hB⟩:=res2' (R:=w.heap.size+1) (by simp) (hA3.mono (by simp));have HN:=(num_of (z:=sw a3 a2 a1 a0) k1 k2 k3 k4 k5 k6 k7 HV2.out (by intro _;simp[HV.out.2.2.1])).tight 8 HV.out.2.2.2;have HB:Hid (Below w.heap.size w w5):=((Below.refl _ _).alloc (Nat.le_refl _) _).trans (hB.mono (by simp));clear k1 k2 k3 k4 k5 k6 k7 k8 hB hA2 hA3 m1 m2 m3 m5;go_wp2;refine bodyPost_ret (v:= .agg #[.bool neg',.slice ao' n' cap']) (by simp[results,Tryz.results61,go_sem,c0,c1]) rfl ?_;exact num_ret (Nat.le_succ _) c0 c1 HN HB.out
theorem from_any (a3 a2 a1 a0:Int) (h3:Word a3) (h2:Word a2) (h1:Word a1) (h0:Word a0) (w:World) :
 Calls Tryz.prog 61 #[.agg #[.int .u64 a3,.int .u64 a2,.int .u64 a1,.int .u64 a0]] w (NumP 8 (sw a3 a2 a1 a0) w):=by
 by_cases hp:a3<9223372036854775808
 · exact from_pos a3 a2 a1 a0 h3 h2 h1 h0 hp w
 · exact from_neg a3 a2 a1 a0 h3 h2 h1 h0 (by omega) w
theorem val_take_small {ys:List Int} (dy:Dig ys) (n:Nat) (h:val ys<pw n):val (ys.take n)=val ys:=by
 by_cases hn:ys.length≤n
 · exact val_take_all ys n hn
 · have e:=val_append (ys.take n) (ys.drop n);rw[List.take_append_drop] at e;have e1:(ys.take n).length=n:=by simp;omega
   rw[e1] at e;have e2:=val_nonneg (dig_take dy n);have e3:=val_nonneg (dig_drop dy n)
   by_cases e4:val (ys.drop n)=0
   · rw[e4] at e;omega
   · exfalso
     have:pw n*1≤pw n*val (ys.drop n):=Int.mul_le_mul_of_nonneg_left (by omega) (by have:=pw_pos n;omega)
     omega
theorem uw_of_digits {ds:List Int} (hd:Dig ds) (h:val ds<pw 8) :
 uw (ds.getD 6 0+ds.getD 7 0*4294967296) (ds.getD 4 0+ds.getD 5 0*4294967296) (ds.getD 2 0+ds.getD 3 0*4294967296) (ds.getD 0 0+ds.getD 1 0*4294967296)=val ds:=by
 rw[←val_take_small hd 8 h];rw[val_take_getD ds 7,val_take_getD ds 6,val_take_getD ds 5,val_take_getD ds 4,val_take_getD ds 3,val_take_getD ds 2,val_take_getD ds 1,val_take_getD ds 0];simp only[List.take_zero,val,pw,uw]
 omega
theorem word_of_digits {x y:Int} (hx:0≤x∧x<4294967296) (hy:0≤y∧y<4294967296):Word (x+y*4294967296):=by
 unfold Word;omega
theorem sw_of_uw {a3 a2 a1 a0 z:Int} (h3:Word a3) (h2:Word a2) (h1:Word a1) (h0:Word a0) (hz:(0≤z∧z<57896044618658097711785492504343953926634992332820282019728792003956564819968∧uw a3 a2 a1 a0=z)∨(z<0∧-57896044618658097711785492504343953926634992332820282019728792003956564819968≤z∧uw a3 a2 a1 a0=115792089237316195423570985008687907853269984665640564039457584007913129639936+z)):sw a3 a2 a1 a0=z:=by
 unfold Word at *;unfold sw;unfold uw at *
 split<;>omega
def told (z:Int):Bool:=decide (-57896044618658097711785492504343953926634992332820282019728792003956564819968≤z∧z<57896044618658097711785492504343953926634992332820282019728792003956564819968)
theorem pw255:pw (255 / 32)*(2 ^ (255%32)*val [1])=57896044618658097711785492504343953926634992332820282019728792003956564819968:=by decide
theorem pw256:pw (256 / 32)*(2 ^ (256%32)*val [1])=115792089237316195423570985008687907853269984665640564039457584007913129639936:=by decide
theorem two255:(2:Int) ^ 255=57896044618658097711785492504343953926634992332820282019728792003956564819968:=by decide
def TellP (z:Int) (w:World) (e:Ending) (w' :World):Prop:=
 Below w.heap.size w w' ∧((told z=true∧∃a3 a2 a1 a0,e= .returned (.tuple #[.agg #[.int .u64 a3,.int .u64 a2,.int .u64 a1,.int .u64 a0],.bool true])∧Word a3∧Word a2∧Word a1∧Word a0∧sw a3 a2 a1 a0=z)∨
  (told z=false∧e= .returned (.tuple #[.agg #[.int .u64 0,.int .u64 0,.int .u64 0,.int .u64 0],.bool false])))
theorem make8 (w:World):(Instr.makeSlice 122 (.int .i64 8) (.int .i64 8)).run Tryz.prog w= .ok (.slice (some ⟨w.heap.size,0,none⟩) 8 8) (w.alloc (.cells #[.int .u64 0,.int .u64 0,.int .u64 0,.int .u64 0,.int .u64 0,.int .u64 0,.int .u64 0,.int .u64 0] 25)):=by kernel_rfl
def eight (ds:List Int) (k:Nat):List Value:=(List.range 8).map fun i=> .int .u64 (if i<k then ds.getD i 0 else 0)
structure ToI (w wr:World) (g:Nat) (ds:List Int) (k:Nat):Prop where
 own:wr.ownsRow g 25 1 (.slice (some ⟨g,0,none⟩) 8 8) 8 (eight ds k)
 below:Below g w wr
theorem res4' {w w3:World} {a b c d:Value} {T:TypeId} {R:Nat} (hR:R=w.heap.size) (h:Below (w.heap.size+1) (w.alloc (.cells #[a,b,c,d] T)) w3) :
 w3.cell? ⟨R,0,none⟩=some a∧w3.cell? ⟨R,1,none⟩=some b∧w3.cell? ⟨R,2,none⟩=some c∧w3.cell? ⟨R,3,none⟩=some d∧w3.frozen? ⟨R,0,none⟩=false∧w3.frozen? ⟨R,1,none⟩=false∧w3.frozen? ⟨R,2,none⟩=false∧w3.frozen? ⟨R,3,none⟩=false∧R<w3.heap.size∧Below w.heap.size w w3:=by
 subst hR;have hc:=fun j=>h.cell (p:=⟨w.heap.size,j,none⟩) (Nat.lt_succ_self _);have hf:=fun j=>h.frozen (p:=⟨w.heap.size,j,none⟩) (Nat.lt_succ_self _);refine⟨?_,?_,?_,?_,?_,?_,?_,?_,?_,((Below.refl _ _).alloc (Nat.le_refl _) _).trans (h.mono (Nat.le_succ _))⟩
 · rw[hc 0];simp[go_sem]
 · rw[hc 1];simp[go_sem]
 · rw[hc 2];simp[go_sem]
 · rw[hc 3];simp[go_sem]
 · rw[hf 0];simp[go_sem]
 · rw[hf 1];simp[go_sem]
 · rw[hf 2];simp[go_sem]
 · rw[hf 3];simp[go_sem]
 · have:=h.size;simp at this;omega
theorem toI_start (w1:World) (ds:List Int):ToI w1 (w1.alloc (.cells #[.int .u64 0,.int .u64 0,.int .u64 0,.int .u64 0,.int .u64 0,.int .u64 0,.int .u64 0,.int .u64 0] 25)) w1.heap.size ds 0:=
 ⟨World.ownsRow_lit (base:=w1.heap.size) (size:=1) w1 _ 8 (Nat.le_refl _) (by simp[maxLen]) rfl,(Below.refl _ _).alloc (Nat.le_refl _) _⟩
theorem eight_len (ds:List Int) (k:Nat):(eight ds k).length=8:=by simp[eight]
theorem eight_at (ds:List Int) (k i:Nat) (hi:i<8):(eight ds k)[i]? =some (.int .u64 (if i<k then ds.getD i 0 else 0)):=by simp[eight,hi]
theorem toI_cell {w wr:World} {g:Nat} {ds:List Int} {k:Nat} (h:ToI w wr g ds k) (i:Nat) (hi:i<8):∃v,wr.cell? ⟨g,i,none⟩=some v:=
 ⟨_,(h.own.cellAt i (by omega)).trans (eight_at ds k i hi)⟩
theorem toI_step {w wr:World} {g:Nat} {ds:List Int} {k:Nat} (h:ToI w wr g ds k) (_hk:k<8) (hd:k<ds.length):ToI w (wr.setCell ⟨g,k,none⟩ (.int .u64 ds[k])) g ds (k+1):=by
 obtain⟨h1,h2⟩:=h.own.stored k (.int .u64 ds[k]);refine⟨?_,h.below.setCell (Nat.le_refl _) _⟩;have e:(eight ds k).set k (.int .u64 ds[k])=eight ds (k+1):=by
  apply List.ext_getElem
  · simp[eight_len]
  · intro i i1 i2;simp only[List.getElem_set,eight,List.getElem_map,List.getElem_range]
    by_cases hik:k=i
    · subst hik;simp[List.getD,hd]
    · simp only[hik,if_false]
      by_cases h' :i<k
      · simp[h',show i<k+1 by omega]
      · simp[h',show ¬i<k+1 by omega]
 rw[←e];exact h1
theorem toI_cells {w wr:World} {g:Nat} {ds:List Int} {k:Nat} (h:ToI w wr g ds k) (hk:k=8∨ds.length=k):∀i,i<8→wr.cell? ⟨g,i,none⟩=some (.int .u64 (ds.getD i 0)):=by
 intro i hi;rw[h.own.cellAt i (by omega),eight_at ds k i hi]
 by_cases h' :i<k
 · simp[h']
 · rcases hk with rfl | rfl
   · omega
   · simp[h',List.getD]
theorem toI_res {w1 wr:World} {ds:List Int} {k R:Nat} {a b c d:Value} (h:ToI w1 wr w1.heap.size ds k) (hz:R<w1.heap.size) (c0:w1.cell? ⟨R,0,none⟩=some a) (c1:w1.cell? ⟨R,1,none⟩=some b) (c2:w1.cell? ⟨R,2,none⟩=some c) (c3:w1.cell? ⟨R,3,none⟩=some d)
 (f0:w1.frozen? ⟨R,0,none⟩=false) (f1:w1.frozen? ⟨R,1,none⟩=false) (f2:w1.frozen? ⟨R,2,none⟩=false) (f3:w1.frozen? ⟨R,3,none⟩=false) :
 wr.cell? ⟨R,0,none⟩=some a∧wr.cell? ⟨R,1,none⟩=some b∧wr.cell? ⟨R,2,none⟩=some c∧wr.cell? ⟨R,3,none⟩=some d∧wr.frozen? ⟨R,0,none⟩=false∧wr.frozen? ⟨R,1,none⟩=false∧wr.frozen? ⟨R,2,none⟩=false∧wr.frozen? ⟨R,3,none⟩=false:=
 ⟨(h.below.cell (p:=⟨R,0,none⟩) hz).trans c0,(h.below.cell (p:=⟨R,1,none⟩) hz).trans c1,(h.below.cell (p:=⟨R,2,none⟩) hz).trans c2,(h.below.cell (p:=⟨R,3,none⟩) hz).trans c3,
  (h.below.frozen (p:=⟨R,0,none⟩) hz).trans f0,(h.below.frozen (p:=⟨R,1,none⟩) hz).trans f1,(h.below.frozen (p:=⟨R,2,none⟩) hz).trans f2,(h.below.frozen (p:=⟨R,3,none⟩) hz).trans f3⟩
theorem keep8 {wr:World} {R g:Nat} {v0 v1 v2 v3 c0 c1 c2 c3 c4 c5 c6 c7:Value} (hne:R≠g) (e0:wr.cell? ⟨g,0,none⟩=some c0) (e1:wr.cell? ⟨g,1,none⟩=some c1) (e2:wr.cell? ⟨g,2,none⟩=some c2) (e3:wr.cell? ⟨g,3,none⟩=some c3)
 (e4:wr.cell? ⟨g,4,none⟩=some c4) (e5:wr.cell? ⟨g,5,none⟩=some c5) (e6:wr.cell? ⟨g,6,none⟩=some c6) (e7:wr.cell? ⟨g,7,none⟩=some c7) {w2:World} (hw:w2=((((wr.setCell ⟨R,0,none⟩ v0).setCell ⟨R,1,none⟩ v1).setCell ⟨R,2,none⟩ v2).setCell ⟨R,3,none⟩ v3).drew:=by rfl) :
 w2.cell? ⟨g,0,none⟩=some c0∧w2.cell? ⟨g,1,none⟩=some c1∧w2.cell? ⟨g,2,none⟩=some c2∧w2.cell? ⟨g,3,none⟩=some c3∧w2.cell? ⟨g,4,none⟩=some c4∧w2.cell? ⟨g,5,none⟩=some c5∧w2.cell? ⟨g,6,none⟩=some c6∧w2.cell? ⟨g,7,none⟩=some c7:=by
 subst hw;have h:∀i c,wr.cell? ⟨g,i,none⟩=some c→(((((wr.setCell ⟨R,0,none⟩ v0).setCell ⟨R,1,none⟩ v1).setCell ⟨R,2,none⟩ v2).setCell ⟨R,3,none⟩ v3).drew).cell? ⟨g,i,none⟩=some c:=by
  intro i c hc;show(((((wr.setCell ⟨R,0,none⟩ v0).setCell ⟨R,1,none⟩ v1).setCell ⟨R,2,none⟩ v2).setCell ⟨R,3,none⟩ v3)).cell? ⟨g,i,none⟩=some c;have hn:∀j,(⟨R,j,none⟩:Addr)≠⟨g,i,none⟩:=by intro j e;simp only[Addr.mk.injEq] at e;exact hne e.1
  rw[World.cell?_setCell_other _ _ _ _ (hn 3),World.cell?_setCell_other _ _ _ _ (hn 2),World.cell?_setCell_other _ _ _ _ (hn 1),World.cell?_setCell_other _ _ _ _ (hn 0)];exact hc
 exact⟨h _ _ e0,h _ _ e1,h _ _ e2,h _ _ e3,h _ _ e4,h _ _ e5,h _ _ e6,h _ _ e7⟩
theorem tell_below {w wr:World} {R:Nat} {v0 v1 v2 v3:Value} (h:Below w.heap.size w wr) (hR:w.heap.size≤R):Below w.heap.size w ((((wr.setCell ⟨R,0,none⟩ v0).setCell ⟨R,1,none⟩ v1).setCell ⟨R,2,none⟩ v2).setCell ⟨R,3,none⟩ v3):=
 (((h.setCell hR _).setCell hR _).setCell hR _).setCell hR _
def TellOk (u z:Int):Prop:=(0≤z∧z<57896044618658097711785492504343953926634992332820282019728792003956564819968∧u=z)∨(z<0∧-57896044618658097711785492504343953926634992332820282019728792003956564819968≤z∧u=115792089237316195423570985008687907853269984665640564039457584007913129639936+z)
theorem tell_ok {w w' :World} {z u a3 a2 a1 a0:Int} (h3:Word a3) (h2:Word a2) (h1:Word a1) (h0:Word a0) (hu:uw a3 a2 a1 a0=u) (hz:TellOk u z) (hb:Below w.heap.size w w') :
 TellP z w (.returned (.tuple #[.agg #[.int .u64 a3,.int .u64 a2,.int .u64 a1,.int .u64 a0],.bool true])) w' :=by
 refine⟨hb,Or.inl ⟨?_,a3,a2,a1,a0,rfl,h3,h2,h1,h0,?_⟩⟩
 · unfold told;rw[decide_eq_true_iff];unfold TellOk at hz;omega
 · exact sw_of_uw h3 h2 h1 h0 (by rw[hu];exact hz)
theorem add64 (x y c:Int) (hx:Word x) (hy:Word y) (hc0:0≤c) (hc:c≤1) (w:World):(callFunc 114 #[.int .u64 x,.int .u64 y,.int .u64 c]).run Tryz.prog w =
 .ok (.value (.tuple #[.int .u64 ((x+y+c)%18446744073709551616),.int .u64 ((x+y+c) / 18446744073709551616)])) w:=by
 obtain⟨hx0,hx1⟩:=hx;obtain⟨hy0,hy1⟩:=hy;obtain⟨x,rfl⟩:=Int.eq_ofNat_of_zero_le hx0;obtain⟨y,rfl⟩:=Int.eq_ofNat_of_zero_le hy0;obtain⟨c,rfl⟩:=Int.eq_ofNat_of_zero_le hc0;rw[run_callFunc_extern Tryz.func114 (by kernel_rfl) (by kernel_rfl) (by kernel_rfl) (e:=add64Entry) (by kernel_rfl),run_add64 x y c (by omega) (by omega) (by omega) (by omega)];simp only[Result.andThen]
theorem sub64 (x y b:Int) (hx:Word x) (hy:Word y) (hb0:0≤b) (hb:b≤1) (w:World):(callFunc 115 #[.int .u64 x,.int .u64 y,.int .u64 b]).run Tryz.prog w =
 .ok (.value (.tuple #[.int .u64 ((x-y-b)%18446744073709551616),.int .u64 (if x<y+b then 1 else 0)])) w:=by
 obtain⟨hx0,hx1⟩:=hx;obtain⟨hy0,hy1⟩:=hy;obtain⟨x,rfl⟩:=Int.eq_ofNat_of_zero_le hx0;obtain⟨y,rfl⟩:=Int.eq_ofNat_of_zero_le hy0;obtain⟨b,rfl⟩:=Int.eq_ofNat_of_zero_le hb0;have e1:(((x+18446744073709551616-y-b)%18446744073709551616:Nat):Int)=((x:Int)-y-b)%18446744073709551616:=by omega
 have e2:((if x<y+b then 1 else 0:Nat):Int)=if (x:Int)<y+b then 1 else 0:=by split<;>split<;>omega
 rw[←e1,←e2];rw[run_callFunc_extern Tryz.func115 (by kernel_rfl) (by kernel_rfl) (by kernel_rfl) (e:=sub64Entry) (by kernel_rfl),run_sub64 x y b (by omega)]
 rfl
def val64:List Int→Int
 | []=>0
 | d::t=>d+18446744073709551616*val64 t
def Words (ds:List Int):Prop:=∀d∈ds,Word d
def pw64:Nat→Int
 | 0=>1
 | n+1=>18446744073709551616*pw64 n
theorem val64_snoc (a:List Int) (d:Int):val64 (a ++[d])=val64 a+pw64 a.length*d:=by
 induction a with
 | nil=>simp[val64,pw64]
 | cons x t ih=>simp only[List.cons_append,val64,List.length_cons,pw64,ih];grind
theorem words_append {a b:List Int}:Words (a ++b)↔Words a∧Words b:=by
 constructor
 · intro h;exact⟨fun x hx=>h x (by simp[hx]),fun x hx=>h x (by simp[hx])⟩
 · rintro⟨h1,h2⟩ x hx
   rcases List.mem_append.1 hx with hx | hx
   · exact h1 x hx
   · exact h2 x hx
theorem words_at {a:List Int} (h:Words a) (n:Nat) (hn:n<a.length):Word a[n]:=h _ (List.getElem_mem hn)
theorem val64_take (a:List Int) (k:Nat) (h:k<a.length):val64 (a.take (k+1))=val64 (a.take k)+pw64 k*a[k]:=by
 rw[List.take_succ_eq_append_getElem h,val64_snoc]
 simp[Nat.min_eq_left (Nat.le_of_lt h)]
structure Row (w:World) (A off:Nat) (xs:List Int):Prop where
 cell:∀i,(h:i<xs.length)→w.cell? ⟨A,off+i,none⟩=some (.int .u64 xs[i])
 frz:∀i,i<xs.length→w.frozen? ⟨A,off+i,none⟩=false
 lt:A<w.heap.size
structure Wrote (A off n:Nat) (w w' :World):Prop where
 os:w'.os=w.os
 tape:w'.tape=w.tape
 output:w'.output=w.output
 size:w'.heap.size=w.heap.size
 block:∀k,k≠A→w'.heap[k]? =w.heap[k]?
 cell:∀j,(j<off∨off+n≤j)→w'.cell? ⟨A,j,none⟩=w.cell? ⟨A,j,none⟩
 frz:∀j,w'.frozen? ⟨A,j,none⟩=w.frozen? ⟨A,j,none⟩
theorem Wrote.refl (A off n:Nat) (w:World):Wrote A off n w w:=⟨rfl,rfl,rfl,rfl,fun _ _=>rfl,fun _ _=>rfl,fun _=>rfl⟩
theorem Wrote.drew {A off n:Nat} {w w' :World} (h:Wrote A off n w w'):Wrote A off n w w'.drew:=⟨h.os,h.tape,h.output,h.size,h.block,h.cell,h.frz⟩
theorem Wrote.set {A off n:Nat} {w w' :World} (h:Wrote A off n w w') (j:Nat) (hj:off≤j∧j<off+n) (u:Value):Wrote A off n w (w'.setCell ⟨A,j,none⟩ u):=by
 refine⟨h.os,h.tape,h.output,by simpa [World.setCell] using h.size,fun k hk=>?_,fun i hi=>?_,fun i=>?_⟩
 · rw[Below.heap_setCell _ _ _ _ hk];exact h.block k hk
 · rw[World.cell?_setCell_other _ _ _ _ (by intro e;simp only[Addr.mk.injEq] at e;omega)];exact h.cell i hi
 · rw[←h.frz i];simp[go_sem]
theorem Wrote.cellOther {A off n:Nat} {w w' :World} (h:Wrote A off n w w') {b:Nat} (hb:b≠A) (o:Nat):w'.cell? ⟨b,o,none⟩=w.cell? ⟨b,o,none⟩:=World.cell?_of_block (w:=w) (h.block b hb)
theorem Wrote.frzOther {A off n:Nat} {w w' :World} (h:Wrote A off n w w') {b:Nat} (hb:b≠A) (o:Nat):w'.frozen? ⟨b,o,none⟩=w.frozen? ⟨b,o,none⟩:=World.frozen?_of_block (w:=w) (h.block b hb)
theorem Wrote.below {A off n:Nat} {w w' :World} (h:Wrote A off n w w') {B:Nat} (hB:B≤A):Below B w w' :=⟨h.os,h.tape,h.output,by rw[h.size];exact Nat.le_refl _,fun k hk=>h.block k (by omega)⟩
theorem row_set {w:World} {A off:Nat} {zs t:List Int} {x:Int} (h:Row w A off (zs ++x::t)) (u:Int):Row (w.setCell ⟨A,off+zs.length,none⟩ (.int .u64 u)) A off ((zs ++[u]) ++t):=by
 have hc:=h.cell zs.length (by simp);refine⟨fun i hi=>?_,fun i hi=>?_,by simpa [World.setCell] using h.lt⟩
 · by_cases he:i=zs.length
   · subst he;rw[World.cell?_setCell_same _ _ _ hc]
     simp
   · rw[World.cell?_setCell_other _ _ _ _ (by intro e;simp only[Addr.mk.injEq] at e;omega),h.cell i (by simp at hi⊢;omega)]
     congr 2
     simp only[List.append_assoc,List.cons_append,List.nil_append]
     rcases Nat.lt_or_ge i zs.length with h1 | h1
     · rw[List.getElem_append_left h1,List.getElem_append_left h1]
     · rw[List.getElem_append_right h1,List.getElem_append_right h1];obtain⟨j,hj⟩:∃j,i-zs.length=j+1:=⟨i-zs.length-1,by omega⟩
       simp[hj]
 · have:=h.frz i (by simp at hi⊢;omega);rw[←this];simp[go_sem]
theorem row_drew {w:World} {A off:Nat} {xs:List Int} (h:Row w A off xs):Row w.drew A off xs:=⟨h.cell,h.frz,h.lt⟩
structure TwI (w wr:World) (A oa n:Nat) (xs ys:List Int) (k:Nat) (c:Int) (zs:List Int):Prop where
 len:zs.length=k
 wds:Words zs
 eq:val64 zs=val64 (xs.take k)-val64 (ys.take k)+c*pw64 k
 row:Row wr A oa (zs ++xs.drop k)
 wrote:Wrote A oa n w wr
def TakeWP (A oa n:Nat) (xs ys:List Int) (w:World) (e:Ending) (w' :World):Prop:=
 ∃(zs:List Int) (c:Int),e= .returned (.tuple #[])∧zs.length=n∧Words zs∧0≤c∧c≤1∧val64 zs=val64 xs-val64 ys+c*pw64 n∧Row w' A oa zs∧Wrote A oa n w w'
theorem tw_cell {w wr:World} {A oa n:Nat} {xs ys:List Int} {k:Nat} {c:Int} {zs:List Int} (h:TwI w wr A oa n xs ys k c zs) (hk:k<xs.length):wr.cell? ⟨A,oa+k,none⟩=some (.int .u64 xs[k])∧wr.frozen? ⟨A,oa+k,none⟩=false:=by
 have hl:k<(zs ++xs.drop k).length:=by simp[h.len];omega
 refine⟨?_,h.row.frz k hl⟩;rw[h.row.cell k hl];have:(zs ++xs.drop k)[k]=xs[k]:=by have:=h.len;rw[List.getElem_append_right (by omega)];simp[h.len]
 rw[this]
theorem tw_step {w wr:World} {A oa n:Nat} {xs ys:List Int} {k:Nat} {c:Int} {zs:List Int} (h:TwI w wr A oa n xs ys k c zs) (hk:k<xs.length) (hk' :k<ys.length) (hn:k<n) (u c' :Int) (hu0:Word u) (hu:u=xs[k]-ys[k]-c+c' *18446744073709551616) :
 TwI w (wr.setCell ⟨A,oa+k,none⟩ (.int .u64 u)) A oa n xs ys (k+1) c' (zs ++[u]):=by
 refine⟨by simp[h.len],words_append.2 ⟨h.wds,?_⟩,?_,?_,h.wrote.set _ ⟨by omega,by omega⟩ _⟩
 · intro d hd;simp only[List.mem_singleton] at hd;subst hd;exact hu0
 · rw[val64_snoc,h.len,val64_take xs k hk,val64_take ys k hk',pw64,h.eq,hu]
   grind
 · have hr:=h.row;rw[List.drop_eq_getElem_cons hk] at hr;have:=row_set hr u;rw[h.len] at this;exact this
theorem tw_drew {w wr:World} {A oa n:Nat} {xs ys:List Int} {k:Nat} {c:Int} {zs:List Int} (h:TwI w wr A oa n xs ys k c zs):TwI w wr.drew A oa n xs ys k c zs:=⟨h.len,h.wds,h.eq,row_drew h.row,h.wrote.drew⟩
theorem tw_done {w wr:World} {A oa n:Nat} {xs ys:List Int} {c:Int} {zs:List Int} (h:TwI w wr A oa n xs ys n c zs) (hx:xs.length=n) (hy:ys.length=n) (hc0:0≤c) (hc1:c≤1):TakeWP A oa n xs ys w (.returned (.tuple #[])) wr:=by
 refine⟨zs,c,rfl,h.len,h.wds,hc0,hc1,?_,?_,h.wrote⟩
 · have:=h.eq;rwa [List.take_of_length_le (by omega),List.take_of_length_le (by omega)] at this
 · have:=h.row;rwa [List.drop_of_length_le (by omega),List.append_nil] at this
theorem borrow (x y b:Int) (hx:Word x) (hy:Word y) (hb0:0≤b) (hb1:b≤1) (u b' :Int) (hu:u=(x-y-b)%18446744073709551616) (hb' :b' =if x<y+b then 1 else 0):Word u∧u=x-y-b+b' *18446744073709551616∧0≤b' ∧b' ≤1:=by
 unfold Word at *
 split at hb' <;>omega
theorem takeWords_any (A B oa ob n ca cc cb:Nat) (xs ys:List Int) (w:World) (hx:xs.length=n) (hy:ys.length=n) (wx:Words xs) (wy:Words ys) (rx:Row w A oa xs) (ry:Row w B ob ys) (hAB:B≠A) (hn:n≤1000) :
 Calls Tryz.prog 110 #[.slice (some ⟨A,oa,none⟩) n ca,.slice (some ⟨A,oa,none⟩) n cc,.slice (some ⟨B,ob,none⟩) n cb] w (TakeWP A oa n xs ys w):=by
 have HX:Hid (xs.length=n):=hx;have HY:Hid (ys.length=n):=hy;have HS:TwI w w A oa n xs ys 0 0 []:=⟨rfl,by intro d hd;simp at hd,by simp[val64],by simpa using rx,Wrote.refl _ _ _ _⟩;have HRY:Hid (Row w B ob ys):=ry;have HWX:Hid (Words xs):=wx;have HWY:Hid (Words ys):=wy;clear hx hy wx wy rx ry
 go_enter Tryz.func110,Tryz.ntmps110
 go_wp2
 go_loopw [6,10] (fun cr i wr=>∃(k:Nat) (c:Int) (zs:List Int),k≤n∧i= .int .i64 k∧0≤c∧c≤1∧cr= .int .u64 c∧TwI w wr A oa n xs ys k c zs) (fun _ i _=>n-(intOf i).toNat)
 case atStart=>exact⟨0,0,[],Nat.zero_le _,rfl,by decide,by decide,rfl,HS⟩
 case round=>
  obtain⟨k,c,zs,hk,rfl,hc0,hc1,rfl,hI⟩:=hrel;clear HS
  by_cases hkn:k<n
  · have hkx:k<xs.length:=by have:=HX.out;omega
    have hky:k<ys.length:=by have:=HY.out;omega
    obtain⟨hcx,hfx⟩:=tw_cell hI hkx;have hcy:=(hI.wrote.cellOther hAB (ob+k)).trans (HRY.out.cell k hky);have vx:=words_at HWX.out k hkx;have vy:=words_at HWY.out k hky;obtain⟨u,hu⟩:∃u,u=(xs[k]-ys[k]-c)%18446744073709551616:=⟨_,rfl⟩;obtain⟨c',hc'⟩:∃c' :Int,c' =if xs[k]<ys[k]+c then 1 else 0:=⟨_,rfl⟩;have hadd:=fun wx=>sub64 xs[k] ys[k] c vx vy hc0 hc1 wx;rw[←hu,←hc'] at hadd;obtain⟨hw,hq,hb0,hb1⟩:=borrow _ _ _ vx vy hc0 hc1 u c' hu hc';have R:=tw_step hI hkx hky hkn u c' hw hq;clear hI vx vy hu hc' hw hq;have hkn' :(k:Int)<n:=by omega
    go_wp2
    go_region
    go_wp2;go_roundw
    case rel=>exact⟨k+1,c',_,by omega,by go_num,hb0,hb1,rfl,by first | exact R | exact tw_drew R⟩
    case measure=>simp[intOf];omega
  · obtain rfl:k=n:=by omega
    have R:=tw_done hI HX.out HY.out hc0 hc1;clear hI;go_wp2
    go_end0
    exact R
theorem val64_set (zs:List Int) (j:Nat) (h:j<zs.length) (u:Int):val64 (zs.set j u)=val64 zs+pw64 j*(u-zs[j]):=by
 induction zs generalizing j with
 | nil=>simp at h
 | cons d t ih=>
  cases j with
  | zero=>simp[val64,pw64];omega
  | succ j=>
   simp only[List.set_cons_succ,val64,pw64,List.getElem_cons_succ];rw[ih j (by simpa using h)]
   grind
theorem pw64_add (i k:Nat):pw64 (i+k)=pw64 i*pw64 k:=by
 induction i with
 | zero=>simp[pw64]
 | succ i ih=>rw[show i+1+k=(i+k)+1 by omega,pw64,pw64,ih];grind
theorem words_set {zs:List Int} (h:Words zs) (j:Nat) {u:Int} (hu:Word u):Words (zs.set j u):=by
 intro d hd
 rcases List.mem_or_eq_of_mem_set hd with h' | h'
 · exact h d h'
 · subst h';exact hu
theorem tm_arith {P z o:Int} (p0:0≤P) (p1:P≤340282366920938463426481119284349108225) (hz:Word z) (ho:Word o) :
 Word (P / 18446744073709551616)∧Word (P%18446744073709551616)∧Word ((P%18446744073709551616+z)%18446744073709551616)∧
 P / 18446744073709551616+(P%18446744073709551616+z) / 18446744073709551616<18446744073709551616∧
 ((P%18446744073709551616+z)%18446744073709551616+o)%18446744073709551616=(P+z+o)%18446744073709551616∧
 P / 18446744073709551616+(P%18446744073709551616+z) / 18446744073709551616+((P%18446744073709551616+z)%18446744073709551616+o) / 18446744073709551616=(P+z+o) / 18446744073709551616∧
 Word ((P+z+o) / 18446744073709551616)∧Word ((P+z+o)%18446744073709551616):=by
 unfold Word at *;refine⟨?_,?_,?_,?_,?_,?_,?_,?_⟩<;>omega
theorem word_mul {x y:Int} (hx:Word x) (hy:Word y):0≤x*y∧x*y≤340282366920938463426481119284349108225:=by
 unfold Word at *;refine⟨Int.mul_nonneg hx.1 hy.1,?_⟩;have h1:x*y≤18446744073709551615*y:=Int.mul_le_mul_of_nonneg_right (by omega) hy.1
 omega
theorem val64_cut (xs:List Int) (n:Nat) (hn:n≤xs.length) (hz:∀j,n≤j→(h:j<xs.length)→xs[j]=0):val64 (xs.take n)=val64 xs:=by
 induction xs generalizing n with
 | nil=>simp
 | cons d t ih=>
  cases n with
  | zero=>
   have h0:d=0:=hz 0 (Nat.zero_le _) (by simp);have ht:=ih 0 (Nat.zero_le _) (fun j _ h=>by have:=hz (j+1) (by omega) (by simpa using h);simpa using this);simp only[List.take_zero,val64] at ht⊢;rw[h0,←ht];rfl
  | succ n=>
   simp only[List.take_succ_cons,val64];rw[ih n (by simpa using hn) (fun j hj h=>by have:=hz (j+1) (by omega) (by simpa using h);simpa using this)]
end Go.Proofs.YtbogliojkabbjaaGreat
