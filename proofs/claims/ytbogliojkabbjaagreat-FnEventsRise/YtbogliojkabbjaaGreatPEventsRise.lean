/- For every code (a slice of bytes) the law answers true, and the code reads as it did: events that are taken one by one of a drawn right row rise, and have all that was put; what is put twice stands once; no condition. -/
import Derived.Test.YtbogliojkabbjaaGreatEr20
import Derived.ProofKit
import Derived.Lib.SmallJoins
import Derived.SizedLaws
set_option maxRecDepth 100000
set_option maxHeartbeats 16000000
namespace Go.Proofs.YtbogliojkabbjaaGreat
open Go.ChangeShapes Go.WideShapes Go.ChangeAt Go.RowKit Go.Joins
theorem Tryz.laidOut:laidOutB Tryz.prog=true:=by kernel_rfl
theorem Tryz.cellsByte:Tryz.prog.cellsOf 5=1:=by kernel_rfl
theorem byte_of_wf {x:Int} (h:(Lit.int .u8 x).wf=true):0≤x∧x<256:=by
 simp[Lit.wf,IntKind.min,IntKind.max,IntKind.signed,IntKind.bits] at h
 exact⟨by omega,by omega⟩
theorem code_of {W:World} {a:Addr} {len:Nat} {zs:List Int} (hlen:len≤zs.length) (hs:len≤1048576) (hcell:∀i,i<zs.length→W.cell? (a.add i)=some (.int .u8 (zs.getD i 0))) (hwz:∀n∈zs,(Lit.int .u8 n).wf=true) (hlt:∀x∈MemPlace.row a zs.length,x.block<W.heap.size):Code W (some a) len (zs.take len):=by
 refine⟨fun i hi=>?_,by simp;omega,hs,fun c hc=>byte_of_wf (hwz c (List.mem_of_mem_take hc))⟩;have hi' :i<zs.length:=by simp at hi;omega
 obtain⟨ab,ao,spot⟩:=a;have hspot:spot=none:=by simpa [Addr.add] using World.cell?_spot (hcell 0 (by omega))
 subst hspot;have hc:=hcell i hi';rw[Addr.add_lit] at hc;have hl:=hlt (.cell ab (ao+i)) (by simp only[MemPlace.row,List.mem_map,List.mem_range];exact⟨i,hi',rfl⟩);refine⟨ab,ao,rfl,hl,hc.trans ?_⟩
 simp[hi']
theorem fnEventsRise_lifted (os:Os) (started:os.Started) (H:Type) (enc:TypeId×Value→H) :
 ReturnsInHanded {} Tryz.checked os 3 .any (Rows.fnEventsRiseSpec.pre6 enc Tryz.prog Tryz.f3 Rows.fnEventsRiseRow.domain false) (Rows.fnEventsRiseSpec.post enc Tryz.prog Tryz.f3 false true false false):=by
 refine returnsInHanded_of_change (C:=Tryz.checked) Tryz.own started (by kernel_rfl) Tryz.func3
  (ChangeSpec.witness6 (enc:=enc) (C:=Tryz.checked) false ⟨#[],#[.slice none 0 0],[]⟩ 8 (by kernel_rfl) (by kernel_rfl) (by kernel_rfl) (by kernel_rfl)) ?_
 intro W base args ds gs before hval0 hW hcnd _;have hval:∀(j:Nat) t v,Tryz.f3.params[j]? =some t→args[j]? =some v→Value.okWide Tryz.prog W .any base t v:=hval0;have hW' :=hW;obtain⟨p,q,hA0,hV,rfl,hfz,hnd⟩:=hW;have hA:DataW.TrodAll enc Tryz.prog W 0 (fun _=>true) true Tryz.f3.params.toList args.toList ds p:=hA0;rw[Tryz.params3] at hA hval;obtain⟨v0,d0,rfl,rfl,h0⟩:=trodAll_one hA;obtain⟨rfl,rfl⟩:=trodVars_none hV;have h0k:=h0;obtain⟨fuel,hf⟩:=h0;clear hA0 hval0;simp only[List.append_nil] at hW';have hlt:∀x∈p,x.block<W.heap.size:=fun x hx=>by simpa using hW'.lt x hx
 have again:∀W' :World,Below W.heap.size W W' →DataW.Trod enc Tryz.prog W' 0 (fun b=>decide (b<W.heap.size)) true 22 v0 d0 p:=fun W' hB=>
  Below.trod Tryz.laidOut (by kernel_rfl) (of_decide_eq_true (by kernel_rfl)) h0k hB hlt
 obtain⟨a0,len,cap,rfl⟩:=okWide_slice Tryz.underlying22 (hval 0 22 v0 rfl rfl)
 rcases open_ints Tryz.underlying22 Tryz.underlying5 Tryz.cellsByte hf with ⟨hcs,hx⟩ | ⟨a,len',cap',zs,hcs,_,hl,hm,hz,hx,hcell,hwz⟩
 · simp[Value.cells] at hcs
   obtain⟨rfl,rfl,rfl⟩:=hcs;simp only[Prod.mk.injEq] at hx;obtain⟨rfl,rfl⟩:=hx;refine(lawEventsRise_any none 0 0 [] W (fun _=>⟨fun i hi=>(by simp at hi),rfl,by omega,fun c hc=>(by cases hc)⟩)).mono fun e W' ⟨he,hB⟩=>?_;subst he;exact⟨_,rfl,⟨_,_,_,[],_,[],hW',trodAll_mk1 (shut_bool Tryz.underlying4 _),trodAll_mk1 (again W' hB),rfl,hB.frame _,fun h=>by cases h⟩⟩
 · simp[Value.cells] at hcs
   obtain⟨rfl,rfl,rfl⟩:=hcs;simp only[Prod.mk.injEq] at hx;obtain⟨rfl,rfl⟩:=hx;simp only[if_true] at hz;refine(lawEventsRise_any (some a) len cap (zs.take len) W (fun hs=>code_of (by omega) hs hcell hwz hlt)).mono fun e W' ⟨he,hB⟩=>?_;subst he;exact⟨_,rfl,⟨_,_,_,[],_,[],hW',trodAll_mk1 (shut_bool Tryz.underlying4 _),trodAll_mk1 (again W' hB),rfl,hB.frame _,fun h=>by cases h⟩⟩
theorem fnEventsRise_j1:(Rows.fnEventsRiseRow.inPlace==Tryz.pinned.checked.prog.inPlace 3)=true:=by kernel_rfl
theorem fnEventsRise_j2:(Rows.fnEventsRiseRow.unfollowed==Tryz.pinned.checked.prog.unfollowed 3)=true:=by kernel_rfl
theorem fnEventsRise_j3:(Rows.fnEventsRiseRow.recurses==Tryz.pinned.checked.prog.recurses 3)=true:=by kernel_rfl
theorem fnEventsRise_j4:(Rows.fnEventsRiseRow.named==Tryz.pinned.checked.prog.varsNamed 3)=true:=by kernel_rfl
theorem fnEventsRise_closed:joinedFacts Tryz.pinned.checked.prog 3 Tryz.f3 Rows.fnEventsRiseSpec Rows.fnEventsRiseRow=true:=by
 unfold joinedFacts;rw[fnEventsRise_j1,fnEventsRise_j2,fnEventsRise_j3,fnEventsRise_j4,jn_laid,jn_maps,jn_enter,jn_heard]
 kernel_rfl
theorem fnEventsRise_holds:Rows.FnEventsRiseSaid:=
 OpenClaim.holds_of_wide 3 Tryz.f3 rfl rfl rfl rfl rfl rfl rfl ⟨rfl,rfl,rfl,rfl,rfl⟩ rfl rfl rfl rfl rfl (by kernel_rfl) Tryz.func3 fnEventsRise_closed
  (of_decide_eq_true (by kernel_rfl)) (by unfold Func.isWrapper;first | (rw[if_pos (by decide +kernel)];kernel_rfl) | (rw[if_neg (by decide +kernel)];exact⟨rfl,rfl⟩))
  (fun os started H enc _=>fnEventsRise_lifted os started H enc)
#print axioms fnEventsRise_holds
end Go.Proofs.YtbogliojkabbjaaGreat
