/- tailorlaw.Typed returns true at every script of bulk at most 1048576, and its tied card holds. Its conditions: the listed variables (two tables of math/bits, one of strconv, strconv's two errors) start as the program's text lays them; what it reads is of bulk at most 1048576 (the second form). -/
import Derived.Test.YtckhafpejefbbaaGreatDoorB37
import Derived.JoinedCond
import Derived.Deep.DeepHandedRow
import Derived.Deep.DeepWitnessRowRef

set_option maxRecDepth 100000
set_option maxHeartbeats 16000000
namespace Go.Proofs.YtckhafpejefbbaaGreatDoor
section
open Go.Proofs.Tryz
open Go.ChangeShapes Go.WideShapes Go.ChangeAt Go.RowKit
theorem typed_witness(a:Os){H:Type}(enc:TypeId×Value->H):
  (Rows.OpenSpec.upto Rows.typedSpec).preRow enc prog f4 Rows.typedUptoRow.domain false Rows.typedUptoRow.laid ((World.doorLaid prog 62 a).forCall (λ_ _=>0) ⟨#[],#[zN],[]⟩).memory #[zN]:=by
 have d:(DataW.whole enc prog ((World.doorLaid prog 62 a).forCall (λ_ _=>0) ⟨#[],#[zN],[]⟩).memory f4.params.toList Rows.typedSpec.vars false #[zN].toList 8).map (λx=>(x.1,x.2.1))=some ([.nil],[]):=kR;obtain⟨⟨f,g,h⟩,e,b⟩:=Option.map_eq_some_iff.1 d;simp only[zpI]at b;obtain⟨rfl,rfl⟩:=b;exact OpenSpec.preRow_of_cond 8 e kR (λk c=>by cases c;kernel_rfl) kR (zjj a _)
theorem typed_lifted(b:Os)(E:b.Started)(H:Type)(enc:TypeId×Value->H)(F:Stop.Interp):
  ReturnsInHanded {} checked b 4 .any ((Rows.OpenSpec.upto Rows.typedSpec).preRow enc prog f4 Rows.typedUptoRow.domain false Rows.typedUptoRow.laid) (((Rows.OpenSpec.upto Rows.typedSpec).at F).post enc prog f4 false true false false):=by
 refine returnsInHanded_of_row (C:=checked) (s:=Rows.OpenSpec.upto Rows.typedSpec) own E kR func4
  (witness_row_atRef (enc:=enc) (C:=checked) false (World.doorLaid prog 62 b) #[zN] rfl kR kR kR (typed_witness b enc)) ?_
 intro W base a d l J A e _ w _ P _ _;have h:∀(j:Nat) t v,f4.params[j]?=some t->a[j]?=some v->Value.okWide prog W .any base t v:=A;have z:Rows.uptoBulkAll (d++l)<=1048576:=of_decide_eq_true (w _ rfl);have f:=e;obtain⟨p,U,hA0,r,rfl,R,S⟩:=e;have c:DataW.TrodAll enc prog W 0 (λ_=>true) true f4.params.toList a.toList d p:=hA0;have o:=c;rw[params4]at c h;obtain⟨i,X,L,M,T,V,Q,rfl,rfl,n,D⟩:=trodAll_cons c;obtain⟨rfl,rfl,rfl⟩:=trodAll_nil D;obtain rfl:a=#[i]:=by cases a;simp_all
 obtain⟨rfl,rfl⟩:=trodVars_none r;obtain⟨k,len,cap,rfl⟩:=okWide_slice underlying22 (h 0 22 i rfl rfl);have q:OpsAt W k len:=by
  obtain⟨O,y⟩:=n;refine zkm (cap:=cap) (by simpa[Value.cells]using y) ?_;simp only[List.append_nil,Rows.uptoBulkAll]at z;omega
 refine(Typed_any libO q).mono λN I ⟨x,g⟩=>?_;subst x;exact⟨_,rfl,_,_,_,[],_,[],f,trodAll_cons_mk (shut_bool underlying4 _) trodAll_mk0,zd4 g (by rw[params4];kernel_rfl) (λG B=>f.lt G (zmA.2 (.inl B))) o,rfl,Th g _,λm=>by cases m⟩
theorem typed_holds:Rows.TypedUptoSaid:=
 OpenClaim.holds_of_cond 4 f4 rfl rfl rfl rfl rfl rfl rfl ⟨rfl,rfl,rfl,rfl,rfl⟩ rfl rfl rfl rfl rfl kR func4 typed_closed
  (of_decide_eq_true kR) (by unfold Func.isWrapper;first|(rw[mA (by decide +kernel)];kernel_rfl)|(rw[jA (by decide +kernel)];exact⟨rfl,rfl⟩))
  (λb c H a _ F=>by rw[OpenClaim.pre_eq_preRow];exact typed_lifted b c H a F)
theorem typed_card:Rows.TypedUptoCardSaid:=
 Claim7.holds_tied_plain_at .later [] [.data,.data,.data,.sentinel,.sentinel] true Rows.typedUptoCard.stood.harness true
  typed_holds (λ_ h=>by cases h) kR (λ_ h=>by cases h) typedUpto_row_tie rfl ⟨rfl,rfl⟩ kR rfl
  (λf b d e=>by
   obtain rfl:f=4:=Option.some.inj ((show prog.funcNamed Rows.typedUptoRow.func=some 4 by kernel_rfl).symm.trans d)|>.symm;obtain rfl:b=f4:=(Option.some.inj (func4.symm.trans e)).symm;exact⟨kR,λj t a=>by
    rw[params4]at a;have g:t ∈ [22]:=(by simpa using Array.mem_of_getElem? a);have c:([22].all λi=>!prog.wantsStandIn i)=true:=kR;exact(show prog.wantsStandIn t=false by simpa using List.all_eq_true.1 c t g)⟩)
  kR
#print axioms typed_card
end
end Go.Proofs.YtckhafpejefbbaaGreatDoor
