/- tailorlaw.Runs returns true at every script of bulk at most 1048576, and its tied card holds. Its conditions: the listed variables (two tables of math/bits, one of strconv, strconv's two errors) start as the program's text lays them; what it reads is of bulk at most 1048576 (the second form). -/
import Derived.Test.YtckhafpejefbbaaGreatDoorB37
import Derived.Test.YtckhafpejefbbaaGreatDoorB38
import Derived.Deep.DeepWitnessRowRef

set_option maxRecDepth 100000
set_option maxHeartbeats 16000000
namespace Go.Proofs.YtckhafpejefbbaaGreatDoor
section
open Go.Proofs.Tryz
open Go.ChangeShapes Go.WideShapes Go.ChangeAt Go.RowKit
theorem ze6(a:Os){H:Type}(enc:TypeId×Value->H):
  (Rows.OpenSpec.upto Rows.runsSpec).preRow enc prog f5 Rows.runsUptoRow.domain false Rows.runsUptoRow.laid ((World.doorLaid prog 62 a).forCall (λ_ _=>0) ⟨#[],#[zN],[]⟩).memory #[zN]:=by
 have d:(DataW.whole enc prog ((World.doorLaid prog 62 a).forCall (λ_ _=>0) ⟨#[],#[zN],[]⟩).memory f5.params.toList Rows.runsSpec.vars false #[zN].toList 8).map (λx=>(x.1,x.2.1))=some ([.nil],[]):=kR;obtain⟨⟨f,g,h⟩,e,b⟩:=Option.map_eq_some_iff.1 d;simp only[zpI]at b;obtain⟨rfl,rfl⟩:=b;exact OpenSpec.preRow_of_cond 8 e kR (λk c=>by cases c;kernel_rfl) kR (zpz a _)
theorem zho(b:Os)(J:b.Started)(H:Type)(enc:TypeId×Value->H)(F:Stop.Interp):
  ReturnsInHanded {} checked b 5 .any ((Rows.OpenSpec.upto Rows.runsSpec).preRow enc prog f5 Rows.runsUptoRow.domain false Rows.runsUptoRow.laid) (((Rows.OpenSpec.upto Rows.runsSpec).at F).post enc prog f5 false true false false):=by
 refine returnsInHanded_of_row (C:=checked) (s:=Rows.OpenSpec.upto Rows.runsSpec) own J kR func5
  (witness_row_atRef (enc:=enc) (C:=checked) false (World.doorLaid prog 62 b) #[zN] rfl kR kR kR (ze6 b enc)) ?_
 intro W base a d l N E e _ z _ r _ _;have h:∀(j:Nat) t v,f5.params[j]?=some t->a[j]?=some v->Value.okWide prog W .any base t v:=E;have D:Rows.uptoBulkAll (d++l)<=1048576:=of_decide_eq_true (z _ rfl);have f:=e;obtain⟨p,X,hA0,y,rfl,T,U⟩:=e;have c:DataW.TrodAll enc prog W 0 (λ_=>true) true f5.params.toList a.toList d p:=hA0;have o:=c;rw[params5]at c h;obtain⟨i,Z,O,P,V,Y,S,rfl,rfl,n,I⟩:=trodAll_cons c;obtain⟨rfl,rfl,rfl⟩:=trodAll_nil I;obtain rfl:a=#[i]:=by cases a;simp_all
 obtain⟨rfl,rfl⟩:=trodVars_none y;obtain⟨k,len,cap,rfl⟩:=okWide_slice underlying22 (h 0 22 i rfl rfl);have w:zbn W k len:=by
  obtain⟨R,B⟩:=n;refine zq8 (cap:=cap) (by simpa[Value.cells]using B) ?_;simp only[List.append_nil,Rows.uptoBulkAll]at D;omega
 obtain⟨x,q⟩:=zsl r;refine(zq6 zwn x q w).mono λQ M ⟨A,g⟩=>?_;subst A;exact⟨_,rfl,_,_,_,[],_,[],f,trodAll_cons_mk (shut_bool underlying4 _) trodAll_mk0,zjk g (by rw[params5];kernel_rfl) (λL G=>f.lt L (zmA.2 (.inl G))) o,rfl,Xn g _,λm=>by cases m⟩
theorem zki:Rows.RunsUptoSaid:=
 OpenClaim.holds_of_cond 5 f5 rfl rfl rfl rfl rfl rfl rfl ⟨rfl,rfl,rfl,rfl,rfl⟩ rfl rfl rfl rfl rfl kR func5 zhn
  (of_decide_eq_true kR) (by unfold Func.isWrapper;first|(rw[mA (by decide +kernel)];kernel_rfl)|(rw[jA (by decide +kernel)];exact⟨rfl,rfl⟩))
  (λb c H a _ F=>by rw[OpenClaim.pre_eq_preRow];exact zho b c H a F)
theorem runs_card:Rows.RunsUptoCardSaid:=
 Claim7.holds_tied_plain_at .later [] [.data,.data,.data,.sentinel,.sentinel] true Rows.runsUptoCard.stood.harness true
  zki (λ_ h=>by cases h) kR (λ_ h=>by cases h) runsUpto_row_tie rfl ⟨rfl,rfl⟩ kR rfl
  (λf b d e=>by
   obtain rfl:f=5:=Option.some.inj ((show prog.funcNamed Rows.runsUptoRow.func=some 5 by kernel_rfl).symm.trans d)|>.symm;obtain rfl:b=f5:=(Option.some.inj (func5.symm.trans e)).symm;exact⟨kR,λj t a=>by
    rw[params5]at a;have g:t ∈ [22]:=(by simpa using Array.mem_of_getElem? a);have c:([22].all λi=>!prog.wantsStandIn i)=true:=kR;exact(show prog.wantsStandIn t=false by simpa using List.all_eq_true.1 c t g)⟩)
  kR
#print axioms runs_card
end
end Go.Proofs.YtckhafpejefbbaaGreatDoor
