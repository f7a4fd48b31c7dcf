/- tailorkeep.Kept returns true at every input, and its tied card holds. Its conditions: the listed variables (two tables of math/bits, one of strconv, strconv's two errors) start as the program's text lays them. -/
import Derived.Test.YtckhafpejefbbaaGreatDoorB31
import Derived.Test.YtckhafpejefbbaaGreatDoorB32
import Derived.ChangeMaps5

set_option maxRecDepth 100000
set_option maxHeartbeats 4000000
namespace Go.Proofs.YtckhafpejefbbaaGreatDoor
open Go.ChangeShapes Go.WideShapes Go.ChangeAt Go.RowKit
theorem zv7:∃f0 f1 f2:Field,Tryz.prog.underlying 50=some (.struct #[f0,f1,f2])/\(f0.type=3/\f0.offset=0)/\(f1.type=3/\f1.offset=1)/\f2.type=3/\f2.offset=2 :=
 ⟨_,_,_,Tryz.underlying50,⟨rfl,rfl⟩,⟨rfl,rfl⟩,rfl,rfl⟩
theorem zyp:∀ {cs:List Value},cs.length=3->∃u0 u1 u2,cs=[u0,u1,u2]
 | [u0,u1,u2],_=>⟨u0,u1,u2,rfl⟩
theorem zyq {H:Type} {enc:TypeId×Value->H} {w:World} {base:Nat} {spare:Nat->Bool} {held:Bool} {fuel:Nat} {ar:Option Addr} {len cap:Nat} {x:DataW H×List MemPlace}
  (h:DataW.trod enc Tryz.prog w base spare held fuel 44 [.slice ar len cap]=some x):zt6 w ar len:=by
 have c3:Tryz.prog.cellsOf 50=3:=by kernel_rfl
 have c1:Tryz.prog.cellsOf 3=1:=by kernel_rfl
 obtain ⟨f0,f1,f2,hu,⟨a1,a2⟩,⟨b1,b2⟩,d1,d2⟩:=zv7
 rcases DataW.trod_slice Tryz.underlying44 h with ⟨h0,_⟩ | ⟨a,len',cap',elems,rest,n,_,h1,_,hb,hl,hm,hlen,hel,_,_⟩
 ·simp at h0
  obtain ⟨rfl,rfl,rfl⟩:=h0
  exact ⟨by omega,fun i hi=>absurd hi (by omega)⟩
 ·simp at h1
  obtain ⟨rfl,rfl,rfl⟩:=h1
  unfold maxLen at hm
  refine ⟨by omega,fun i hi => ?_⟩
  have e:=hel i hi
  obtain ⟨y,hy⟩:∃y,elems[i]? = some y:=⟨_,List.getElem?_eq_getElem (by omega)⟩
  rw [hy,c3,zbE] at e
  obtain ⟨cs,hcs,ht⟩:=e
  obtain ⟨_,hcl,hcell⟩:=World.cells?_some hcs
  obtain ⟨xs,m,_,_,_,hxl,hf⟩:=DataW.trod_struct hu ht
  obtain ⟨u0,u1,u2,rfl⟩:=zyp hcl
  have g0:=hf 0 f0 rfl
  have g1:=hf 1 f1 rfl
  have g2:=hf 2 f2 rfl
  rw [a1,a2,c1] at g0
  rw [b1,b2,c1] at g1
  rw [d1,d2,c1] at g2
  obtain ⟨y0,hy0⟩:∃y0,xs[0]? = some y0:=⟨_,List.getElem?_eq_getElem (by rw [hxl]; simp)⟩
  obtain ⟨y1,hy1⟩:∃y1,xs[1]? = some y1:=⟨_,List.getElem?_eq_getElem (by rw [hxl]; simp)⟩
  obtain ⟨y2,hy2⟩:∃y2,xs[2]? = some y2:=⟨_,List.getElem?_eq_getElem (by rw [hxl]; simp)⟩
  rw [hy0] at g0
  rw [hy1] at g1
  rw [hy2] at g2
  obtain ⟨k,e0,_,w0⟩:=DataW.trod_int Tryz.underlying3 g0
  obtain ⟨p,e1,_,w1⟩:=DataW.trod_int Tryz.underlying3 g1
  obtain ⟨q,e2,_,w2⟩:=DataW.trod_int Tryz.underlying3 g2
  simp at e0 e1 e2
  subst e0 e1 e2
  have k0:=hcell 0 (by omega)
  have k1:=hcell 1 (by omega)
  have k2:=hcell 2 (by omega)
  refine ⟨a,k,p,q,rfl,by simpa [Addr.add] using k0,by simpa [Addr.add] using k1,by simpa [Addr.add] using k2,?_,?_⟩
  ·simpa [Lit.wf,IntKind.min,IntKind.max,IntKind.signed,IntKind.bits] using w1
  ·simpa [Lit.wf,IntKind.min,IntKind.max,IntKind.signed,IntKind.bits] using w2
theorem zv8 (os:Os) (started:os.Started) (H:Type) (enc:TypeId×Value->H) :
  ReturnsInHanded {} Tryz.checked os 11 .any (fun w args=>(Rows.keptSpec.pre enc Tryz.prog Tryz.f11 [] false w args/\laidMetH Tryz.prog zwc w)/\sizedMet enc Tryz.prog Tryz.f11 (OpenSpec.ofChange Rows.keptSpec) false w args)
   (Rows.keptSpec.post enc Tryz.prog Tryz.f11 false true false false):=by
 refine returnsInHanded_of_change_and (C:=Tryz.checked) (X:=fun w _=>laidMetH Tryz.prog zwc w) (fun _ _ _ hh h=>h.of_heap hh) own started (by kernel_rfl) Tryz.func11
  (ChangeSpec.witness_shaped (enc:=enc) (C:=Tryz.checked) (os:=os) (X:=fun w _=>laidMetH Tryz.prog zwc w) false (World.doorLaid Tryz.prog 62 os) #[.string ⟨#[]⟩,.slice none 0 0,.int .i64 0] 8 rfl (World.shaped_of_RefB (by kernel_rfl) (by kernel_rfl)) (by kernel_rfl) (by kernel_rfl) (by kernel_rfl) (yc7 os _)) ?_
 intro W base args ds gs before hval0 hW _ _ hL _
 have hval:∀(j:Nat) t v,Tryz.f11.params[j]? = some t->args[j]? = some v->Value.okWide Tryz.prog W .any base t v:=hval0
 have hW':=hW
 obtain ⟨p,q,hA0,hV,rfl,hfz,hnd⟩:=hW
 have hA:DataW.TrodAll enc Tryz.prog W 0 (fun _=>true) true Tryz.f11.params.toList args.toList ds p:=hA0
 have hAk:=hA
 rw [Tryz.params11] at hA hval
 obtain ⟨v0,vs0,d0,ds0,p0,q0,hargs,rfl,rfl,h0,r0⟩:=trodAll_cons hA
 obtain ⟨v1,vs1,d1,ds1,p1,q1,rfl,rfl,rfl,h1,r1⟩:=trodAll_cons r0
 obtain ⟨v2,vs2,d2,ds2,p2,q2,rfl,rfl,rfl,h2,r2⟩:=trodAll_cons r1
 obtain ⟨rfl,rfl,rfl⟩:=trodAll_nil r2
 obtain rfl:args=#[v0,v1,v2]:=by cases args; simp_all
 obtain ⟨rfl,rfl⟩:=trodVars_none hV
 obtain ⟨s0,rfl,rfl,rfl,_⟩:=Go.ChangeMaps.open_string Tryz.underlying9 (hval 0 9 v0 rfl rfl) h0
 obtain ⟨a2,rfl,rfl,rfl,w2⟩:=open_int Tryz.underlying3 (hval 2 3 v2 rfl rfl) h2
 obtain ⟨hT,hG⟩:=yer hL
 obtain ⟨ar,len,cap,rfl⟩:=okWide_slice Tryz.underlying44 (hval 1 44 v1 rfl rfl)
 have hR:zt6 W ar len:=by
  obtain ⟨fuel,hf⟩:=h1
  exact zyq (cap:=cap) (by simpa [Value.cells] using hf)
 clear hA0 hval0
 refine (ydx lib6 hT hG s0 hR a2).mono fun e W' ⟨he,hg⟩ => ?_
 subst he
 exact ⟨_,rfl,_,_,_,[],_,[],hW',trodAll_cons_mk (shut_bool Tryz.underlying4 _) trodAll_mk0,zxs hg (by rw [Tryz.params11]; kernel_rfl) (fun x hx=>hW'.lt x (zmA.2 (.inl hx))) hAk,rfl,zoh hg _,fun h=>by cases h⟩
theorem zyr:Rows.KeptSaid :=
 OpenClaim.holds_of_wide 11 Tryz.f11 rfl rfl rfl rfl rfl rfl rfl ⟨rfl,rfl,rfl,rfl,rfl⟩ rfl rfl rfl rfl rfl (by kernel_rfl) Tryz.func11 zv6
  (of_decide_eq_true (by kernel_rfl)) (by unfold Func.isWrapper; first | (rw [if_pos (by decide +kernel)]; kernel_rfl) | (rw [if_neg (by decide +kernel)]; exact ⟨rfl,rfl⟩))
  (fun os started H enc _=>zv8 os started H enc)
theorem kept_card:Rows.KeptCardSaid :=
 Claim7.holds_tied_plain_at .later [] [.data,.data,.data,.sentinel,.sentinel] true Rows.keptCard.stood.harness true
  zyr (fun _ h=>by cases h) (by kernel_rfl) (fun _ h=>by cases h) kept_row_tie rfl ⟨rfl,rfl⟩ (by kernel_rfl) rfl
  (fun f fn hf hfn=>by
   obtain rfl:f=11:=Option.some.inj ((show Tryz.prog.funcNamed Rows.keptRow.func=some 11 by kernel_rfl).symm.trans hf) |>.symm
   obtain rfl:fn=Tryz.f11:=(Option.some.inj (Tryz.func11.symm.trans hfn)).symm
   exact ⟨by kernel_rfl,fun j t ht=>by
    rw [Tryz.params11] at ht
    have hm:t ∈ [9,44,3]:=by simpa using Array.mem_of_getElem? ht
    have hall:([9,44,3].all fun u => !Tryz.prog.wantsStandIn u)=true:=by kernel_rfl
    exact (show Tryz.prog.wantsStandIn t=false by simpa using List.all_eq_true.1 hall t hm)⟩)
  (by kernel_rfl)
#print axioms kept_card
end Go.Proofs.YtckhafpejefbbaaGreatDoor
