import Derived.Test.YtckhafpejefbbaaGreatDoorB23

set_option maxRecDepth 100000
set_option maxHeartbeats 4000000
namespace Go.Proofs.YtckhafpejefbbaaGreatDoor
section
open Tw
open Go.RowKit
section
variable{l:List UInt8}
theorem zk8(t:Tw.T):t.bat=t.bpl:=by cases t<;>rfl
theorem Tw.Fx:∀t:Tw.T,(t.binds.map Tw.T.bpl).Sublist t.places
 |.name .. =>List.nil_sublist _
 |.int ..|.Ak ..|.side .. =>List.Sublist.refl _
 |.bracket _ _ i=>Fx i
 |.pair _ _ a b=>by simp only[T.binds,vB];exact(Fx a).append (Fx b)
 |.call _ _ a b=>by simp only[T.binds,vB];exact(Fx a).append (Fx b)
 |.binary _ _ _ a b=>by simp only[T.binds,vB];exact(Fx a).append (Fx b)
 |.cond _ _ a b c=>by simp only[T.binds,vB];exact(Fx a).append ((Fx b).append (Fx c))
 |.fn _ _ _ _ a=>(Fx a).cons_cons _
 |.Am _ _ _ _ _ a b=>by simp only[T.binds,List.map_cons,vB];exact((Fx a).append (Fx b)).cons_cons _
theorem Ji(x:TN)(L:List TN):Ig (x::L)=if x.bind.isSome then x::Ig L else Ig L:=by
 simp only[Ig,List.filter_cons]
theorem NDL.binds{w:World}{hi:Nat}:∀ {t:Tw.T} {v:Value} {L:List TN},NDL w hi t v L->(Ig L).map (·.t)=t.binds
 |.name ..,_,_,⟨_,e⟩=>by subst e;rfl
 |.int ..,_,_,⟨_,e⟩=>by subst e;rfl
 |.Ak ..,_,_,⟨_,e⟩=>by subst e;rfl
 |.side ..,_,_,⟨_,e⟩=>by subst e;rfl
 |.bracket ..,_,_,⟨_,_,_,n1,e⟩=>by
  subst e;rw[Ji,jA (by simp[TN.bind]),NDL.binds n1];rfl
 |.pair ..,_,_,⟨_,_,_,_,_,n1,n2,e⟩=>by
  subst e;rw[Ji,jA (by simp[TN.bind]),Hb,vB,NDL.binds n1,NDL.binds n2];rfl
 |.call ..,_,_,⟨_,_,_,_,_,n1,n2,e⟩=>by
  subst e;rw[Ji,jA (by simp[TN.bind]),Hb,vB,NDL.binds n1,NDL.binds n2];rfl
 |.binary ..,_,_,⟨_,_,_,_,_,n1,n2,e⟩=>by
  subst e;rw[Ji,jA (by simp[TN.bind]),Hb,vB,NDL.binds n1,NDL.binds n2];rfl
 |.cond ..,_,_,⟨_,_,_,_,_,_,_,n1,n2,n3,e⟩=>by
  subst e;rw[Ji,jA (by simp[TN.bind]),Hb,Hb,vB,vB,NDL.binds n1,NDL.binds n2,NDL.binds n3];rfl
 |.fn ..,_,_,⟨_,_,⟨b,_,_,hv,_⟩,n1,e⟩=>by
  subst e;subst hv;rw[Ji,mA (by simp[TN.bind]),List.map_cons,NDL.binds n1];rfl
 |.Am ..,_,_,⟨_,_,_,_,⟨b,_,_,hv,_⟩,n1,n2,e⟩=>by
  subst e;subst hv;rw[Ji,mA (by simp[TN.bind]),Hb,List.map_cons,vB,NDL.binds n1,NDL.binds n2];rfl
theorem NL.len{w:World}{hi:Nat}:∀ {t:Tw.T} {v:Value} {e:Tw.BEn} {L:List NB},NL w hi t v e L->L.length<=t.places.length
 |.name ..,_,_,_,⟨_,_,rfl⟩=>by simp[Tw.T.places]
 |.int ..,_,_,_,⟨_,rfl⟩=>znL _
 |.Ak ..,_,_,_,⟨_,rfl⟩=>znL _
 |.side ..,_,_,_,⟨_,rfl⟩=>znL _
 |.bracket _ _ i,_,_,_,⟨_,_,r1⟩=>NL.len (t:=i) r1
 |.pair ..,_,_,_,⟨_,_,_,_,_,r1,r2,rfl⟩=>by have:=NL.len r1;have:=NL.len r2;simp[Tw.T.places];omega
 |.call ..,_,_,_,⟨_,_,_,_,_,r1,r2,rfl⟩=>by have:=NL.len r1;have:=NL.len r2;simp[Tw.T.places];omega
 |.binary ..,_,_,_,⟨_,_,_,_,_,r1,r2,rfl⟩=>by have:=NL.len r1;have:=NL.len r2;simp[Tw.T.places];omega
 |.cond ..,_,_,_,⟨_,_,_,_,_,_,_,r1,r2,r3,rfl⟩=>by have:=NL.len r1;have:=NL.len r2;have:=NL.len r3;simp[Tw.T.places];omega
 |.fn ..,_,_,_,⟨_,_,_,r1⟩=>by have:=NL.len r1;simp[Tw.T.places];omega
 |.Am ..,_,_,_,⟨_,_,_,_,_,_,r1,r2,rfl⟩=>by have:=NL.len r1;have:=NL.len r2;simp[Tw.T.places];omega
theorem zk9{N:Nat}:∀ {L:List Nat} {d:Nat},L.Pairwise (· < ·)->(∀f∈L,d<=f/\f<N)->d<=N->L.length+d<=N
 |[],d,_,_,h=>by simpa using h
 |f::L,d,hp,hb,_=>by
  obtain⟨e,c⟩:=hb f sM;have b:=List.pairwise_cons.1 hp
  have:=zk9 (d:=f+1) b.2 (λg a=>⟨b.1 g a,(hb g (by simp[a])).2⟩) c;simp only[zB];omega
structure Rc(l:List UInt8)(t:Tw.T)(body:List Tw.Tok):Prop where
 lex:Lex 0 l body
 text:Tw.Text l body t
 len:l.length<=300
theorem zni{b:Nat}{t:Tw.T}{sh:zU}(h:Kf 6100 b l=some (.Ja t sh)):∃body,Rc l t body:=by
 obtain⟨c,body,a,_,d,_⟩:=Kr h;exact⟨body,a,zsp a d,c⟩
theorem Rc.nd{t:Tw.T}{body:List Tw.Tok}(h:Rc l t body):t.places.Nodup:=h.text.inc.imp (λh=>Nat.ne_of_lt h)
theorem Rc.sp{t:Tw.T}{body:List Tw.Tok}(h:Rc l t body):Qd t:=λs a=>(h.text.ok h.lex s a).1
theorem Rc.small{t:Tw.T}{body:List Tw.Tok}(h:Rc l t body):t.places.length<=300:=by
 have:=zk9 (N:=l.length) (d:=0) h.text.inc (λf a=>by
  rw[Cb]at a;obtain⟨s,c,rfl⟩:=List.mem_map.1 a;obtain⟨k,b,_,e,g,_⟩:=h.text.span s c
  have:=((h.lex.Eh).1 k b).lt
  have:=((h.lex.Eh).1 k b).high;omega) oM
 have:=h.len;omega
end
end
end Go.Proofs.YtckhafpejefbbaaGreatDoor
