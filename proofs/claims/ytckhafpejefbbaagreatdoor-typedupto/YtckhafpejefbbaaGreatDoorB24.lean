import Derived.Test.YtckhafpejefbbaaGreatDoorB23

set_option maxRecDepth 100000
set_option maxHeartbeats 4000000
namespace Go.Proofs.YtckhafpejefbbaaGreatDoor
section
open Tw
open Go.RowKit
variable{l:List UInt8}
theorem zfh(t:Tw.T):t.bat=t.bpl:=by cases t<;>rfl
theorem Tw.Eo:∀t:Tw.T,(t.binds.map Tw.T.bpl).Sublist t.places
 |.name .. =>List.nil_sublist _
 |.int ..|.truth ..|.side .. =>List.Sublist.refl _
 |.bracket _ _ i=>Eo i
 |.pair _ _ a b=>by simp only[T.binds,vB];exact(Eo a).append (Eo b)
 |.call _ _ a b=>by simp only[T.binds,vB];exact(Eo a).append (Eo b)
 |.binary _ _ _ a b=>by simp only[T.binds,vB];exact(Eo a).append (Eo b)
 |.cond _ _ a b c=>by simp only[T.binds,vB];exact(Eo a).append ((Eo b).append (Eo c))
 |.fn _ _ _ _ a=>(Eo a).cons_cons _
 |.lett _ _ _ _ _ a b=>by simp only[T.binds,List.map_cons,vB];exact((Eo a).append (Eo b)).cons_cons _
theorem Hh(x:TN)(L:List TN):Gi (x::L)=if x.bind.isSome then x::Gi L else Gi L:=by
 simp only[Gi,List.filter_cons]
theorem NDL.binds{w:World}{hi:Nat}:∀ {t:Tw.T} {v:Value} {L:List TN},NDL w hi t v L->(Gi L).map (·.t)=t.binds
 |.name ..,_,_,⟨_,e⟩=>by subst e;rfl
 |.int ..,_,_,⟨_,e⟩=>by subst e;rfl
 |.truth ..,_,_,⟨_,e⟩=>by subst e;rfl
 |.side ..,_,_,⟨_,e⟩=>by subst e;rfl
 |.bracket ..,_,_,⟨_,_,_,n1,e⟩=>by
  subst e;rw[Hh,jA (by simp[TN.bind]),NDL.binds n1];rfl
 |.pair ..,_,_,⟨_,_,_,_,_,n1,n2,e⟩=>by
  subst e;rw[Hh,jA (by simp[TN.bind]),Fe,vB,NDL.binds n1,NDL.binds n2];rfl
 |.call ..,_,_,⟨_,_,_,_,_,n1,n2,e⟩=>by
  subst e;rw[Hh,jA (by simp[TN.bind]),Fe,vB,NDL.binds n1,NDL.binds n2];rfl
 |.binary ..,_,_,⟨_,_,_,_,_,n1,n2,e⟩=>by
  subst e;rw[Hh,jA (by simp[TN.bind]),Fe,vB,NDL.binds n1,NDL.binds n2];rfl
 |.cond ..,_,_,⟨_,_,_,_,_,_,_,n1,n2,n3,e⟩=>by
  subst e;rw[Hh,jA (by simp[TN.bind]),Fe,Fe,vB,vB,NDL.binds n1,NDL.binds n2,NDL.binds n3];rfl
 |.fn ..,_,_,⟨_,_,⟨b,_,_,hv,_⟩,n1,e⟩=>by
  subst e;subst hv;rw[Hh,mA (by simp[TN.bind]),List.map_cons,NDL.binds n1];rfl
 |.lett ..,_,_,⟨_,_,_,_,⟨b,_,_,hv,_⟩,n1,n2,e⟩=>by
  subst e;subst hv;rw[Hh,mA (by simp[TN.bind]),Fe,List.map_cons,vB,NDL.binds n1,NDL.binds n2];rfl
theorem NL.len{w:World}{hi:Nat}:∀ {t:Tw.T} {v:Value} {e:Tw.BEn} {L:List NB},NL w hi t v e L->L.length<=t.places.length
 |.name ..,_,_,_,⟨_,_,rfl⟩=>by simp[Tw.T.places]
 |.int ..,_,_,_,⟨_,rfl⟩=>znL _
 |.truth ..,_,_,_,⟨_,rfl⟩=>znL _
 |.side ..,_,_,_,⟨_,rfl⟩=>znL _
 |.bracket _ _ i,_,_,_,⟨_,_,r1⟩=>NL.len (t:=i) r1
 |.pair ..,_,_,_,⟨_,_,_,_,_,r1,r2,rfl⟩=>by have:=NL.len r1;have:=NL.len r2;simp[Tw.T.places];omega
 |.call ..,_,_,_,⟨_,_,_,_,_,r1,r2,rfl⟩=>by have:=NL.len r1;have:=NL.len r2;simp[Tw.T.places];omega
 |.binary ..,_,_,_,⟨_,_,_,_,_,r1,r2,rfl⟩=>by have:=NL.len r1;have:=NL.len r2;simp[Tw.T.places];omega
 |.cond ..,_,_,_,⟨_,_,_,_,_,_,_,r1,r2,r3,rfl⟩=>by have:=NL.len r1;have:=NL.len r2;have:=NL.len r3;simp[Tw.T.places];omega
 |.fn ..,_,_,_,⟨_,_,_,r1⟩=>by have:=NL.len r1;simp[Tw.T.places];omega
 |.lett ..,_,_,_,⟨_,_,_,_,_,_,r1,r2,rfl⟩=>by have:=NL.len r1;have:=NL.len r2;simp[Tw.T.places];omega
theorem zfi{N:Nat}:∀ {L:List Nat} {d:Nat},L.Pairwise (· < ·)->(∀f∈L,d<=f/\f<N)->d<=N->L.length+d<=N
 |[],d,_,_,h=>by simpa using h
 |f::L,d,hp,hb,_=>by
  obtain⟨e,c⟩:=hb f sM;have b:=List.pairwise_cons.1 hp
  have:=zfi (d:=f+1) b.2 (λg a=>⟨b.1 g a,(hb g (by simp[a])).2⟩) c;simp only[zB];omega
structure Opened(l:List UInt8)(t:Tw.T)(body:List Tw.Tok):Prop where
 lex:Lex 0 l body
 text:Tw.Text l body t
 len:l.length<=300
theorem zhd{b:Nat}{t:Tw.T}{sh:List UInt8}(h:Ie 6100 b l=some (.fine t sh)):∃body,Opened l t body:=by
 obtain⟨c,body,a,_,d,_⟩:=Kk h;exact⟨body,a,zlc a d,c⟩
theorem Opened.nd{t:Tw.T}{body:List Tw.Tok}(h:Opened l t body):t.places.Nodup:=h.text.inc.imp (λh=>Nat.ne_of_lt h)
theorem Opened.sp{t:Tw.T}{body:List Tw.Tok}(h:Opened l t body):SpOk t:=λs a=>(h.text.ok h.lex s a).1
theorem Opened.small{t:Tw.T}{body:List Tw.Tok}(h:Opened l t body):t.places.length<=300:=by
 have:=zfi (N:=l.length) (d:=0) h.text.inc (λf a=>by
  rw[Bn]at a;obtain⟨s,c,rfl⟩:=List.mem_map.1 a;obtain⟨k,b,_,e,g,_⟩:=h.text.span s c
  have:=((h.lex.toks).1 k b).lt
  have:=((h.lex.toks).1 k b).high;omega) oM
 have:=h.len;omega
end
end Go.Proofs.YtckhafpejefbbaaGreatDoor
