import Derived.Test.YtckhafpejefbbaaGreatDoorB22

set_option maxRecDepth 100000
set_option maxHeartbeats 4000000
namespace Go.Proofs.YtckhafpejefbbaaGreatDoor
abbrev bD:=@List.mem_append_right
abbrev eD:=@List.mem_append_left
section
open Tw
open Go.RowKit
section
variable{w:World}{A:Addr}{bat k fr to bat':Nat}{bn:List UInt8}{v1:Value}
def Qd(t:Tw.T):Prop:=∀s∈t.spans,s.2.1=s.1+s.2.2.length
def zr2(x:NB):Nat×Nat:=(x.fr,x.to)
def zrt(n:zU)(f:Nat):Nat×Nat:=(f,f+n.length)
theorem Qd.app{a b:List (Nat×Nat×zU)}(h:∀s∈a++b,s.2.1=s.1+s.2.2.length):(∀s∈a,s.2.1=s.1+s.2.2.length)/\∀s∈b,s.2.1=s.1+s.2.2.length:=
 ⟨λs c=>h s (eD _ c),λs c=>h s (bD _ c)⟩
def Pc(w:World)(A:Addr)(bat:Nat):Prop:=w.cell? ⟨A.block,A.off+1,none⟩=some (.int .i64 bat)
theorem zue(a:Pc w A bat)(b:zH w k #[vI fr,vI to,ug bn,vI bat',v1] 235)(h:((aD k 2):Addr)=A):bat'=bat:=by
 subst h;unfold Pc at a;rw[mB _ _ _ _ _ _ b]at a;have e:(vI (bat':Int))=vI (bat:Int):=Option.some.inj a;injection e with _ e;omega
theorem zp5{rc:Bool}{v2:Value}(a:Pc w A bat)(b:zH w k #[vI fr,vI to,.bool rc,ug bn,vI bat',v1,v2] 140)(h:((aD k 3):Addr)=A):bat'=bat:=by
 subst h;unfold Pc at a;rw[mB _ _ _ _ _ _ b]at a;have e:(vI (bat':Int))=vI (bat:Int):=Option.some.inj a;injection e with _ e;omega
def zdl(e:Tw.BEn)(A:Addr)(n:zU)(I:List zU):Prop:=∀z,e.look z=some A↔z=n/\n∉I
theorem zdl.cons{e:Tw.BEn}{A:Addr}{n:zU}{I:List zU}(h:zdl e A n I)(m:zU){B:Addr}(d:B≠A):zdl (.cons m B e) A n (m::I):=by
 intro z;simp only[Tw.BEn.look,zmC,not_or];split
 ·rename_i b;constructor
  ·intro h;injection h with h;exact absurd h d
  ·rintro⟨rfl,c,_⟩;exact absurd b.symm c
 ·rename_i b;rw[h z];constructor
  ·rintro⟨rfl,a⟩;exact⟨rfl,λe=>b e.symm,a⟩
  ·rintro⟨rfl,_,a⟩;exact⟨rfl,a⟩
theorem NL.Fm{w:World}{hi:Nat}{A:Addr}{bat:Nat}{n:zU}(c:Pc w A bat):∀ {t:Tw.T} {v:Value} {e:Tw.BEn} {L:List NB} {I:List zU},NL w hi t v e L->Qd t->bat∉t.places->zdl e A n I->(Im A L).map zr2=(t.occ n I).map (zrt n)
 |.name fr to x,_,e,_,I,⟨b,_,rfl⟩,hs,_,he=>by
  have m:=hs (fr,to,x) (by simp[Tw.T.spans]);simp only at m;simp only[Tw.T.occ,Im];have o:∀g:Decidable ((⟨b,fr,to,x,e⟩:NB).k=some A),@decide _ g=true↔x=n/\n∉I:=λg=>(@decide_eq_true_iff _ g).trans (he x);by_cases j:x=n/\n∉I
  ·rw[mA j,List.filter_cons_of_pos (p:=λx:NB=>decide (x.k=some A)) ((o _).2 j),<-j.1];simp[zr2,zrt,m]
  ·rw[jA j,List.filter_cons_of_neg (p:=λx:NB=>decide (x.k=some A)) (λh=>j ((o _).1 h))];rfl
 |.int ..,_,_,_,_,⟨_,rfl⟩,_,_,_=>rfl
 |.Ak ..,_,_,_,_,⟨_,rfl⟩,_,_,_=>rfl
 |.side ..,_,_,_,_,⟨_,rfl⟩,_,_,_=>rfl
 |.bracket _ _ i,_,_,_,_,⟨_,_,r1⟩,hs,hp,he=>NL.Fm (t:=i) c r1 hs hp he
 |.pair ..,_,_,_,_,⟨_,_,_,_,_,r1,r2,rfl⟩,hs,hp,he=>by
  have⟨d,f⟩:=Qd.app hs;simp only[Tw.T.places,zmA,not_or]at hp;rw[Dc,vB,NL.Fm c r1 d hp.1 he,NL.Fm c r2 f hp.2 he];simp[Tw.T.occ]
 |.call ..,_,_,_,_,⟨_,_,_,_,_,r1,r2,rfl⟩,hs,hp,he=>by
  have⟨d,f⟩:=Qd.app hs;simp only[Tw.T.places,zmA,not_or]at hp;rw[Dc,vB,NL.Fm c r1 d hp.1 he,NL.Fm c r2 f hp.2 he];simp[Tw.T.occ]
 |.binary ..,_,_,_,_,⟨_,_,_,_,_,r1,r2,rfl⟩,hs,hp,he=>by
  have⟨d,f⟩:=Qd.app hs;simp only[Tw.T.places,zmA,not_or]at hp;rw[Dc,vB,NL.Fm c r1 d hp.1 he,NL.Fm c r2 f hp.2 he];simp[Tw.T.occ]
 |.cond ..,_,_,_,_,⟨_,_,_,_,_,_,_,r1,r2,r3,rfl⟩,hs,hp,he=>by
  have⟨d,y⟩:=Qd.app hs;have⟨f,z⟩:=Qd.app y;simp only[Tw.T.places,zmA,not_or]at hp;rw[Dc,Dc,vB,vB,NL.Fm c r1 d hp.1 he,NL.Fm c r2 f hp.2.1 he,NL.Fm c r3 z hp.2.2 he];simp[Tw.T.occ]
 |.fn fr to bn bat' b,_,_,_,I,⟨k,v1,⟨_,_,hb⟩,r1⟩,hs,hp,he=>by
  simp only[Tw.T.places,zmC,not_or]at hp;rw[NL.Fm c r1 (λs h=>hs s (by simp[Tw.T.spans,h])) hp.2 (he.cons bn (λh=>hp.1 (zue c hb h).symm))];rfl
 |.Am fr to rc bn bat' g b,_,_,_,I,⟨k,v1,v2,L1,L2,⟨_,_,hb⟩,r1,r2,rfl⟩,hs,hp,he=>by
  simp only[Tw.T.places,zmC,zmA,not_or]at hp;have⟨d,f⟩:=Qd.app (a:=g.spans) (b:=b.spans) (λs h=>hs s (by simp only[Tw.T.spans,zmC];exact .inr h));have q:((aD k 3):Addr)≠A:=λh=>hp.1 (zp5 c hb h).symm;have r:=NL.Fm c r2 f hp.2.2 (he.cons bn q);cases rc with
  |true=>
   have l:=NL.Fm c r1 d hp.2.1 (he.cons bn q);rw[Dc,vB,l,r];simp[Tw.T.occ]
  |false=>
   have l:=NL.Fm c r1 d hp.2.1 he;rw[Dc,vB,l,r];simp[Tw.T.occ]
theorem NL.unused{hi:Nat}(l:Pc w A bat){t:Tw.T}{v:Value}{e:Tw.BEn}{L:List NB}(h:NL w hi t v e L)(p:Qd t)(o:bat∉t.places)(m:∀z,e.look z≠some A):Im A L=[]:=by
 have:zdl e A [] [[]]:=λz=>⟨λh=>absurd h (m z),λ⟨_,h⟩=>absurd sM h⟩;have g:=NL.Fm l h p o this;have j:∀(t:Tw.T) (I:List zU),[]∈I->t.occ [] I=[]:=by
  intro t
  induction t with
  |name f _ z=>intro I d;simp[Tw.T.occ,d]
  |int|Ak|side=>intro I d;rfl
  |bracket _ _ i ih=>exact ih
  |pair _ _ a b ia ib=>intro I d;simp[Tw.T.occ,ia I d,ib I d]
  |call _ _ a b ia ib=>intro I d;simp[Tw.T.occ,ia I d,ib I d]
  |binary _ _ _ a b ia ib=>intro I d;simp[Tw.T.occ,ia I d,ib I d]
  |cond _ _ a b c ia ib ic=>intro I d;simp[Tw.T.occ,ia I d,ib I d,ic I d]
  |fn _ _ n _ a ia=>intro I d;exact ia _ (by simp[d])
  |Am _ _ r n _ a b ia ib=>
   intro I d;simp only[Tw.T.occ];rw[ia _ (by split<;>simp[d]),ib _ (by simp[d])];rfl
 rw[j t _ sM]at g;simpa using g
end
section
variable{w:World}{hi:Nat}{x:TN}{A:Addr}{e:Tw.BEn}
theorem nodeAt.inj{fr to d l:Nat}{r c:List Value}{j st k st':TypeId}{v:Value}(h:nodeAt w 0 hi fr to r j st v)(f:nodeAt w 0 hi d l c k st' v):r=c:=by
 obtain⟨m,_,_,i,g⟩:=h;obtain⟨n,_,_,b,a⟩:=f;rw[i]at b;injection b with _ e;injection e with e;injection e with e;injection e with e;subst e;rw[g]at a
 have:=Option.some.inj a;injection this with h1 _ _
 have:=congrArg Array.toList h1;simp at this;exact this.2.2
theorem NDL.place{w:World}{hi:Nat}:∀ {t:Tw.T} {v:Value} {L:List TN},NDL w hi t v L->∀x∈L,∀A,x.bind=some A->x.t.bat∈t.places
 |.name ..,_,_,⟨_,e⟩=>by subst e;intro x a A b;simp only[xB]at a;subst a;simp[TN.bind]at b
 |.int ..,_,_,⟨_,e⟩=>by subst e;intro x a A b;simp only[xB]at a;subst a;simp[TN.bind]at b
 |.Ak ..,_,_,⟨_,e⟩=>by subst e;intro x a A b;simp only[xB]at a;subst a;simp[TN.bind]at b
 |.side ..,_,_,⟨_,e⟩=>by subst e;intro x a A b;simp only[xB]at a;subst a;simp[TN.bind]at b
 |.bracket ..,_,_,⟨_,_,_,n1,e⟩=>by
  subst e;intro x a A b;rcases zmC.1 a with rfl|a
  ·simp[TN.bind]at b
  ·exact NDL.place n1 x a A b
 |.pair ..,_,_,⟨_,_,_,_,_,n1,n2,e⟩=>by
  subst e;intro x a A b;rcases zmC.1 a with rfl|a
  ·simp[TN.bind]at b
  ·simp only[Tw.T.places,zmA];exact(zmA.1 a).imp (λh=>NDL.place n1 x h A b) (λh=>NDL.place n2 x h A b)
 |.call ..,_,_,⟨_,_,_,_,_,n1,n2,e⟩=>by
  subst e;intro x a A b;rcases zmC.1 a with rfl|a
  ·simp[TN.bind]at b
  ·simp only[Tw.T.places,zmA];exact(zmA.1 a).imp (λh=>NDL.place n1 x h A b) (λh=>NDL.place n2 x h A b)
 |.binary ..,_,_,⟨_,_,_,_,_,n1,n2,e⟩=>by
  subst e;intro x a A b;rcases zmC.1 a with rfl|a
  ·simp[TN.bind]at b
  ·simp only[Tw.T.places,zmA];exact(zmA.1 a).imp (λh=>NDL.place n1 x h A b) (λh=>NDL.place n2 x h A b)
 |.cond ..,_,_,⟨_,_,_,_,_,_,_,n1,n2,n3,e⟩=>by
  subst e;intro x a A b;rcases zmC.1 a with rfl|a
  ·simp[TN.bind]at b
  ·simp only[Tw.T.places,zmA];exact(zmA.1 a).imp (λh=>NDL.place n1 x h A b) (λh=>(zmA.1 h).imp (λh=>NDL.place n2 x h A b) (λh=>NDL.place n3 x h A b))
 |.fn ..,_,_,⟨_,_,_,n1,e⟩=>by
  subst e;intro x a A b;rcases zmC.1 a with rfl|a
  ·simp[Tw.T.bat,Tw.T.places]
  ·simp only[Tw.T.places,zmC];exact .inr (NDL.place n1 x a A b)
 |.Am ..,_,_,⟨_,_,_,_,_,n1,n2,e⟩=>by
  subst e;intro x a A b;rcases zmC.1 a with rfl|a
  ·simp[Tw.T.bat,Tw.T.places]
  ·simp only[Tw.T.places,zmC,zmA];exact .inr ((zmA.1 a).imp (λh=>NDL.place n1 x h A b) (λh=>NDL.place n2 x h A b))
theorem Sm(h:x.bind=some A)(d:Rep w 0 hi x.t x.v):Pc w A x.t.bat:=by
 obtain⟨k,o,c,t,rfl,b,_,_,a⟩:=zk7 h d;unfold Pc;rw[mB _ _ _ _ _ _ b];exact a
def zrk(w:World)(hi:Nat)(t:Tw.T):Prop:=∀ {v:Value} {e:Tw.BEn} {L:List NB} {a:List TN} {x:TN} {A:Addr},NL w hi t v e L->NDL w hi t v a->Qd t->t.places.Nodup->x∈a->x.bind=some A->(∀z,e.look z≠some A)->(Im A L).map zr2=x.t.useS.map (zrt x.t.bname)
theorem V6{a b:Tw.T}(s:zrk w hi a)(t:zrk w hi b){v1 v2:Value}{m n:Tw.BEn}{L1 L2:List NB}{k l:List TN}(q:NL w hi a v1 m L1)(r2:NL w hi b v2 n L2)(i:NDL w hi a v1 k)(j:NDL w hi b v2 l)(s1:Qd a)(r:Qd b)(f:(a.places++b.places).Nodup)(c:x∈k++l)(d:x.bind=some A)(o:∀z,m.look z≠some A)(p:∀z,n.look z≠some A):(Im A (L1++L2)).map zr2=x.t.useS.map (zrt x.t.bname):=by
 rw[List.nodup_append]at f;rw[Dc,vB];rcases zmA.1 c with c|c
 ·have g:=Sm d (i.rep.2 x c);rw[s q i s1 f.1 c d o,NL.unused g r2 r (λh=>f.2.2 _ (i.place x c A d) _ h rfl) p];simp
 ·have g:=Sm d (j.rep.2 x c);rw[t r2 j r f.2.1 c d p,NL.unused g q s1 (λh=>f.2.2 _ h _ (j.place x c A d) rfl) o];simp
theorem U8{B:Addr}(h:∀z,e.look z≠some A)(m:zU)(a:B≠A):∀z,(Tw.BEn.cons m B e).look z≠some A:=by
 intro z;simp only[Tw.BEn.look];split
 ·intro h;injection h with h;exact a h
 ·exact h z
theorem zen(h:∀z,e.look z≠some A)(n:zU):zdl (.cons n A e) A n []:=by
 intro z;simp only[Tw.BEn.look];split
 ·rename_i b;simp[b]
 ·rename_i b;exact⟨λa=>absurd a (h z),λ⟨a,_⟩=>absurd a.symm b⟩
theorem Hw(w:World)(hi:Nat):∀t:Tw.T,zrk w hi t
 |.name ..,_,_,_,_,x,A,_,⟨_,e⟩,_,_,f,hA,_=>by subst e;simp only[xB]at f;subst f;simp[TN.bind]at hA
 |.int ..,_,_,_,_,x,A,_,⟨_,e⟩,_,_,f,hA,_=>by subst e;simp only[xB]at f;subst f;simp[TN.bind]at hA
 |.Ak ..,_,_,_,_,x,A,_,⟨_,e⟩,_,_,f,hA,_=>by subst e;simp only[xB]at f;subst f;simp[TN.bind]at hA
 |.side ..,_,_,_,_,x,A,_,⟨_,e⟩,_,_,f,hA,_=>by subst e;simp only[xB]at f;subst f;simp[TN.bind]at hA
 |.bracket _ _ i,_,_,_,_,x,A,⟨_,h,r1⟩,⟨_,_,h',n1,e⟩,hs,hp,f,hA,he=>by
  subst e
  have:=nodeAt.inj h h';simp only[List.cons.injEq,and_true]at this;subst this;rcases zmC.1 f with rfl|f
  ·simp[TN.bind]at hA
  ·exact Hw w hi i r1 n1 hs hp f hA he
 |.pair _ _ a b,_,_,_,_,x,A,⟨_,_,_,_,h,r1,r2,rfl⟩,⟨_,_,_,_,h',n1,n2,e⟩,hs,hp,f,hA,he=>by
  subst e
  have:=nodeAt.inj h h';simp only[List.cons.injEq,and_true]at this;obtain⟨rfl,rfl⟩:=this;rcases zmC.1 f with rfl|f
  ·simp[TN.bind]at hA
  ·have⟨l,m⟩:=Qd.app hs;exact V6 (Hw w hi a) (Hw w hi b) r1 r2 n1 n2 l m hp f hA he he
 |.call _ _ a b,_,_,_,_,x,A,⟨_,_,_,_,h,r1,r2,rfl⟩,⟨_,_,_,_,h',n1,n2,e⟩,hs,hp,f,hA,he=>by
  subst e
  have:=nodeAt.inj h h';simp only[List.cons.injEq,and_true]at this;obtain⟨rfl,rfl⟩:=this;rcases zmC.1 f with rfl|f
  ·simp[TN.bind]at hA
  ·have⟨l,m⟩:=Qd.app hs;exact V6 (Hw w hi a) (Hw w hi b) r1 r2 n1 n2 l m hp f hA he he
 |.binary _ _ _ a b,_,_,_,_,x,A,⟨_,_,_,_,h,r1,r2,rfl⟩,⟨_,_,_,_,h',n1,n2,e⟩,hs,hp,f,hA,he=>by
  subst e
  have:=nodeAt.inj h h';simp only[List.cons.injEq,and_true,true_and]at this;obtain⟨rfl,rfl⟩:=this;rcases zmC.1 f with rfl|f
  ·simp[TN.bind]at hA
  ·have⟨l,m⟩:=Qd.app hs;exact V6 (Hw w hi a) (Hw w hi b) r1 r2 n1 n2 l m hp f hA he he
 |.cond _ _ a b c,_,_,_,_,x,A,⟨_,_,_,_,_,_,h,r1,r2,r3,rfl⟩,⟨_,_,_,_,_,_,h',n1,n2,n3,e⟩,hs,hp,f,hA,he=>by
  subst e
  have:=nodeAt.inj h h';simp only[List.cons.injEq,and_true]at this;obtain⟨rfl,rfl,rfl⟩:=this;rcases zmC.1 f with rfl|f
  ·simp[TN.bind]at hA
  ·have⟨l,G⟩:=Qd.app hs;have⟨m,C⟩:=Qd.app G;simp only[Tw.T.places]at hp;have o:=List.nodup_append.1 hp;rw[wA,Dc,vB];rcases zmA.1 f with f|f
   ·have g:=Sm hA (n1.rep.2 x f);have B:=n1.place x f A hA;rw[Hw w hi a r1 n1 l o.1 f hA he,Dc,NL.unused g r2 m (λh=>o.2.2 _ B _ (eD _ h) rfl) he,NL.unused g r3 C (λh=>o.2.2 _ B _ (bD _ h) rfl) he];simp
   ·rw[V6 (Hw w hi b) (Hw w hi c) r2 r3 n2 n3 m C o.2.1 f hA he he];have g:Pc w A x.t.bat/\x.t.bat∈b.places++c.places:=by
     rcases zmA.1 f with f|f
     ·exact⟨Sm hA (n2.rep.2 x f),eD _ (n2.place x f A hA)⟩
     ·exact⟨Sm hA (n3.rep.2 x f),bD _ (n3.place x f A hA)⟩
    rw[NL.unused g.1 r1 l (λh=>o.2.2 _ h _ g.2 rfl) he];simp
 |.fn fr to bn bat b,_,e0,_,_,x,A,⟨k,v1,⟨hk,hv,g⟩,r1⟩,⟨v1',_,h',n1,e⟩,hs,hp,f,hA,he=>by
  subst e;subst hv;have s:v1=v1':=by
   obtain⟨D,_,_,v,n⟩:=h';injection v with _ e;injection e with e;injection e with e;injection e with e;subst e;rw[g]at n
   have:=Option.some.inj n;injection this with h1 _ _
   have:=congrArg Array.toList h1;simp at this;exact this
  subst s;simp only[Tw.T.places,List.nodup_cons]at hp;have p:Qd b:=λy h=>hs y (by simp[Tw.T.spans,h]);rcases zmC.1 f with rfl|f
  ·simp only[TN.bind,zsI]at hA;subst hA;have j:Pc w (aD k 2) bat:=(by unfold Pc;rw[mB _ _ _ _ _ _ g];rfl);exact NL.Fm j r1 p hp.1 (zen he bn)
  ·have j:=Sm hA (n1.rep.2 x f);have q:((aD k 2):Addr)≠A:=λh=>hp.1 (by rw[zue j g h];exact n1.place x f A hA);exact Hw w hi b r1 n1 p hp.2 f hA (U8 he bn q)
 |.Am fr to rc bn bat d b,_,e0,_,_,x,A,⟨k,v1,v2,L1,L2,⟨hk,hv,g⟩,r1,r2,rfl⟩,⟨v1',v2',_,_,h',n1,n2,e⟩,hs,hp,f,hA,he=>by
  subst e;subst hv;have s:v1=v1'/\v2=v2':=by
   obtain⟨D,_,_,v,n⟩:=h';injection v with _ e;injection e with e;injection e with e;injection e with e;subst e;rw[g]at n
   have:=Option.some.inj n;injection this with h1 _ _
   have:=congrArg Array.toList h1;simp at this;exact this
  obtain⟨rfl,rfl⟩:=s;simp only[Tw.T.places,List.nodup_cons,zmA,not_or]at hp;have⟨z,p⟩:=Qd.app (a:=d.spans) (b:=b.spans) (λy h=>hs y (by simp only[Tw.T.spans,zmC];exact .inr h));rcases zmC.1 f with rfl|f
  ·simp only[TN.bind,zsI]at hA;subst hA;have j:Pc w (aD k 3) bat:=(by unfold Pc;rw[mB _ _ _ _ _ _ g];rfl);have F:=NL.Fm j r2 p hp.1.2 (zen he bn);rw[Dc,vB,F];cases rc with
   |true=>
    have E:=NL.Fm j r1 z hp.1.1 (zen he bn);rw[E];simp[Tw.T.useS,Tw.T.bname]
   |false=>
    rw[NL.unused j r1 z hp.1.1 he];simp[Tw.T.useS,Tw.T.bname]
  ·have j:Pc w A x.t.bat/\x.t.bat∈d.places++b.places:=by
    rcases zmA.1 f with f|f
    ·exact⟨Sm hA (n1.rep.2 x f),eD _ (n1.place x f A hA)⟩
    ·exact⟨Sm hA (n2.rep.2 x f),bD _ (n2.place x f A hA)⟩
   have q:((aD k 3):Addr)≠A:=λh=>by
    have:=zp5 j.1 g h;rcases zmA.1 j.2 with r|r
    ·exact hp.1.1 (this ▸ r)
    ·exact hp.1.2 (this ▸ r)
   refine V6 (Hw w hi d) (Hw w hi b) r1 r2 n1 n2 z p hp.2 f hA ?_ (U8 he bn q);cases rc with
   |true=>exact U8 he bn q
   |false=>exact he
end
end
namespace Tw
section
open Go
section
variable{l:List UInt8}{body:List Tok}
theorem Lex.apart{off:Nat}{m:zU}{a:List Tok}(h:Lex off m a):a.Pairwise (λt u=>t.to<=u.fr):=by
 induction h with
 |nil=>exact .nil
 |gap _ _ _ ih=>exact ih
 |tok _ _ _ hr ih=>exact List.pairwise_cons.2 ⟨λu b=>((hr.Eh).1 u b).low,ih⟩
def T.bpl:T->Nat
 |.fn _ _ _ k _=>k
 |.Am _ _ _ _ k _ _=>k
 |_=>0
theorem Ci(x:zU):∀(t:T) (I:List zU),(t.occ x I).Sublist t.places
 |.name f _ z,I=>by
  simp only[T.occ,T.places];split
  ·exact List.Sublist.refl _
  ·exact List.nil_sublist _
 |.int ..,_|.Ak ..,_|.side ..,_=>List.Sublist.refl _
 |.bracket _ _ i,I=>Ci x i I
 |.pair _ _ a b,I=>(Ci x a I).append (Ci x b I)
 |.call _ _ a b,I=>(Ci x a I).append (Ci x b I)
 |.binary _ _ _ a b,I=>(Ci x a I).append (Ci x b I)
 |.cond _ _ a b c,I=>(Ci x a I).append ((Ci x b I).append (Ci x c I))
 |.fn _ _ n _ a,I=>(Ci x a (n::I)).cons _
 |.Am _ _ r n _ a b,I=>((Ci x a (if r then n::I else I)).append (Ci x b (n::I))).cons _
structure Text(l:List UInt8)(body:List Tok)(t:T):Prop where
 span:∀s∈t.spans,∃k∈body,k.sort=1/\k.fr=s.1/\k.to=s.2.1/\s.2.2=Bv l s.1 s.2.1
 inc:t.places.Pairwise (· < ·)
theorem znh{a b:Nat}(h:b<=l.length):(Bv l a b).length=b-a:=by
 simp only[Bv,List.length_take,xD];omega
theorem zsp{fuel:Nat}{t:T}(c:Lex 0 l body)(h:Gj l (body++[⟨0,l.length,l.length⟩]) fuel=some (.ok t)):Text l body t:=by
 obtain⟨L,a,f,b⟩:=Y0 h;constructor
 ·intro s e;rw[b]at e;obtain⟨k,d,rfl⟩:=List.mem_map.1 e;exact⟨k,a.subset d,f k d,rfl,rfl,rfl⟩
 ·rw[Cb,b,List.map_map,List.pairwise_map];refine List.Pairwise.imp_of_mem (λ{i m} g _ j=>?_) (c.apart.sublist a)
  have:=((c.Eh).1 i (a.subset g)).lt;simp only[Function.comp,Q7];omega
theorem Text.ok{t:T}(h:Text l body t)(a:Lex 0 l body):∀s∈t.spans,s.2.1=s.1+s.2.2.length/\s.2.1<=l.length:=by
 intro s d;obtain⟨k,b,_,g,i,c⟩:=h.span s d;have e:=((a.Eh).1 k b).lt;have f:=((a.Eh).1 k b).high;rw[c,znh oM];omega
end
def T.binds:T->List T
 |.name ..|.int ..|.Ak ..|.side .. =>[]
 |.bracket _ _ i=>i.binds
 |.pair _ _ a b=>a.binds++b.binds
 |.call _ _ a b=>a.binds++b.binds
 |.binary _ _ _ a b=>a.binds++b.binds
 |.cond _ _ a b c=>a.binds++(b.binds++c.binds)
 |.fn f t n k a=>.fn f t n k a::a.binds
 |.Am f t r n k a b=>.Am f t r n k a b::(a.binds++b.binds)
theorem Cv:∀(t:T),∀n∈t.binds,n.bpl∈t.places
 |.name ..,_,h|.int ..,_,h|.Ak ..,_,h|.side ..,_,h=>by cases h
 |.bracket _ _ i,n,h=>Cv i n h
 |.pair _ _ a b,n,h=>by
  rcases zmA.1 h with h|h
  ·exact eD _ (Cv a n h)
  ·exact bD _ (Cv b n h)
 |.call _ _ a b,n,h=>by
  rcases zmA.1 h with h|h
  ·exact eD _ (Cv a n h)
  ·exact bD _ (Cv b n h)
 |.binary _ _ _ a b,n,h=>by
  rcases zmA.1 h with h|h
  ·exact eD _ (Cv a n h)
  ·exact bD _ (Cv b n h)
 |.cond _ _ a b c,n,h=>by
  rcases zmA.1 h with h|h
  ·exact eD _ (Cv a n h)
  ·rcases zmA.1 h with h|h
   ·exact bD _ (eD _ (Cv b n h))
   ·exact bD _ (bD _ (Cv c n h))
 |.fn _ _ _ _ a,n,h=>by
  rcases zmC.1 h with rfl|h
  ·exact List.mem_cons_self
  ·exact List.mem_cons_of_mem _ (Cv a n h)
 |.Am _ _ _ _ _ a b,n,h=>by
  rcases zmC.1 h with rfl|h
  ·exact List.mem_cons_self
  ·rcases zmA.1 h with h|h
   ·exact List.mem_cons_of_mem _ (eD _ (Cv a n h))
   ·exact List.mem_cons_of_mem _ (bD _ (Cv b n h))
theorem Oz(p:Int->Bool)(m:zU):m.take (Gy p m).length=Gy p m:=by
 unfold Gy;exact(List.prefix_iff_eq_take.1 (List.takeWhile_prefix _)).symm
theorem zp6{m:zU}(h:(Au m).1=1):Nm (m.take (Au m).2.toNat):=by
 obtain⟨a,d⟩:=zed h;rw[d,Int.toNat_natCast,Oz];unfold Au at h;rw[mA a]at h;unfold Jq at h;split at h
 ·simp at h
 ·rename_i i;have f:m ≠ []:=by rintro rfl;simp[D7,Et]at a
  refine⟨?_,λc e=>?_,oM,h⟩
  ·cases m with
   |nil=>exact absurd rfl f
   |cons c m=>
    have g:Ef (c.toNat:Int)=true:=by
     have b:Et (c.toNat:Int)=true:=a;simp only[Et,Ef,fE]at b ⊢;exact .inl b
    simp only[Gy,List.takeWhile_cons,g,if_true,D7];exact a
  ·exact(by simpa using List.all_eq_true.1 (List.all_takeWhile (p:=λc:UInt8=>Ef c.toNat) (l:=m)) c e)
end
end Tw
end Go.Proofs.YtckhafpejefbbaaGreatDoor
