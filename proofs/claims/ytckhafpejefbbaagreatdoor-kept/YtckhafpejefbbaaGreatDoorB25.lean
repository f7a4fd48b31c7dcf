/- Texts of the proof, put together: UsesThy, UsesThy2, RenOpen, RenBack, RenBack2. -/
import Derived.Test.YtckhafpejefbbaaGreatDoorB19
import Derived.Test.YtckhafpejefbbaaGreatDoorB16
import Derived.Test.YtckhafpejefbbaaGreatDoorB24

set_option maxRecDepth 100000
set_option maxHeartbeats 4000000
namespace Go.Proofs.YtckhafpejefbbaaGreatDoor
open Go.RowKit
def SpOk (t:Tw.T):Prop:=∀s∈t.spans,s.2.1=s.1+s.2.2.length
def useF (x:NB):Nat×Nat:=(x.fr,x.to)
def useG (n:List UInt8) (f:Nat):Nat×Nat:=(f,f+n.length)
theorem SpOk.app {a b:List (Nat×Nat×List UInt8)} (h:∀s∈a++b,s.2.1=s.1+s.2.2.length):(∀s∈a,s.2.1=s.1+s.2.2.length)/\∀s∈b,s.2.1=s.1+s.2.2.length :=
 ⟨fun s hs=>h s (List.mem_append_left _ hs),fun s hs=>h s (List.mem_append_right _ hs)⟩
def zia (w:World) (A:Addr) (bat:Nat):Prop:=w.cell? ⟨A.block,A.off+1,none⟩=some (.int .i64 bat)
theorem yfb {w:World} {A:Addr} {bat k fr to bat':Nat} {bn:List UInt8} {v1:Value} (hA:zia w A bat) (hb:w.heap[k]? = some (.cells #[.int .i64 fr,.int .i64 to,ug bn,.int .i64 bat',v1] 235 (0,0))) (h:(⟨k,2,none⟩:Addr)=A):bat'=bat:=by
 subst h
 unfold zia at hA
 rw [cell_of_row _ _ _ _ _ _ hb] at hA
 have e:(Value.int .i64 (bat':Int)) = .int .i64 (bat:Int):=Option.some.inj hA
 injection e with _ e
 omega
theorem ydf {w:World} {A:Addr} {bat k fr to bat':Nat} {rc:Bool} {bn:List UInt8} {v1 v2:Value} (hA:zia w A bat) (hb:w.heap[k]? = some (.cells #[.int .i64 fr,.int .i64 to,.bool rc,ug bn,.int .i64 bat',v1,v2] 140 (0,0))) (h:(⟨k,3,none⟩:Addr)=A):bat'=bat:=by
 subst h
 unfold zia at hA
 rw [cell_of_row _ _ _ _ _ _ hb] at hA
 have e:(Value.int .i64 (bat':Int)) = .int .i64 (bat:Int):=Option.some.inj hA
 injection e with _ e
 omega
def EnvIs (e:Tw.BEn) (A:Addr) (n:List UInt8) (I:List (List UInt8)):Prop:=∀z,e.look z=some A↔z=n/\n∉I
theorem EnvIs.cons {e:Tw.BEn} {A:Addr} {n:List UInt8} {I:List (List UInt8)} (h:EnvIs e A n I) (m:List UInt8) {B:Addr} (hB:B≠A):EnvIs (.cons m B e) A n (m::I):=by
 intro z
 simp only [Tw.BEn.look,zmC,not_or]
 split
 ·rename_i hm
  constructor
  ·intro h; injection h with h; exact absurd h hB
  ·rintro ⟨rfl,h1,_⟩; exact absurd hm.symm h1
 ·rename_i hm
  rw [h z]
  constructor
  ·rintro ⟨rfl,h2⟩; exact ⟨rfl,fun e=>hm e.symm,h2⟩
  ·rintro ⟨rfl,_,h2⟩; exact ⟨rfl,h2⟩
theorem NL.uses {w:World} {hi:Nat} {A:Addr} {bat:Nat} {n:List UInt8} (hA:zia w A bat):∀ {t:Tw.T} {v:Value} {e:Tw.BEn} {L:List NB} {I:List (List UInt8)},NL w hi t v e L->SpOk t->bat∉t.places->EnvIs e A n I->(zbq A L).map useF=(t.occ n I).map (useG n)
 | .name fr to x,_,e,_,I,⟨b,_,rfl⟩,hs,_,he=>by
  have h1:=hs (fr,to,x) (by simp [Tw.T.spans])
  simp only at h1
  simp only [Tw.T.occ,zbq]
  have hk:∀d:Decidable ((⟨b,fr,to,x,e⟩:NB).k=some A),@decide _ d=true↔x=n/\n∉I:=fun d=>(@decide_eq_true_iff _ d).trans (he x)
  by_cases hx:x=n/\n∉I
  ·rw [if_pos hx,List.filter_cons_of_pos (p:=fun x:NB=>decide (x.k=some A)) ((hk _).2 hx),<-hx.1]
   simp [useF,useG,h1]
  ·rw [if_neg hx,List.filter_cons_of_neg (p:=fun x:NB=>decide (x.k=some A)) (fun h=>hx ((hk _).1 h))]
   rfl
 | .int ..,_,_,_,_,⟨_,rfl⟩,_,_,_=>rfl
 | .truth ..,_,_,_,_,⟨_,rfl⟩,_,_,_=>rfl
 | .side ..,_,_,_,_,⟨_,rfl⟩,_,_,_=>rfl
 | .bracket _ _ i,_,_,_,_,⟨_,_,r1⟩,hs,hp,he=>NL.uses (t:=i) hA r1 hs hp he
 | .pair ..,_,_,_,_,⟨_,_,_,_,_,r1,r2,rfl⟩,hs,hp,he=>by
  have ⟨s1,s2⟩:=SpOk.app hs
  simp only [Tw.T.places,zmA,not_or] at hp
  rw [zbx,List.map_append,NL.uses hA r1 s1 hp.1 he,NL.uses hA r2 s2 hp.2 he]
  simp [Tw.T.occ]
 | .call ..,_,_,_,_,⟨_,_,_,_,_,r1,r2,rfl⟩,hs,hp,he=>by
  have ⟨s1,s2⟩:=SpOk.app hs
  simp only [Tw.T.places,zmA,not_or] at hp
  rw [zbx,List.map_append,NL.uses hA r1 s1 hp.1 he,NL.uses hA r2 s2 hp.2 he]
  simp [Tw.T.occ]
 | .binary ..,_,_,_,_,⟨_,_,_,_,_,r1,r2,rfl⟩,hs,hp,he=>by
  have ⟨s1,s2⟩:=SpOk.app hs
  simp only [Tw.T.places,zmA,not_or] at hp
  rw [zbx,List.map_append,NL.uses hA r1 s1 hp.1 he,NL.uses hA r2 s2 hp.2 he]
  simp [Tw.T.occ]
 | .cond ..,_,_,_,_,⟨_,_,_,_,_,_,_,r1,r2,r3,rfl⟩,hs,hp,he=>by
  have ⟨s1,s23⟩:=SpOk.app hs
  have ⟨s2,s3⟩:=SpOk.app s23
  simp only [Tw.T.places,zmA,not_or] at hp
  rw [zbx,zbx,List.map_append,List.map_append,NL.uses hA r1 s1 hp.1 he,NL.uses hA r2 s2 hp.2.1 he,NL.uses hA r3 s3 hp.2.2 he]
  simp [Tw.T.occ]
 | .fn fr to bn bat' b,_,_,_,I,⟨k,v1,⟨_,_,hb⟩,r1⟩,hs,hp,he=>by
  simp only [Tw.T.places,zmC,not_or] at hp
  rw [NL.uses hA r1 (fun s h=>hs s (by simp [Tw.T.spans,h])) hp.2 (he.cons bn (fun h=>hp.1 (yfb hA hb h).symm))]
  rfl
 | .lett fr to rc bn bat' d b,_,_,_,I,⟨k,v1,v2,L1,L2,⟨_,_,hb⟩,r1,r2,rfl⟩,hs,hp,he=>by
  simp only [Tw.T.places,zmC,zmA,not_or] at hp
  have ⟨s1,s2⟩:=SpOk.app (a:=d.spans) (b:=b.spans) (fun s h=>hs s (by simp only [Tw.T.spans,zmC]; exact .inr h))
  have hne:(⟨k,3,none⟩:Addr)≠A:=fun h=>hp.1 (ydf hA hb h).symm
  have q2:=NL.uses hA r2 s2 hp.2.2 (he.cons bn hne)
  cases rc with
  | true =>
   have q1:=NL.uses hA r1 s1 hp.2.1 (he.cons bn hne)
   rw [zbx,List.map_append,q1,q2]
   simp [Tw.T.occ]
  | false =>
   have q1:=NL.uses hA r1 s1 hp.2.1 he
   rw [zbx,List.map_append,q1,q2]
   simp [Tw.T.occ]
theorem NL.unused {w:World} {hi:Nat} {A:Addr} {bat:Nat} (hA:zia w A bat) {t:Tw.T} {v:Value} {e:Tw.BEn} {L:List NB} (h:NL w hi t v e L) (hs:SpOk t) (hp:bat∉t.places) (he:∀z,e.look z≠some A):zbq A L=[]:=by
 have:EnvIs e A [] [[]]:=fun z=>⟨fun h=>absurd h (he z),fun ⟨_,h⟩=>absurd (by simp) h⟩
 have hu:=NL.uses hA h hs hp this
 have h0:∀(t:Tw.T) (I:List (List UInt8)),[]∈I->t.occ [] I=[]:=by
  intro t
  induction t with
  | name f _ z=>intro I hI; simp [Tw.T.occ,hI]
  | int | truth | side=>intro I hI; rfl
  | bracket _ _ i ih=>exact ih
  | pair _ _ a b ia ib=>intro I hI; simp [Tw.T.occ,ia I hI,ib I hI]
  | call _ _ a b ia ib=>intro I hI; simp [Tw.T.occ,ia I hI,ib I hI]
  | binary _ _ _ a b ia ib=>intro I hI; simp [Tw.T.occ,ia I hI,ib I hI]
  | cond _ _ a b c ia ib ic=>intro I hI; simp [Tw.T.occ,ia I hI,ib I hI,ic I hI]
  | fn _ _ n _ a ia=>intro I hI; exact ia _ (by simp [hI])
  | lett _ _ r n _ a b ia ib =>
   intro I hI
   simp only [Tw.T.occ]
   rw [ia _ (by split <;> simp [hI]),ib _ (by simp [hI])]
   rfl
 rw [h0 t _ (by simp)] at hu
 simpa using hu
open Go.RowKit
theorem nodeAt.inj {w:World} {hi fr to fr' to':Nat} {r r':List Value} {pt st pt' st':TypeId} {v:Value} (h:nodeAt w 0 hi fr to r pt st v) (h':nodeAt w 0 hi fr' to' r' pt' st' v):r=r':=by
 obtain ⟨b,_,_,hv,hb⟩:=h
 obtain ⟨b',_,_,hv',hb'⟩:=h'
 rw [hv] at hv'
 injection hv' with _ e
 injection e with e
 injection e with e
 injection e with e
 subst e
 rw [hb] at hb'
 have:=Option.some.inj hb'
 injection this with h1 _ _
 have:=congrArg Array.toList h1
 simp at this
 exact this.2.2
theorem NDL.place {w:World} {hi:Nat}:∀ {t:Tw.T} {v:Value} {L:List TN},NDL w hi t v L->∀x∈L,∀A,x.bind=some A->x.t.bat∈t.places
 | .name ..,_,_,⟨_,e⟩=>by subst e; intro x hx A hA; simp only [List.mem_singleton] at hx; subst hx; simp [TN.bind] at hA
 | .int ..,_,_,⟨_,e⟩=>by subst e; intro x hx A hA; simp only [List.mem_singleton] at hx; subst hx; simp [TN.bind] at hA
 | .truth ..,_,_,⟨_,e⟩=>by subst e; intro x hx A hA; simp only [List.mem_singleton] at hx; subst hx; simp [TN.bind] at hA
 | .side ..,_,_,⟨_,e⟩=>by subst e; intro x hx A hA; simp only [List.mem_singleton] at hx; subst hx; simp [TN.bind] at hA
 | .bracket ..,_,_,⟨_,_,_,n1,e⟩=>by
  subst e; intro x hx A hA
  rcases zmC.1 hx with rfl | hx
  ·simp [TN.bind] at hA
  ·exact NDL.place n1 x hx A hA
 | .pair ..,_,_,⟨_,_,_,_,_,n1,n2,e⟩=>by
  subst e; intro x hx A hA
  rcases zmC.1 hx with rfl | hx
  ·simp [TN.bind] at hA
  ·simp only [Tw.T.places,zmA]
   exact (zmA.1 hx).imp (fun h=>NDL.place n1 x h A hA) (fun h=>NDL.place n2 x h A hA)
 | .call ..,_,_,⟨_,_,_,_,_,n1,n2,e⟩=>by
  subst e; intro x hx A hA
  rcases zmC.1 hx with rfl | hx
  ·simp [TN.bind] at hA
  ·simp only [Tw.T.places,zmA]
   exact (zmA.1 hx).imp (fun h=>NDL.place n1 x h A hA) (fun h=>NDL.place n2 x h A hA)
 | .binary ..,_,_,⟨_,_,_,_,_,n1,n2,e⟩=>by
  subst e; intro x hx A hA
  rcases zmC.1 hx with rfl | hx
  ·simp [TN.bind] at hA
  ·simp only [Tw.T.places,zmA]
   exact (zmA.1 hx).imp (fun h=>NDL.place n1 x h A hA) (fun h=>NDL.place n2 x h A hA)
 | .cond ..,_,_,⟨_,_,_,_,_,_,_,n1,n2,n3,e⟩=>by
  subst e; intro x hx A hA
  rcases zmC.1 hx with rfl | hx
  ·simp [TN.bind] at hA
  ·simp only [Tw.T.places,zmA]
   exact (zmA.1 hx).imp (fun h=>NDL.place n1 x h A hA) (fun h=>(zmA.1 h).imp (fun h=>NDL.place n2 x h A hA) (fun h=>NDL.place n3 x h A hA))
 | .fn ..,_,_,⟨_,_,_,n1,e⟩=>by
  subst e; intro x hx A hA
  rcases zmC.1 hx with rfl | hx
  ·simp [Tw.T.bat,Tw.T.places]
  ·simp only [Tw.T.places,zmC]
   exact .inr (NDL.place n1 x hx A hA)
 | .lett ..,_,_,⟨_,_,_,_,_,n1,n2,e⟩=>by
  subst e; intro x hx A hA
  rcases zmC.1 hx with rfl | hx
  ·simp [Tw.T.bat,Tw.T.places]
  ·simp only [Tw.T.places,zmC,zmA]
   exact .inr ((zmA.1 hx).imp (fun h=>NDL.place n1 x h A hA) (fun h=>NDL.place n2 x h A hA))
theorem zks {x:TN} {A:Addr} (h:x.bind=some A) {w:World} {hi:Nat} (hr:Rep w 0 hi x.t x.v):zia w A x.t.bat:=by
 obtain ⟨k,o,c,t,rfl,hb,_,_,h1⟩:=ztp h hr
 unfold zia
 rw [cell_of_row _ _ _ _ _ _ hb]
 exact h1
def yd9 (w:World) (hi:Nat) (t:Tw.T):Prop:=∀ {v:Value} {e:Tw.BEn} {L:List NB} {LN:List TN} {x:TN} {A:Addr},NL w hi t v e L->NDL w hi t v LN->SpOk t->t.places.Nodup->x∈LN->x.bind=some A->(∀z,e.look z≠some A)->(zbq A L).map useF=x.t.useS.map (useG x.t.bname)
theorem zng {w:World} {hi:Nat} {a b:Tw.T} (ia:yd9 w hi a) (ib:yd9 w hi b) {v1 v2:Value} {e1 e2:Tw.BEn} {L1 L2:List NB} {M1 M2:List TN} {x:TN} {A:Addr} (r1:NL w hi a v1 e1 L1) (r2:NL w hi b v2 e2 L2) (n1:NDL w hi a v1 M1) (n2:NDL w hi b v2 M2) (s1:SpOk a) (s2:SpOk b) (hp:(a.places++b.places).Nodup) (hx:x∈M1++M2) (hA:x.bind=some A) (h1:∀z,e1.look z≠some A) (h2:∀z,e2.look z≠some A):(zbq A (L1++L2)).map useF=x.t.useS.map (useG x.t.bname):=by
 rw [List.nodup_append] at hp
 rw [zbx,List.map_append]
 rcases zmA.1 hx with hx | hx
 ·have hb:=zks hA (n1.rep.2 x hx)
  rw [ia r1 n1 s1 hp.1 hx hA h1,NL.unused hb r2 s2 (fun h=>hp.2.2 _ (n1.place x hx A hA) _ h rfl) h2]
  simp
 ·have hb:=zks hA (n2.rep.2 x hx)
  rw [ib r2 n2 s2 hp.2.1 hx hA h2,NL.unused hb r1 s1 (fun h=>hp.2.2 _ h _ (n2.place x hx A hA) rfl) h1]
  simp
theorem zmf {e:Tw.BEn} {A B:Addr} (h:∀z,e.look z≠some A) (m:List UInt8) (hB:B≠A):∀z,(Tw.BEn.cons m B e).look z≠some A:=by
 intro z
 simp only [Tw.BEn.look]
 split
 ·intro h; injection h with h; exact hB h
 ·exact h z
theorem ztq {e:Tw.BEn} {A:Addr} (h:∀z,e.look z≠some A) (n:List UInt8):EnvIs (.cons n A e) A n []:=by
 intro z
 simp only [Tw.BEn.look]
 split
 ·rename_i hz; simp [hz]
 ·rename_i hz
  exact ⟨fun hh=>absurd hh (h z),fun ⟨hh,_⟩=>absurd hh.symm hz⟩
theorem zdg (w:World) (hi:Nat):∀t:Tw.T,yd9 w hi t
 | .name ..,_,_,_,_,x,A,_,⟨_,e⟩,_,_,hx,hA,_=>by subst e; simp only [List.mem_singleton] at hx; subst hx; simp [TN.bind] at hA
 | .int ..,_,_,_,_,x,A,_,⟨_,e⟩,_,_,hx,hA,_=>by subst e; simp only [List.mem_singleton] at hx; subst hx; simp [TN.bind] at hA
 | .truth ..,_,_,_,_,x,A,_,⟨_,e⟩,_,_,hx,hA,_=>by subst e; simp only [List.mem_singleton] at hx; subst hx; simp [TN.bind] at hA
 | .side ..,_,_,_,_,x,A,_,⟨_,e⟩,_,_,hx,hA,_=>by subst e; simp only [List.mem_singleton] at hx; subst hx; simp [TN.bind] at hA
 | .bracket _ _ i,_,_,_,_,x,A,⟨_,h,r1⟩,⟨_,_,h',n1,e⟩,hs,hp,hx,hA,he=>by
  subst e
  have:=nodeAt.inj h h'
  simp only [List.cons.injEq,and_true] at this
  subst this
  rcases zmC.1 hx with rfl | hx
  ·simp [TN.bind] at hA
  ·exact zdg w hi i r1 n1 hs hp hx hA he
 | .pair _ _ a b,_,_,_,_,x,A,⟨_,_,_,_,h,r1,r2,rfl⟩,⟨_,_,_,_,h',n1,n2,e⟩,hs,hp,hx,hA,he=>by
  subst e
  have:=nodeAt.inj h h'
  simp only [List.cons.injEq,and_true] at this
  obtain ⟨rfl,rfl⟩:=this
  rcases zmC.1 hx with rfl | hx
  ·simp [TN.bind] at hA
  ·have ⟨s1,s2⟩:=SpOk.app hs
   exact zng (zdg w hi a) (zdg w hi b) r1 r2 n1 n2 s1 s2 hp hx hA he he
 | .call _ _ a b,_,_,_,_,x,A,⟨_,_,_,_,h,r1,r2,rfl⟩,⟨_,_,_,_,h',n1,n2,e⟩,hs,hp,hx,hA,he=>by
  subst e
  have:=nodeAt.inj h h'
  simp only [List.cons.injEq,and_true] at this
  obtain ⟨rfl,rfl⟩:=this
  rcases zmC.1 hx with rfl | hx
  ·simp [TN.bind] at hA
  ·have ⟨s1,s2⟩:=SpOk.app hs
   exact zng (zdg w hi a) (zdg w hi b) r1 r2 n1 n2 s1 s2 hp hx hA he he
 | .binary _ _ _ a b,_,_,_,_,x,A,⟨_,_,_,_,h,r1,r2,rfl⟩,⟨_,_,_,_,h',n1,n2,e⟩,hs,hp,hx,hA,he=>by
  subst e
  have:=nodeAt.inj h h'
  simp only [List.cons.injEq,and_true,true_and] at this
  obtain ⟨rfl,rfl⟩:=this
  rcases zmC.1 hx with rfl | hx
  ·simp [TN.bind] at hA
  ·have ⟨s1,s2⟩:=SpOk.app hs
   exact zng (zdg w hi a) (zdg w hi b) r1 r2 n1 n2 s1 s2 hp hx hA he he
 | .cond _ _ a b c,_,_,_,_,x,A,⟨_,_,_,_,_,_,h,r1,r2,r3,rfl⟩,⟨_,_,_,_,_,_,h',n1,n2,n3,e⟩,hs,hp,hx,hA,he=>by
  subst e
  have:=nodeAt.inj h h'
  simp only [List.cons.injEq,and_true] at this
  obtain ⟨rfl,rfl,rfl⟩:=this
  rcases zmC.1 hx with rfl | hx
  ·simp [TN.bind] at hA
  ·have ⟨s1,s23⟩:=SpOk.app hs
   have ⟨s2,s3⟩:=SpOk.app s23
   simp only [Tw.T.places] at hp
   have hp0:=List.nodup_append.1 hp
   rw [List.append_assoc,zbx,List.map_append]
   rcases zmA.1 hx with hx | hx
   ·have hb:=zks hA (n1.rep.2 x hx)
    have hpl:=n1.place x hx A hA
    rw [zdg w hi a r1 n1 s1 hp0.1 hx hA he,zbx,NL.unused hb r2 s2 (fun h=>hp0.2.2 _ hpl _ (List.mem_append_left _ h) rfl) he,NL.unused hb r3 s3 (fun h=>hp0.2.2 _ hpl _ (List.mem_append_right _ h) rfl) he]
    simp
   ·rw [zng (zdg w hi b) (zdg w hi c) r2 r3 n2 n3 s2 s3 hp0.2.1 hx hA he he]
    have hb:zia w A x.t.bat/\x.t.bat∈b.places++c.places:=by
     rcases zmA.1 hx with hx | hx
     ·exact ⟨zks hA (n2.rep.2 x hx),List.mem_append_left _ (n2.place x hx A hA)⟩
     ·exact ⟨zks hA (n3.rep.2 x hx),List.mem_append_right _ (n3.place x hx A hA)⟩
    rw [NL.unused hb.1 r1 s1 (fun h=>hp0.2.2 _ h _ hb.2 rfl) he]
    simp
 | .fn fr to bn bat b,_,e0,_,_,x,A,⟨k,v1,⟨hk,hv,hb⟩,r1⟩,⟨v1',_,h',n1,e⟩,hs,hp,hx,hA,he=>by
  subst e
  subst hv
  have hin:v1=v1':=by
   obtain ⟨k',_,_,hv',hb'⟩:=h'
   injection hv' with _ e
   injection e with e
   injection e with e
   injection e with e
   subst e
   rw [hb] at hb'
   have:=Option.some.inj hb'
   injection this with h1 _ _
   have:=congrArg Array.toList h1
   simp at this
   exact this
  subst hin
  simp only [Tw.T.places,List.nodup_cons] at hp
  have sb:SpOk b:=fun s h=>hs s (by simp [Tw.T.spans,h])
  rcases zmC.1 hx with rfl | hx
  ·simp only [TN.bind,zsI] at hA
   subst hA
   have hba:zia w ⟨k,2,none⟩ bat:=by unfold zia; rw [cell_of_row _ _ _ _ _ _ hb]; rfl
   exact NL.uses hba r1 sb hp.1 (ztq he bn)
  ·have hba:=zks hA (n1.rep.2 x hx)
   have hne:(⟨k,2,none⟩:Addr)≠A:=fun h=>hp.1 (by rw [yfb hba hb h]; exact n1.place x hx A hA)
   exact zdg w hi b r1 n1 sb hp.2 hx hA (zmf he bn hne)
 | .lett fr to rc bn bat d b,_,e0,_,_,x,A,⟨k,v1,v2,L1,L2,⟨hk,hv,hb⟩,r1,r2,rfl⟩,⟨v1',v2',_,_,h',n1,n2,e⟩,hs,hp,hx,hA,he=>by
  subst e
  subst hv
  have hin:v1=v1'/\v2=v2':=by
   obtain ⟨k',_,_,hv',hb'⟩:=h'
   injection hv' with _ e
   injection e with e
   injection e with e
   injection e with e
   subst e
   rw [hb] at hb'
   have:=Option.some.inj hb'
   injection this with h1 _ _
   have:=congrArg Array.toList h1
   simp at this
   exact this
  obtain ⟨rfl,rfl⟩:=hin
  simp only [Tw.T.places,List.nodup_cons,zmA,not_or] at hp
  have ⟨sd,sb⟩:=SpOk.app (a:=d.spans) (b:=b.spans) (fun s h=>hs s (by simp only [Tw.T.spans,zmC]; exact .inr h))
  rcases zmC.1 hx with rfl | hx
  ·simp only [TN.bind,zsI] at hA
   subst hA
   have hba:zia w ⟨k,3,none⟩ bat:=by unfold zia; rw [cell_of_row _ _ _ _ _ _ hb]; rfl
   have q2:=NL.uses hba r2 sb hp.1.2 (ztq he bn)
   rw [zbx,List.map_append,q2]
   cases rc with
   | true =>
    have q1:=NL.uses hba r1 sd hp.1.1 (ztq he bn)
    rw [q1]
    simp [Tw.T.useS,Tw.T.bname]
   | false =>
    rw [NL.unused hba r1 sd hp.1.1 he]
    simp [Tw.T.useS,Tw.T.bname]
  ·have hba:zia w A x.t.bat/\x.t.bat∈d.places++b.places:=by
    rcases zmA.1 hx with hx | hx
    ·exact ⟨zks hA (n1.rep.2 x hx),List.mem_append_left _ (n1.place x hx A hA)⟩
    ·exact ⟨zks hA (n2.rep.2 x hx),List.mem_append_right _ (n2.place x hx A hA)⟩
   have hne:(⟨k,3,none⟩:Addr)≠A:=fun h=>by
    have:=ydf hba.1 hb h
    rcases zmA.1 hba.2 with h2 | h2
    ·exact hp.1.1 (this ▸ h2)
    ·exact hp.1.2 (this ▸ h2)
   refine zng (zdg w hi d) (zdg w hi b) r1 r2 n1 n2 sd sb hp.2 hx hA ?_ (zmf he bn hne)
   cases rc with
   | true=>exact zmf he bn hne
   | false=>exact he
end Go.Proofs.YtckhafpejefbbaaGreatDoor
namespace Go.Proofs.YtckhafpejefbbaaGreatDoor.Tw
open Go
theorem Lex.apart {off:Nat} {m:List UInt8} {ts:List Tok} (h:Lex off m ts):ts.Pairwise (fun t u=>t.to<=u.fr):=by
 induction h with
 | nil=>exact .nil
 | gap _ _ _ ih=>exact ih
 | tok _ _ _ hr ih=>exact List.pairwise_cons.2 ⟨fun u hu=>((hr.toks).1 u hu).low,ih⟩
def T.bpl:T->Nat
 | .fn _ _ _ k _=>k
 | .lett _ _ _ _ k _ _=>k
 | _=>0
theorem zbk (x:List UInt8):∀(t:T) (I:List (List UInt8)),(t.occ x I).Sublist t.places
 | .name f _ z,I=>by
  simp only [T.occ,T.places]
  split
  ·exact List.Sublist.refl _
  ·exact List.nil_sublist _
 | .int ..,_ | .truth ..,_ | .side ..,_=>List.Sublist.refl _
 | .bracket _ _ i,I=>zbk x i I
 | .pair _ _ a b,I=>(zbk x a I).append (zbk x b I)
 | .call _ _ a b,I=>(zbk x a I).append (zbk x b I)
 | .binary _ _ _ a b,I=>(zbk x a I).append (zbk x b I)
 | .cond _ _ a b c,I=>(zbk x a I).append ((zbk x b I).append (zbk x c I))
 | .fn _ _ n _ a,I=>(zbk x a (n::I)).cons _
 | .lett _ _ r n _ a b,I=>((zbk x a (if r then n::I else I)).append (zbk x b (n::I))).cons _
theorem zcx (x:List UInt8):∀(t:T) (I:List (List UInt8)),∀f∈t.occ x I,∃to,(f,to,x)∈t.spans
 | .name f to z,I,g,h=>by
  simp only [T.occ] at h
  split at h
  ·rename_i hz
   simp only [List.mem_singleton] at h
   exact ⟨to,by simp [T.spans,h,hz.1]⟩
  ·cases h
 | .int ..,_,_,h | .truth ..,_,_,h | .side ..,_,_,h=>by cases h
 | .bracket _ _ i,I,g,h=>zcx x i I g h
 | .pair _ _ a b,I,g,h=>by
  rcases zmA.1 h with h | h
  ·obtain ⟨to,h⟩:=zcx x a I g h; exact ⟨to,List.mem_append_left _ h⟩
  ·obtain ⟨to,h⟩:=zcx x b I g h; exact ⟨to,List.mem_append_right _ h⟩
 | .call _ _ a b,I,g,h=>by
  rcases zmA.1 h with h | h
  ·obtain ⟨to,h⟩:=zcx x a I g h; exact ⟨to,List.mem_append_left _ h⟩
  ·obtain ⟨to,h⟩:=zcx x b I g h; exact ⟨to,List.mem_append_right _ h⟩
 | .binary _ _ _ a b,I,g,h=>by
  rcases zmA.1 h with h | h
  ·obtain ⟨to,h⟩:=zcx x a I g h; exact ⟨to,List.mem_append_left _ h⟩
  ·obtain ⟨to,h⟩:=zcx x b I g h; exact ⟨to,List.mem_append_right _ h⟩
 | .cond _ _ a b c,I,g,h=>by
  rcases zmA.1 h with h | h
  ·obtain ⟨to,h⟩:=zcx x a I g h; exact ⟨to,List.mem_append_left _ h⟩
  ·rcases zmA.1 h with h | h
   ·obtain ⟨to,h⟩:=zcx x b I g h; exact ⟨to,List.mem_append_right _ (List.mem_append_left _ h)⟩
   ·obtain ⟨to,h⟩:=zcx x c I g h; exact ⟨to,List.mem_append_right _ (List.mem_append_right _ h)⟩
 | .fn _ _ n _ a,I,g,h=>by
  obtain ⟨to,h⟩:=zcx x a _ g h
  exact ⟨to,List.mem_cons_of_mem _ h⟩
 | .lett _ _ r n _ a b,I,g,h=>by
  rcases zmA.1 h with h | h
  ·obtain ⟨to,h⟩:=zcx x a _ g h; exact ⟨to,List.mem_cons_of_mem _ (List.mem_append_left _ h)⟩
  ·obtain ⟨to,h⟩:=zcx x b _ g h; exact ⟨to,List.mem_cons_of_mem _ (List.mem_append_right _ h)⟩
structure HitP (t:T) (p:Nat) (n:T):Prop where
 bpl:n.bpl=p
 sub:(p::n.useS).Sublist t.places
 span:∀f∈p::n.useS,∃to,(f,to,n.bname)∈t.spans
theorem HitP.up {t t':T} {p:Nat} {n:T} (h:HitP t p n) (h1:t.places.Sublist t'.places) (h2:∀s∈t.spans,s∈t'.spans):HitP t' p n :=
 ⟨h.bpl,h.sub.trans h1,fun f hf=>by obtain ⟨to,h⟩:=h.span f hf; exact ⟨to,h2 _ h⟩⟩
theorem zb2 {p:Nat}:∀ {t n:T},t.hit p=some n->HitP t p n
 | .bracket _ _ i,n,h=>(zb2 (t:=i) h).up (List.Sublist.refl _) fun _ hs=>hs
 | .pair _ _ a b,n,h=>by
  simp only [T.hit,Option.or_eq_some_iff] at h
  rcases h with h | ⟨_,h⟩
  ·exact (zb2 h).up (List.sublist_append_left _ _) fun s hs=>List.mem_append_left _ hs
  ·exact (zb2 h).up (List.sublist_append_right _ _) fun s hs=>List.mem_append_right _ hs
 | .call _ _ a b,n,h=>by
  simp only [T.hit,Option.or_eq_some_iff] at h
  rcases h with h | ⟨_,h⟩
  ·exact (zb2 h).up (List.sublist_append_left _ _) fun s hs=>List.mem_append_left _ hs
  ·exact (zb2 h).up (List.sublist_append_right _ _) fun s hs=>List.mem_append_right _ hs
 | .binary _ _ _ a b,n,h=>by
  simp only [T.hit,Option.or_eq_some_iff] at h
  rcases h with h | ⟨_,h⟩
  ·exact (zb2 h).up (List.sublist_append_left _ _) fun s hs=>List.mem_append_left _ hs
  ·exact (zb2 h).up (List.sublist_append_right _ _) fun s hs=>List.mem_append_right _ hs
 | .cond _ _ a b c,n,h=>by
  simp only [T.hit,Option.or_eq_some_iff] at h
  rcases h with h | ⟨_,h | ⟨_,h⟩⟩
  ·exact (zb2 h).up (List.sublist_append_left _ _) fun s hs=>List.mem_append_left _ hs
  ·exact (zb2 h).up ((List.sublist_append_left _ _).trans (List.sublist_append_right _ _)) fun s hs=>List.mem_append_right _ (List.mem_append_left _ hs)
  ·exact (zb2 h).up ((List.sublist_append_right _ _).trans (List.sublist_append_right _ _)) fun s hs=>List.mem_append_right _ (List.mem_append_right _ hs)
 | .fn f t n k a,m,h=>by
  simp only [T.hit] at h
  split at h
  ·rename_i hk
   cases h
   subst hk
   refine ⟨rfl,(zbk n a []).cons_cons _,fun g hg => ?_⟩
   rcases zmC.1 hg with rfl | hg
   ·exact ⟨_,List.mem_cons_self⟩
   ·obtain ⟨to,h⟩:=zcx n a [] g hg
    exact ⟨to,List.mem_cons_of_mem _ h⟩
  ·exact (zb2 h).up (List.sublist_cons_self _ _) fun s hs=>List.mem_cons_of_mem _ hs
 | .lett f t r n k a b,m,h=>by
  simp only [T.hit] at h
  split at h
  ·rename_i hk
   cases h
   subst hk
   refine ⟨rfl,List.Sublist.cons_cons _ ?_,fun g hg => ?_⟩
   ·simp only [T.useS]
    refine List.Sublist.append ?_ (zbk n b [])
    split
    ·exact zbk n a []
    ·exact List.nil_sublist _
   ·rcases zmC.1 hg with rfl | hg
    ·exact ⟨_,List.mem_cons_self⟩
    ·simp only [T.useS,zmA] at hg
     rcases hg with hg | hg
     ·split at hg
      ·obtain ⟨to,h⟩:=zcx n a [] g hg
       exact ⟨to,List.mem_cons_of_mem _ (List.mem_append_left _ h)⟩
      ·cases hg
     ·obtain ⟨to,h⟩:=zcx n b [] g hg
      exact ⟨to,List.mem_cons_of_mem _ (List.mem_append_right _ h)⟩
  ·rw [Option.or_eq_some_iff] at h
   rcases h with h | ⟨_,h⟩
   ·exact (zb2 h).up ((List.sublist_append_left _ _).cons _) fun s hs=>List.mem_cons_of_mem _ (List.mem_append_left _ hs)
   ·exact (zb2 h).up ((List.sublist_append_right _ _).cons _) fun s hs=>List.mem_cons_of_mem _ (List.mem_append_right _ hs)
structure Text (l:List UInt8) (body:List Tok) (t:T):Prop where
 span:∀s∈t.spans,∃k∈body,k.sort=1/\k.fr=s.1/\k.to=s.2.1/\s.2.2=zaw l s.1 s.2.1
 inc:t.places.Pairwise (· < ·)
theorem ybn {l:List UInt8} {a b:Nat} (h:b<=l.length):(zaw l a b).length=b-a:=by
 simp only [zaw,List.length_take,List.length_drop]
 omega
theorem znh {l:List UInt8} {body:List Tok} {fuel:Nat} {t:T} (hL:Lex 0 l body) (hp:zb9 l (body ++ [⟨0,l.length,l.length⟩]) fuel=some (.ok t)):Text l body t:=by
 obtain ⟨hi,is,h1,h2,h3⟩:=ybc hp
 have inb:∀i∈is,∃k,body[i]? = some k/\k.sort=1/\zzn (body ++ [⟨0,l.length,l.length⟩]) i=k:=fun i hi=>by
  obtain ⟨_,_,k,hk,hs⟩:=h2 i hi
  rw [List.getElem?_append] at hk
  split at hk
  ·rename_i hlt
   refine ⟨k,hk,hs,?_⟩
   simp [zzn,List.getElem?_append,hlt]
   exact (zlE.1 hk).2
  ·rename_i hge
   rcases Nat.lt_or_ge (i-body.length) 1 with h | h
   ·rw [show i-body.length=0 by omega] at hk
    simp only [List.getElem?_cons_zero,zsI] at hk
    rw [<-hk] at hs
    cases hs
   ·rw [List.getElem?_eq_none (by simpa using h)] at hk; cases hk
 constructor
 ·intro s hs
  rw [h3] at hs
  obtain ⟨i,hi,rfl⟩:=List.mem_map.1 hs
  obtain ⟨k,hk,hs1,e⟩:=inb i hi
  rw [e]
  exact ⟨k,List.mem_of_getElem? hk,hs1,rfl,rfl,rfl⟩
 ·rw [zbi,h3,List.map_map]
  rw [List.pairwise_map]
  refine List.Pairwise.imp_of_mem (fun {i j} hi hj hij => ?_) h1
  obtain ⟨k,hk,_,e⟩:=inb i hi
  obtain ⟨k',hk',_,e'⟩:=inb j hj
  simp only [Function.comp,znx,e,e']
  have hpw:=List.pairwise_iff_getElem.1 hL.apart i j (zlE.1 hk).1 (zlE.1 hk').1 hij
  rw [(zlE.1 hk).2,(zlE.1 hk').2] at hpw
  have:=((hL.toks).1 k (List.mem_of_getElem? hk)).lt
  omega
theorem Text.ok {l:List UInt8} {body:List Tok} {t:T} (h:Text l body t) (hL:Lex 0 l body):∀s∈t.spans,s.2.1=s.1+s.2.2.length/\s.2.1<=l.length:=by
 intro s hs
 obtain ⟨k,hk,_,h1,h2,h3⟩:=h.span s hs
 have a:=((hL.toks).1 k hk).lt
 have b:=((hL.toks).1 k hk).high
 rw [h3,ybn (by omega)]
 omega
def zi2 (dx:Nat) (y:List UInt8) (S:List Nat):Mv:=⟨newP dx y.length 0 S,newP dx y.length 0 S,fun _ v=>v,fun f x=>if f∈S then y else x⟩
theorem zvg (dx:Nat) (y:List UInt8) (S:List Nat):yd7 (zi2 dx y S) S y :=
 ⟨fun _ _=>rfl,fun f x h=>by simp [zi2,h],fun f x h=>by simp [zi2,h]⟩
theorem zkt {l:List UInt8} {body:List Tok} {t n:T} {p:Nat} (h:Text l body t) (hL:Lex 0 l body) (hit:t.hit p=some n):Reps n.bname.length body (p::n.useS):=by
 have hp:=zb2 hit
 refine ⟨h.inc.sublist hp.sub,fun f hf => ?_⟩
 obtain ⟨to,hs⟩:=hp.span f hf
 obtain ⟨k,hk,h1,h2,h3,_⟩:=h.span _ hs
 have:=(h.ok hL _ hs).1
 exact ⟨k,hk,h2,h1,by rw [h3]; exact this⟩
theorem zf4 {l:List UInt8} {body:List Tok} (hL:Lex 0 l body) {a b:Tok} (ha:a∈body) (hb:b∈body):a.to<=b.fr\/b.to<=a.fr\/a=b:=by
 have h:=hL.apart
 clear hL
 induction body with
 | nil=>cases ha
 | cons c body ih =>
  obtain ⟨h1,h2⟩:=List.pairwise_cons.1 h
  rcases zmC.1 ha with rfl | ha'
  ·rcases zmC.1 hb with rfl | hb'
   ·exact .inr (.inr rfl)
   ·exact .inl (h1 b hb')
  ·rcases zmC.1 hb with rfl | hb'
   ·exact .inr (.inl (h1 a ha'))
   ·exact ih ha' hb' h2
theorem ybo {l:List UInt8} {body:List Tok} {fuel:Nat} {t:T} (hL:Lex 0 l body) (hl:l.length<=300) (hp:zb9 l (body ++ [⟨0,l.length,l.length⟩]) fuel=some (.ok t)) {y:List UInt8} (Y:Nm y) {dx:Nat} (hdx:0<dx) {S:List Nat} (hR:Reps dx body S) :
  ∃body',Lex 0 (chgR 0 l (chs dx y S)) body'/\zb9 (chgR 0 l (chs dx y S)) (body' ++ [⟨0,(chgR 0 l (chs dx y S)).length,(chgR 0 l (chs dx y S)).length⟩]) fuel=some (.ok (t.re (zi2 dx y S))):=by
 have hL':=yev Y hL (c:=0) hR (by simp)
 simp only [Nat.zero_mul,Nat.sub_zero,Nat.add_zero] at hL'
 refine ⟨_,hL',?_⟩
 have e:body.map (newT dx y.length 0 S)=body.map (Tok.re (zi2 dx y S)):=rfl
 rw [e] at hL' ⊢
 refine yc4 (m:=zi2 dx y S) (fun k hk=>⟨((hL.toks).1 k hk).sort,?_⟩) rfl rfl (by have:=(hL.toks).2; omega) hp (zxp hp)
 have hk':=(hL'.toks).1 _ (List.mem_map_of_mem hk)
 have k1:=hk'.lt
 have k2:=hk'.high
 simp only [Tok.re] at k1 k2
 have q1:=((hL.toks).1 k hk).lt
 have q2:=((hL.toks).1 k hk).high
 have hSp:S.Pairwise (fun f g=>f+dx<=g):=by
  refine List.Pairwise.imp_of_mem (fun {f g} hf hg hfg => ?_) hR.1
  obtain ⟨a,ha,rfl,_,a2⟩:=hR.2 f hf
  obtain ⟨b,hb,rfl,_,b2⟩:=hR.2 g hg
  have:=((hL.toks).1 a ha).lt
  have:=((hL.toks).1 b hb).lt
  rcases zf4 hL ha hb with h | h | h
  ·omega
  ·omega
  ·subst h; omega
 have hpc:=zsj (y:=y) hdx S 0 l 0 hSp (fun f hf=>by
   obtain ⟨a,ha,rfl,_,a2⟩:=hR.2 f hf
   have:=((hL.toks).1 a ha).high
   omega) (by simp) k.fr k.to (by omega) q1 (by omega) (fun f hf=>by
   obtain ⟨a,ha,rfl,_,a2⟩:=hR.2 f hf
   have:=((hL.toks).1 a ha).lt
   rcases zf4 hL hk ha with h | h | h
   ·exact .inl h
   ·exact .inr (.inl (by omega))
   ·subst h; exact .inr (.inr ⟨rfl,a2⟩))
 simp only [Nat.zero_mul,Nat.sub_zero,Nat.add_zero] at hpc
 refine ⟨⟨by simpa using Nat.le_of_lt k1,by simpa using k2⟩,fun h2 v hv => ?_,fun _ => ?_⟩
 ·have hns:k.fr∉S:=fun hf=>by
   obtain ⟨a,ha,a1,a3,a2⟩:=hR.2 _ hf
   have:=((hL.toks).1 a ha).lt
   rcases zf4 hL hk ha with h | h | h
   ·omega
   ·omega
   ·subst h; rw [h2] at a3; cases a3
  simp only [zi2]
  rw [hpc,if_neg hns]
  exact hv
 ·simp only [zi2]
  rw [hpc]
theorem ydg {fo:Nat} {l:List UInt8} {t:T} {sh:List UInt8} (h:zcd 6100 fo l=some (.fine t sh)) {p:Nat} {n:T} (hit:t.hit p=some n) {y:List UInt8} (Y:Nm y) (hc:¬n.captN y) (hlen:(chgR 0 l (chs n.bname.length y (p::n.useS))).length<=300) (hb:0<n.bname.length) :
  zcd 6100 fo (chgR 0 l (chs n.bname.length y (p::n.useS)))=some (.fine (t.re (zi2 n.bname.length y (p::n.useS))) sh)/\Al [] t (t.re (zi2 n.bname.length y (p::n.useS))):=by
 obtain ⟨hl,body,hL,_,hp,htr⟩:=zcw h
 obtain ⟨_,hfree,⟨w,hw,hwl⟩,hof⟩:=ze4 htr
 have hT:=znh hL hp
 obtain ⟨body',hL',hp'⟩:=ybo hL hl hp Y hb (zkt hT hL hit)
 have hA:Al [] t (t.re (zi2 n.bname.length y (p::n.useS))):=zfn (zvg _ _ _) hc (fun f=>by simp) t (fun p hp=>by cases hp) (hT.inc.imp (fun h=>Nat.ne_of_lt h)) hit
 refine ⟨?_,hA⟩
 unfold zcd zk0
 rw [if_neg (by omega),zje.2 ⟨_,hL',rfl⟩]
 simp only
 rw [hp']
 simp only [zbS]
 have hw2:zaj (t.re (zi2 n.bname.length y (p::n.useS))) .nil=some w:=by rw [<-hA.weight .nil]; exact hw
 have hf2:(t.re (zi2 n.bname.length y (p::n.useS))).freeS []=none:=hA.free.1 hfree
 unfold zgu
 rw [hf2]
 simp only
 rw [hw2]
 simp only [zbS]
 rw [if_neg (by omega),<-hA.of,hof]
 rfl
open Go
def T.binds:T->List T
 | .name .. | .int .. | .truth .. | .side .. => []
 | .bracket _ _ i=>i.binds
 | .pair _ _ a b=>a.binds++b.binds
 | .call _ _ a b=>a.binds++b.binds
 | .binary _ _ _ a b=>a.binds++b.binds
 | .cond _ _ a b c=>a.binds++(b.binds++c.binds)
 | .fn f t n k a=>.fn f t n k a::a.binds
 | .lett f t r n k a b=>.lett f t r n k a b::(a.binds++b.binds)
theorem zba:∀(t:T),∀n∈t.binds,n.bpl∈t.places
 | .name ..,_,h | .int ..,_,h | .truth ..,_,h | .side ..,_,h=>by cases h
 | .bracket _ _ i,n,h=>zba i n h
 | .pair _ _ a b,n,h=>by
  rcases zmA.1 h with h | h
  ·exact List.mem_append_left _ (zba a n h)
  ·exact List.mem_append_right _ (zba b n h)
 | .call _ _ a b,n,h=>by
  rcases zmA.1 h with h | h
  ·exact List.mem_append_left _ (zba a n h)
  ·exact List.mem_append_right _ (zba b n h)
 | .binary _ _ _ a b,n,h=>by
  rcases zmA.1 h with h | h
  ·exact List.mem_append_left _ (zba a n h)
  ·exact List.mem_append_right _ (zba b n h)
 | .cond _ _ a b c,n,h=>by
  rcases zmA.1 h with h | h
  ·exact List.mem_append_left _ (zba a n h)
  ·rcases zmA.1 h with h | h
   ·exact List.mem_append_right _ (List.mem_append_left _ (zba b n h))
   ·exact List.mem_append_right _ (List.mem_append_right _ (zba c n h))
 | .fn _ _ _ _ a,n,h=>by
  rcases zmC.1 h with rfl | h
  ·exact List.mem_cons_self
  ·exact List.mem_cons_of_mem _ (zba a n h)
 | .lett _ _ _ _ _ a b,n,h=>by
  rcases zmC.1 h with rfl | h
  ·exact List.mem_cons_self
  ·rcases zmA.1 h with h | h
   ·exact List.mem_cons_of_mem _ (List.mem_append_left _ (zba a n h))
   ·exact List.mem_cons_of_mem _ (List.mem_append_right _ (zba b n h))
theorem zvh {t:T} {p:Nat} (h:p∉t.places):t.hit p=none:=by
 cases hh:t.hit p with
 | none=>rfl
 | some n=>exact absurd (zaq hh).1 h
theorem zni {a b:T} {n:T} (ha:n∈a.binds->a.hit n.bpl=some n) (hb:n∈b.binds->b.hit n.bpl=some n) (hp:(a.places++b.places).Nodup) (h:n∈a.binds++b.binds):(a.hit n.bpl).or (b.hit n.bpl)=some n:=by
 rcases zmA.1 h with h | h
 ·rw [ha h]; rfl
 ·rw [zvh (fun h2=>(List.nodup_append.1 hp).2.2 _ h2 _ (zba b n h) rfl),hb h]; rfl
theorem zbj:∀(t:T),t.places.Nodup->∀n∈t.binds,t.hit n.bpl=some n
 | .name ..,_,_,h | .int ..,_,_,h | .truth ..,_,_,h | .side ..,_,_,h=>by cases h
 | .bracket _ _ i,hp,n,h=>zbj i hp n h
 | .pair _ _ a b,hp,n,h=>zni (zbj a (List.nodup_append.1 hp).1 n) (zbj b (List.nodup_append.1 hp).2.1 n) hp h
 | .call _ _ a b,hp,n,h=>zni (zbj a (List.nodup_append.1 hp).1 n) (zbj b (List.nodup_append.1 hp).2.1 n) hp h
 | .binary _ _ _ a b,hp,n,h=>zni (zbj a (List.nodup_append.1 hp).1 n) (zbj b (List.nodup_append.1 hp).2.1 n) hp h
 | .cond _ _ a b c,hp,n,h=>by
  have hp2:=List.nodup_append.1 hp
  have hp3:=List.nodup_append.1 hp2.2.1
  simp only [T.hit]
  rcases zmA.1 h with h | h
  ·rw [zbj a hp2.1 n h]; rfl
  ·rw [zvh (t:=a) (p:=n.bpl) (fun h2=>hp2.2.2 _ h2 _ (by
    rcases zmA.1 h with h | h
    ·exact List.mem_append_left _ (zba b n h)
    ·exact List.mem_append_right _ (zba c n h)) rfl),Option.none_or]
   exact zni (zbj b hp3.1 n) (zbj c hp3.2.1 n) hp2.2.1 h
 | .fn f t x k a,hp,n,h=>by
  have hp2:=List.nodup_cons.1 hp
  simp only [T.hit]
  rcases zmC.1 h with rfl | h
  ·exact if_pos rfl
  ·rw [if_neg (fun e=>hp2.1 (by rw [e]; exact zba a n h))]
   exact zbj a hp2.2 n h
 | .lett f t r x k a b,hp,n,h=>by
  have hp2:=List.nodup_cons.1 hp
  simp only [T.hit]
  rcases zmC.1 h with rfl | h
  ·exact if_pos rfl
  ·rw [if_neg (fun e=>hp2.1 (by
    rw [e]
    rcases zmA.1 h with h | h
    ·exact List.mem_append_left _ (zba a n h)
    ·exact List.mem_append_right _ (zba b n h)))]
   exact zni (zbj a (List.nodup_append.1 hp2.2).1 n) (zbj b (List.nodup_append.1 hp2.2).2.1 n) hp2.2 h
structure yf9 (x y:List UInt8) (S:List Nat) (t:T) (I:List (List UInt8)):Prop where
 nd:t.places.Nodup
 iff:∀f∈t.places,f∈S↔f∈t.occ x I
 fresh:∀s∈t.spans,s.2.2≠y
 out:y∉I
open Go
theorem zvi (p:Int->Bool) (m:List UInt8):m.take (runL p m).length=runL p m:=by
 unfold runL
 exact (List.prefix_iff_eq_take.1 (List.takeWhile_prefix _)).symm
theorem ydh {m:List UInt8} (h:(zah m).1=1):Nm (m.take (zah m).2.toNat):=by
 obtain ⟨h1,h2⟩:=zfo h
 rw [h2,Int.toNat_natCast,zvi]
 unfold zah at h
 rw [if_pos h1] at h
 unfold zh5 at h
 split at h
 ·simp at h
 ·rename_i hl
  have hm:m ≠ []:=by rintro rfl; simp [zam,zbh] at h1
  refine ⟨?_,fun c hc => ?_,by omega,h⟩
  ·cases m with
   | nil=>exact absurd rfl hm
   | cons c m =>
    have hw:zbg (c.toNat:Int)=true:=by
     have h9:zbh (c.toNat:Int)=true:=h1
     simp only [zbh,zbg,decide_eq_true_eq] at h9 ⊢
     exact .inl h9
    simp only [runL,List.takeWhile_cons,hw,if_true,zam]
    exact h1
  ·exact (by simpa using List.all_eq_true.1 (List.all_takeWhile (p:=fun c:UInt8=>zbg c.toNat) (l:=m)) c hc)
theorem Lex.nm {off:Nat} {m:List UInt8} {ts:List Tok} (h:Lex off m ts):∀t∈ts,t.sort=1->Nm (zaw m (t.fr-off) (t.to-off)):=by
 induction h with
 | nil=>intro t ht; cases ht
 | @gap off m ts hm hg hr ih =>
  intro t ht hs
  have lo:=((hr.toks).1 t ht).low
  have:=ih t ht hs
  rw [<-Nat.sub_sub,<-Nat.sub_sub,zjf (by omega)] at this
  exact this
 | @tok off m ts hm hg h0 hr ih =>
  intro t ht hs
  rcases zmC.1 ht with rfl | ht
  ·simp only [Nat.sub_self,Nat.add_sub_cancel_left,zaw,List.drop_zero,Nat.sub_zero]
   exact ydh hs
  ·have lo:=((hr.toks).1 t ht).low
   have:=ih t ht hs
   rw [<-Nat.sub_sub,<-Nat.sub_sub,zjf (by omega)] at this
   exact this
theorem Nm.isNm {y:List UInt8} (Y:Nm y):isNm y=true:=by
 have h:=(zo7 (r':=[]) Y (by simp [zam,zbg])).1
 rw [List.append_nil] at h
 unfold Tw.isNm
 rw [h]
 simp [Y.ne]
def zq9:List UInt8:=[122,113,57]
structure yf8 (fo:Nat) (l:List UInt8) (t:T) (sh:List UInt8) (n:T) (l':List UInt8) (t' n':T):Prop where
 nm:Nm n.bname
 capt:¬n.captN zq9
 eq:l'=chgR 0 l (chs n.bname.length zq9 (n.bpl::n.useS))
 opens:zcd 6100 fo l'=some (.fine t' sh)
 binds:t'.binds.length=t.binds.length
 at_:∀i:Nat,t.binds[i]? = some n->t'.binds[i]? = some n'
 name:n'.bname=zq9
 uses:n'.useS.length=n.useS.length
 capt':¬n'.captN n.bname
 back:chgR 0 l' (chs 3 n.bname (n'.bpl::n'.useS))=l
 after:∀f∈n'.useS,n'.bpl<=f
end Go.Proofs.YtckhafpejefbbaaGreatDoor.Tw
