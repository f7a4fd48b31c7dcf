import Derived.Test.YtckhafpejefbbaaGreatDoorB14
import Derived.Test.YtckhafpejefbbaaGreatDoorB01
import Derived.Test.YtckhafpejefbbaaGreatDoorRows
import Derived.Test.YtckhafpejefbbaaGreatDoorCards
import Derived.Test.YtckhafpejefbbaaGreatDoorTie
import Derived.ChangeSame
import Derived.ChangeVars
import Derived.JoinedOf
import Derived.RowKitTokens
import Derived.LaidLaws
import Derived.LaidMore
import Derived.OpenShut
import Derived.ProofKit
import Derived.Stop.Joined
import Derived.SevenTiedAt
import Derived.Carry

set_option maxRecDepth 100000
set_option maxHeartbeats 4000000
namespace Go.Proofs.YtckhafpejefbbaaGreatDoor
section
open Go.Proofs.Tryz
open Go.ChangeShapes Go.WideShapes Go.ChangeAt Go.RowKit
variable{W W':World}
theorem Tg(w:World)(e:TypeId)(s:ByteArray):w.grownBy (Lib.bytesWorld w e s) none:=
 ⟨rfl,rfl,rfl,by rw[Lib.bytesWorld_size];omega,λk a _=>Lib.bytesWorld_at_old w e s k a⟩
theorem own:ownKnob prog.godebug=none:=kR
abbrev znr:List (String×DataW Unit):=Rows.recursiveRow.laid
theorem zjj(a:Os)(args:Array Value):laidMetH prog znr ((World.doorLaid prog 62 a).forCall (λ_ _=>0) ⟨#[],args,[]⟩).memory:=
 laidMetH_of_parts3 (fuel:=8) (laidMet_of_run' 8 kR kR) kR kR
theorem Th(h:W.grownBy W' none)(b:MemPlace->Prop):W.keptBut W' b:=by
 refine⟨h.os,h.output,λi a=>?_⟩;rw[h.block i a sM];cases W.heap[i]? with
 |none=>trivial
 |some o=>cases o<;>simp
theorem zl9:laidOutB prog=true:=kR
theorem V5(h:W.grownBy W' none):Below W.heap.size W W':=⟨h.os,h.tape,h.output,h.size,λk a=>h.block k a sM⟩
theorem Un{H:Type}{enc:TypeId×Value->H}{P:Program}(g:laidOutB P=true){W W':World}(i:W.grownBy W' none):∀(a:List TypeId) (vs:List Value) (c:List (DataW H)) (e:List MemPlace),
  (a.all λt=>P.readableRec t&&decide (t<P.types.size))=true->(∀x∈e,x.block<W.heap.size)->DataW.TrodAll enc P W 0 (λ_=>true) true a vs c e->DataW.TrodAll enc P W' 0 (λb=>decide (b<W.heap.size)) true a vs c e
 |[],[],[],_,_,_,h=>h
 |t::a,v::vs,d::c,e,hr,hl,h=>by
  obtain⟨p,q,j,k,rfl⟩:=h;simp only[List.all_cons,Bool.and_eq_true,fE]at hr;exact⟨p,q,Below.trod g hr.1.1 hr.1.2 j (V5 i) (λx f=>hl x (zmA.2 (.inl f))),Un g i a vs c q hr.2 (λx f=>hl x (zmA.2 (.inr f))) k,rfl⟩
 |[],[],_::_,_,_,_,h=>h.elim
 |[],_::_,_,_,_,_,h=>h.elim
 |_::_,[],_,_,_,_,h=>h.elim
 |_::_,_::_,[],_,_,_,h=>h.elim
theorem zd4{H:Type}{enc:TypeId×Value->H}(e:W.grownBy W' none){c:List TypeId}{vs:List Value}{d:List (DataW H)}{a:List MemPlace}
  (g:(c.all λt=>prog.readableRec t&&decide (t<prog.types.size))=true) (f:∀x∈a,x.block<W.heap.size) (h:DataW.TrodAll enc prog W 0 (λ_=>true) true c vs d a):DataW.TrodAll enc prog W' 0 (λb=>decide (b<W.heap.size)) true c vs d a:=
 Un zl9 e c vs d a g f h
end
end Go.Proofs.YtckhafpejefbbaaGreatDoor
namespace Go.Proofs.YtckhafpejefbbaaGreatDoor.Tw
section
open Go
variable{ρ τ:Nat->Nat}
def Ty.has(p:Nat):Ty->Prop
 |.var q=>q=p
 |.int=>False
 |.bool=>False
 |.fn a b=>a.has p\/b.has p
 |.pair a b=>a.has p\/b.has p
theorem ze9{ρ τ :Nat->Nat}{r:Nat}(a :τ (ρ r)=r):∀(l:List Nat) (i:Nat),(∀p∈l,τ (ρ p)=p)->idxS (ρ r) (l.map ρ) i=idxS r l i
 |[],i,_=>rfl
 |x::l,i,h=>by
  simp only[List.map_cons,idxS];have c:=h x sM;by_cases e:r=x
  ·rw[mA e,mA (by rw[e])]
  ·rw[jA e,jA (λq=>e (by rw[<-a,q,c])),ze9 a l (i+1) λp b=>h p (by simp[b])]
theorem zlb{r:Nat}(b :τ (ρ r)=r)(l:List Nat)(h:∀p∈l,τ (ρ p)=p):numT (l.map ρ) (ρ r)=((numT l r).1,(numT l r).2.map ρ)/\∀p∈(numT l r).2,p∈l\/p=r:=by
 unfold numT;rw[ze9 b l 0 h];cases idxS r l 0 with
 |some i=>exact⟨rfl,λp a=>.inl a⟩
 |none=>exact⟨sM,λp a=>by simpa using a⟩
def Rn(ρ :Nat->Nat)(s:List Nat×List UInt8):List Nat×List UInt8:=(s.1.map ρ,s.2)
theorem Yo(ρ :Nat->Nat)(a:Ty):(a.sub λp=>.var (ρ p)).tsort=a.tsort:=by cases a<;>rfl
def zml(ρ τ :Nat->Nat)(a:Ty):Prop:=∀(s:List Nat×List UInt8),(∀p,p∈s.1\/a.has p -> τ (ρ p)=p) ->
 wrT (a.sub λp=>.var (ρ p)) (Rn ρ s)=Rn ρ (wrT a s)/\∀p∈(wrT a s).1,p∈s.1\/a.has p
theorem Zv{a:Ty}(h:zml ρ τ a)(b:Bool)(s:List Nat×List UInt8)(c:∀p,p∈s.1\/a.has p -> τ (ρ p)=p):
  brk b (wrT (a.sub λp=>.var (ρ p))) (Rn ρ s)=Rn ρ (brk b (wrT a) s)/\∀p∈(brk b (wrT a) s).1,p∈s.1\/a.has p:=by
 cases b with
 |false=>exact h s c
 |true=>
  obtain⟨d,e⟩:=h (s.1,putS 400 s.2 [40]) c;simp only[brk,if_true];refine⟨?_,e⟩;have:((Rn ρ s).1,putS 400 (Rn ρ s).2 [40])=Rn ρ (s.1,putS 400 s.2 [40]):=rfl;rw[this,d];rfl
theorem zmr(ρ τ :Nat->Nat):∀a:Ty,zml ρ τ a:=by
 intro a
 induction a with
 |var q=>
  intro s f;simp only[Ty.sub,wrT];have e:(Rn ρ s).2=s.2:=rfl;rw[e];by_cases d:400<s.2.length
  ·rw[mA d,mA d];exact⟨rfl,λp c=>.inl c⟩
  ·rw[jA d,jA d];obtain⟨h,g⟩:=zlb (ρ:=ρ) (τ:=τ) (f q (.inr rfl)) s.1 λp c=>f p (.inl c);have:(Rn ρ s).1=s.1.map ρ:=rfl;rw[this,h];exact⟨rfl,λp c=>(g p c).imp id λe=>e.symm⟩
 |int=>
  intro s f;simp only[Ty.sub,wrT];have e:(Rn ρ s).2=s.2:=rfl;rw[e];by_cases d:400<s.2.length
  ·rw[mA d,mA d];exact⟨rfl,λp c=>.inl c⟩
  ·rw[jA d,jA d];exact⟨rfl,λp c=>.inl c⟩
 |bool=>
  intro s f;simp only[Ty.sub,wrT];have e:(Rn ρ s).2=s.2:=rfl;rw[e];by_cases d:400<s.2.length
  ·rw[mA d,mA d];exact⟨rfl,λp c=>.inl c⟩
  ·rw[jA d,jA d];exact⟨rfl,λp c=>.inl c⟩
 |fn a b iha ihb=>
  intro s f;simp only[Ty.sub,wrT,Yo];have e:(Rn ρ s).2=s.2:=rfl;rw[e];by_cases d:400<s.2.length
  ·rw[mA d,mA d];exact⟨rfl,λp c=>.inl c⟩
  ·rw[jA d,jA d];obtain⟨h,g⟩:=Zv iha (a.tsort==3) s λp c=>f p (c.imp id .inl);rw[h];obtain⟨i,j⟩:=ihb ((brk (a.tsort==3) (wrT a) s).1,putS 400 (brk (a.tsort==3) (wrT a) s).2 [32,45,62,32]) λp c=>f p (c.elim (λq=>(g p q).imp id .inl) λq=>.inr (.inr q));exact⟨i,λp c=>(j p c).elim (λq=>(g p q).imp id .inl) λq=>.inr (.inr q)⟩
 |pair a b iha ihb=>
  intro s f;simp only[Ty.sub,wrT,Yo];have e:(Rn ρ s).2=s.2:=rfl;rw[e];by_cases d:400<s.2.length
  ·rw[mA d,mA d];exact⟨rfl,λp c=>.inl c⟩
  ·rw[jA d,jA d];obtain⟨h,g⟩:=Zv iha (a.tsort==3||a.tsort==4) s λp c=>f p (c.imp id .inl);rw[h];obtain⟨i,j⟩:=Zv ihb (b.tsort==3||b.tsort==4) ((brk (a.tsort==3||a.tsort==4) (wrT a) s).1,putS 400 (brk (a.tsort==3||a.tsort==4) (wrT a) s).2 [32,42,32]) λp c=>f p (c.elim (λq=>(g p q).imp id .inl) λq=>.inr (.inr q));exact⟨i,λp c=>(j p c).elim (λq=>(g p q).imp id .inl) λq=>.inr (.inr q)⟩
theorem Oy{σ τ :Nat->Ty}:∀ {a:Ty},(a.sub σ).sub τ=a->∀p,a.has p->∃q,σ p=.var q /\ τ q=.var p
 |.var r,h,p,hp=>by
  cases hp;simp only[Ty.sub]at h;cases c :σ r with
  |var q=>rw[c]at h;exact⟨q,rfl,h⟩
  |int=>rw[c]at h;cases h
  |bool=>rw[c]at h;cases h
  |fn _ _=>rw[c]at h;cases h
  |pair _ _=>rw[c]at h;cases h
 |.int,_,_,hp=>hp.elim
 |.bool,_,_,hp=>hp.elim
 |.fn a b,h,p,hp=>by
  simp only[Ty.sub,Ty.fn.injEq]at h;exact hp.elim (Oy h.1 p) (Oy h.2 p)
 |.pair a b,h,p,hp=>by
  simp only[Ty.sub,Ty.pair.injEq]at h;exact hp.elim (Oy h.1 p) (Oy h.2 p)
theorem Ml{σ τ :Nat->Ty}:∀ {a:Ty},(∀p,a.has p -> σ p=τ p)->a.sub σ=a.sub τ
 |.var r,h=>h r rfl
 |.int,_=>rfl
 |.bool,_=>rfl
 |.fn a b,h=>by
  simp only[Ty.sub];rw[Ml (a:=a) λp c=>h p (.inl c),Ml (a:=b) λp c=>h p (.inr c)]
 |.pair a b,h=>by
  simp only[Ty.sub];rw[Ml (a:=a) λp c=>h p (.inl c),Ml (a:=b) λp c=>h p (.inr c)]
def Ty.idx:Ty->Nat
 |.var q=>q
 |_=>0
theorem zd5{σ τ:Nat->Ty}{a b:Ty}(e:b=a.sub σ)(i:a=b.sub τ):b.shown=a.shown:=by
 have f:=Oy (σ:=σ) (τ:=τ) (a:=a) (by rw[<-e,<-i]);have g:b=a.sub λp=>.var (σ p).idx:=by
  rw[e];refine Ml λp c=>?_;obtain⟨q,d,_⟩:=f p c;rw[d];rfl
 unfold Ty.shown
 have:=(zmr (λp=>(σ p).idx) (λq=>(τ q).idx) a ([],[]) (λp c=>by
  rcases c with c|c
  ·cases c
  ·obtain⟨q,d,j⟩:=f p c;simp only[d,Ty.idx,j])).1
 rw[g];have h:Rn (λp=>(σ p).idx) ([],[])=(([],[]):List Nat×List UInt8):=rfl;rw[h]at this;rw[this];rfl
theorem Rz:∀a:Ty,a=a.sub .var
 |.var _=>rfl
 |.int=>rfl
 |.bool=>rfl
 |.fn a b=>by simp only[Ty.sub];rw[<-Rz a,<-Rz b]
 |.pair a b=>by simp only[Ty.sub];rw[<-Rz a,<-Rz b]
theorem Most.typ{t:T}{a:Ty}(h:Most t a):Typ t .nil a:=(h a).2 ⟨.var,Rz a⟩
theorem zd6{d e:T}{a1 a2:Ty}(a:Most d a1)(c:Most e a2)(h:∀b,Typ d .nil b↔Typ e .nil b):a2.shown=a1.shown:=by
 have i:=a.typ;have j:=c.typ;obtain⟨k,f⟩:=(a a2).1 ((h a2).2 j);obtain⟨l,g⟩:=(c a1).1 ((h a1).1 i);exact zd5 f g
end
section
open Go
section
variable {l:List UInt8}{ts:List Tok}{st st':PS}{k d:Nat}{u:Tok}
end
theorem zd7{l:List UInt8}{body:List Tok}{e:Tok}(j:∀t∈body,t.sort≠0){n:Nat}{t:T}(h:Fk l (body++[e]) n=some (.ok t)):∃s,A8 l (body++[e]) n ⟨0,0,false,0⟩=some (t,s)/\s.stuck=false/\(s.next<=body.length->s.next=body.length):=by
 unfold Fk at h;obtain⟨⟨x,c⟩,p,h⟩:=zbE.1 h;obtain⟨⟨k,i⟩,a,h⟩:=zbE.1 h;simp only[zsI]at h a;have b:i.stuck=false:=by
  cases m:i.stuck
  ·rfl
  ·rw[m]at h;simp at h
 rw[b]at h;simp only[xA,if_false,Except.ok.injEq]at h;subst h;have g:=(Ah a).1 b;refine⟨c,p,g,λv=>?_⟩;rcases yB c.next body.length with f|r
 ·exfalso;have o:tokS (body++[e]) c=some body[c.next]:=by
   unfold tokS;rw[g];simp[List.getElem?_append_left f,List.getElem?_eq_getElem f]
  unfold Au at a;rw[o,zbS,jA (j _ (List.getElem_mem f))]at a;obtain⟨w,q,a⟩:=zbE.1 a;cases a;rw[(Cr q).1]at b;cases b
 ·omega
end
section
open Go
theorem Qy{a:Nat}{t c:T}{sh:List UInt8}(h:Ku a t=some (.fine c sh)):c=t/\t.freeS []=none/\(∃w,Ae t .nil=some w/\w<=2000)/\ofS a t=some (some sh):=by
 unfold Ku at h;cases b:t.freeS []with
 |some p=>rw[b]at h;cases h
 |none=>
  rw[b]at h;simp only[zbE]at h;obtain⟨k,d,h⟩:=h;split at h
  ·cases h
  ·rename_i f;simp only[zbE]at h;obtain⟨o,e,h⟩:=h;cases o with
   |none=>cases h
   |some s=>cases h;exact⟨rfl,rfl,⟨k,d,oM⟩,e⟩
end
section
open Go
def T.places:T->List Nat
 |.name f _ _=>[f]
 |.int ..|.truth ..|.side .. =>[]
 |.bracket _ _ i=>i.places
 |.pair _ _ x y=>x.places++y.places
 |.call _ _ x y=>x.places++y.places
 |.binary _ _ _ x y=>x.places++y.places
 |.cond _ _ x y z=>x.places++(y.places++z.places)
 |.fn _ _ _ k x=>k::x.places
 |.lett _ _ _ _ k x y=>k::(x.places++y.places)
def T.occ(x:List UInt8):T->List (List UInt8)->List Nat
 |.name f _ z,I=>if z=x/\x∉I then[f]else[]
 |.int ..,_|.truth ..,_|.side ..,_=>[]
 |.bracket _ _ i,I=>i.occ x I
 |.pair _ _ a b,I=>a.occ x I++b.occ x I
 |.call _ _ a b,I=>a.occ x I++b.occ x I
 |.binary _ _ _ a b,I=>a.occ x I++b.occ x I
 |.cond _ _ a b c,I=>a.occ x I++(b.occ x I++c.occ x I)
 |.fn _ _ n _ a,I=>a.occ x (n::I)
 |.lett _ _ r n _ a b,I=>a.occ x (if r then n::I else I)++b.occ x (n::I)
structure zns(m:Mv)(S:List Nat)(y:List UInt8):Prop where
 val:∀f v,m.val f v=v
 at_:∀f x,f∈S->m.nm f x=y
 other:∀f x,f∉S->m.nm f x=x
section
variable {m:Mv}{S:List Nat}{x y:List UInt8} (M:zns m S y)
include M
end
def T.bname:T->List UInt8
 |.fn _ _ n _ _=>n
 |.lett _ _ _ n _ _ _=>n
 |_=>[]
def T.useS:T->List Nat
 |.fn _ _ n _ a=>a.occ n []
 |.lett _ _ r n _ a b=>(if r then a.occ n []else[])++b.occ n []
 |_=>[]
end
section
open Go
def T.spans:T->List (Nat×Nat×List UInt8)
 |.name f t z=>[(f,t,z)]
 |.int ..|.truth ..|.side .. =>[]
 |.bracket _ _ i=>i.spans
 |.pair _ _ x y=>x.spans++y.spans
 |.call _ _ x y=>x.spans++y.spans
 |.binary _ _ _ x y=>x.spans++y.spans
 |.cond _ _ x y z=>x.spans++(y.spans++z.spans)
 |.fn _ _ n k x=>(k,k+n.length,n)::x.spans
 |.lett _ _ _ n k x y=>(k,k+n.length,n)::(x.spans++y.spans)
theorem Bn:∀t:T,t.places=t.spans.map (·.1)
 |.name ..|.int ..|.truth ..|.side .. =>rfl
 |.bracket _ _ i=>Bn i
 |.pair _ _ x y=>by simp[T.places,T.spans,Bn x,Bn y]
 |.call _ _ x y=>by simp[T.places,T.spans,Bn x,Bn y]
 |.binary _ _ _ x y=>by simp[T.places,T.spans,Bn x,Bn y]
 |.cond _ _ x y z=>by simp[T.places,T.spans,Bn x,Bn y,Bn z]
 |.fn _ _ n k x=>by simp[T.places,T.spans,Bn x]
 |.lett _ _ _ n k x y=>by simp[T.places,T.spans,Bn x,Bn y]
def Y6(ts:List Tok)(i:Nat):Tok:=(ts[i]?).getD ⟨0,0,0⟩
def Px(l:List UInt8)(t:Tok):Nat×Nat×List UInt8:=(t.fr,t.to,Bf l t.fr t.to)
def Pl(l:List UInt8)(ts:List Tok)(lo hi:Nat)(L:List (Nat×Nat×List UInt8)):Prop:=
 ∃a:List Nat,a.Pairwise (· < ·)/\(∀i∈a,lo<=i/\i<hi/\∃t,ts[i]?=some t/\t.sort=1)/\L=a.map λi=>Px l (Y6 ts i)
variable {l:List UInt8}{ts:List Tok}
variable{lo hi k:Nat}{t:Tok}{s:Int}{st st':PS}
theorem Pl.nil :Pl l ts lo hi []:=⟨[],.nil,λi h=>(by cases h),rfl⟩
theorem Pl.wide{lo' hi':Nat}{L:List (Nat×Nat×List UInt8)}(h:Pl l ts lo hi L)(e:lo'<=lo)(f:hi<=hi'):Pl l ts lo' hi' L:=by
 obtain⟨d,a,b,c⟩:=h;exact⟨d,a,λi hi=>⟨by have:=(b i hi).1;omega,by have:=(b i hi).2.1;omega,(b i hi).2.2⟩,c⟩
theorem Pl.append{a:Nat}{A B:List (Nat×Nat×List UInt8)}(h:Pl l ts lo a A)(k:Pl l ts a hi B)(n:lo<=a)(o:a<=hi):Pl l ts lo hi (A++B):=by
 obtain⟨g,e,b,rfl⟩:=h;obtain⟨m,c,d,rfl⟩:=k;refine⟨g++m,List.pairwise_append.2 ⟨e,c,λi hi j f=>by have:=(b i hi).2.1;have:=(d j f).1;omega⟩,λi hi=>?_,sM⟩;rcases zmA.1 hi with hi|hi
 ·exact⟨(b i hi).1,by have:=(b i hi).2.1;omega,(b i hi).2.2⟩
 ·exact⟨by have:=(d i hi).1;omega,(d i hi).2.1,(d i hi).2.2⟩
theorem Pl.one{i:Nat}(b:ts[i]?=some t)(c:t.sort=1)(h:i<hi):Pl l ts i hi [Px l t]:=
 ⟨[i],sM,λj a=>by simp only[xB]at a;subst a;exact⟨znL _,h,t,b,c⟩,by simp[Y6,b]⟩
def Pos(l:List UInt8)(ts:List Tok)(st:PS)(r:T)(st':PS):Prop:=st.next<=st'.next/\Pl l ts st.next st'.next r.spans
structure OAll(l:List UInt8)(ts:List Tok)(n:Nat):Prop where
 expr:∀ {s s':PS} {r:T},A8 l ts n s=some (r,s')->s'.stuck=false->Pos l ts s r s'
 lett:∀ {s s':PS} {r:T},letS l ts n s=some (r,s')->s'.stuck=false->Pos l ts s r s'
 fn:∀ {s s':PS} {r:T},funS l ts n s=some (r,s')->s'.stuck=false->Pos l ts s r s'
 cond:∀ {s s':PS} {r:T},Ee l ts n s=some (r,s')->s'.stuck=false->Pos l ts s r s'
 cmp:∀ {s s':PS} {r:T},cmpS l ts n s=some (r,s')->s'.stuck=false->Pos l ts s r s'
 sum:∀ {s s':PS} {r:T},sumS l ts n s=some (r,s')->s'.stuck=false->Pos l ts s r s'
 term:∀ {s s':PS} {r:T},Dp l ts n s=some (r,s')->s'.stuck=false->Pos l ts s r s'
 part:∀ {p:Part} {s s':PS} {r:T},B6 l ts n p s=some (r,s')->s'.stuck=false->Pos l ts s r s'
 chain:∀ {p:Part} {g:List Int} {s s':PS} {r:T},(∀x∈g,x≠0)->Bs l ts n p g s=some (r,s')->s'.stuck=false->Pos l ts s r s'
 chainFrom:∀ {p:Part} {g:List Int} {a:T} {lo:Nat} {s s':PS} {r:T},(∀x∈g,x≠0)->lo<=s.next->Pl l ts lo s.next a.spans->Am l ts n p g a s=some (r,s')->s'.stuck=false->s.next<=s'.next/\Pl l ts lo s'.next r.spans
 call:∀ {s s':PS} {r:T},Dj l ts n s=some (r,s')->s'.stuck=false->Pos l ts s r s'
 callFrom:∀ {a:T} {lo:Nat} {s s':PS} {r:T},lo<=s.next->Pl l ts lo s.next a.spans->Aq l ts n a s=some (r,s')->s'.stuck=false->s.next<=s'.next/\Pl l ts lo s'.next r.spans
 atom:∀ {s s':PS} {r:T},Cs l ts n s=some (r,s')->s'.stuck=false->Pos l ts s r s'
 bracket:∀ {s s':PS} {r:T},Ba l ts n s=some (r,s')->s'.stuck=false->Pos l ts s r s'
theorem Bp(h:Au ts s st=some (t,st'))(b:st'.stuck=false)(c:s≠0):st'.next=st.next+1/\ts[st.next]?=some t/\t.sort=s:=by
 have e:=(Ah h).1 b;obtain⟨a,d,rfl,_⟩:=zd3 h b c;refine⟨rfl,?_,d⟩;unfold tokS at a;rw[e]at a;simpa using a
theorem Kl(h:Cv ts s st=some (k,st'))(a:st'.stuck=false)(c:s≠0):st'.next=st.next+1:=by
 have b:=(V4 h a).1;unfold Cv at h;rw[jA b,zbS]at h;split at h
 ·obtain⟨⟨f,e⟩,d,h⟩:=zbE.1 h;cases h;exact(Bp d a c).1
 ·cases h
theorem Jd:∀ {g:List Int} {st st':PS} {k:Int},(∀x∈g,x≠0)->Ar ts g st=some (k,st')->st'.stuck=false->st.next<=st'.next
 |[],st,st',k,_,h,_=>by cases h;exact znL _
 |x::g,st,st',k,h0,h,hs=>by
  rw[Ar]at h;obtain⟨t,c,h⟩:=zbE.1 h;split at h
  ·obtain⟨⟨e,d⟩,a,h⟩:=zbE.1 h;cases h
   have:=(Bp a hs (h0 x sM)).1;simp only at this ⊢;omega
  ·exact Jd (λy b=>h0 y (by simp[b])) h hs
theorem Eb(h:endS st=some st'):st'.next=st.next:=by
 unfold endS at h;split at h
 ·cases h
 ·cases h;rfl
theorem Uo{x:List UInt8}(h:Ci l ts st=some ((x,k),st'))(g:st'.stuck=false):st'.next=st.next+1/\Pl l ts st.next st'.next [(k,k+x.length,x)]:=by
 unfold Ci at h;obtain⟨⟨t,i⟩,f,h⟩:=zbE.1 h;split at h
 ·rename_i b;cases h;obtain⟨a,d,c⟩:=Bp f g dZ;refine⟨a,?_⟩;have e:(t.fr,t.fr+(Bf l t.fr t.to).length,Bf l t.fr t.to)=Px l t:=by
   simp only[Px,zpI,true_and,and_true];simp only[Bf,List.length_take,xD]
   have:=b.1
   have:=b.2;simp only at *;omega
  rw[e,a];exact Pl.one d c (Nat.lt_succ_self _)
 ·cases h
theorem zfa(l:List UInt8)(ts:List Tok):∀n,OAll l ts n
 |0=>by constructor<;>(intros;simp_all[A8,letS,funS,Ee,cmpS,sumS,Dp,B6,Bs,Am,Dj,Aq,Cs,Ba])
 |n+1=>by
  have ih:=zfa l ts n;have M:=Bw l ts n;constructor
  case expr=>
   intro s s' r h hs;rw[A8]at h;obtain⟨t,_,h⟩:=zbE.1 h;split at h
   ·exact ih.lett h hs
   split at h
   ·exact ih.fn h hs
   split at h
   ·exact ih.cond h hs
   ·exact ih.cmp h hs
  case lett=>
   intro s s' r h hs;simp only[letS,zbE,zsI,zpI,uB]at h;obtain⟨k,t1,h1,rc,t2,h2,bn,bat,t3,h3,c4,t4,h4,d,t5,h5,c6,t6,h6,x,t7,h7,t8,h8,rfl,rfl⟩:=h;have a7:t7.stuck=false:=(by rw[<-(Aw h8).1];exact hs);have a6:=(M.expr h7).1 a7;have a5:=(Ah h6).1 a6;have a4:=(M.expr h5).1 a5;have a3:=(Ah h4).1 a4;have a2:=(El h3).1 a3;have a1:=(Ap h2).1 a2;have n1:=Kl h1 a1 dZ;have n2:=Jd dZ h2 a2;obtain⟨n3,p3⟩:=Uo h3 a3;have n4:=(Bp h4 a4 dZ).1;obtain⟨n5,p5⟩:=ih.expr h5 a5;have n6:=(Bp h6 a6 dZ).1;obtain⟨n7,p7⟩:=ih.expr h7 a7;have n8:=Eb h8;refine⟨oM,?_⟩;have q:=((p5.wide (znL _) (by omega:t5.next<=t6.next)).append p7 oM oM);exact(p3.append (q.wide (by omega:t3.next<=t4.next) (by omega:t7.next<=t8.next)) oM oM).wide oM (znL _)
  case fn=>
   intro s s' r h hs;simp only[funS,zbE,zsI,zpI,uB]at h;obtain⟨k,t1,h1,bn,bat,t3,h3,c4,t4,h4,d,t5,h5,t8,h8,rfl,rfl⟩:=h;have a5:t5.stuck=false:=(by rw[<-(Aw h8).1];exact hs);have a4:=(M.expr h5).1 a5;have a3:=(Ah h4).1 a4;have a1:=(El h3).1 a3;have n1:=Kl h1 a1 dZ;obtain⟨n3,p3⟩:=Uo h3 a3;have n4:=(Bp h4 a4 dZ).1;obtain⟨n5,p5⟩:=ih.expr h5 a5;have n8:=Eb h8;refine⟨oM,?_⟩;exact(p3.append (p5.wide (by omega:t3.next<=t4.next) (by omega:t5.next<=t8.next)) oM oM).wide oM (znL _)
  case cond=>
   intro s s' r h hs;simp only[Ee,zbE,zsI,zpI,uB]at h;obtain⟨k,t1,h1,x,t2,h2,c3,t3,h3,y,t4,h4,c5,t5,h5,z,t6,h6,t8,h8,rfl,rfl⟩:=h;have a6:t6.stuck=false:=(by rw[<-(Aw h8).1];exact hs);have a5:=(M.expr h6).1 a6;have a4:=(Ah h5).1 a5;have a3:=(M.expr h4).1 a4;have a2:=(Ah h3).1 a3;have a1:=(M.expr h2).1 a2;have n1:=Kl h1 a1 dZ;obtain⟨n2,p2⟩:=ih.expr h2 a2;have n3:=(Bp h3 a3 dZ).1;obtain⟨n4,p4⟩:=ih.expr h4 a4;have n5:=(Bp h5 a5 dZ).1;obtain⟨n6,p6⟩:=ih.expr h6 a6;have n8:=Eb h8;refine⟨oM,?_⟩;have q:=(p4.wide (znL _) (by omega:t4.next<=t5.next)).append p6 oM oM;exact((p2.wide (by omega:s.next<=t1.next) (by omega:t2.next<=t3.next)).append (q.wide (znL _) (by omega:t6.next<=t8.next)) oM oM)
  case cmp=>
   intro s s' r h hs;simp only[cmpS,zbE,uB]at h;obtain⟨x,t1,h1,sg,t2,h2,h⟩:=h;split at h
   ·cases h;have a1:=(Ap h2).1 hs;obtain⟨n1,p1⟩:=ih.sum h1 a1;have n2:=Jd dZ h2 hs;exact⟨oM,p1.wide (znL _) n2⟩
   ·simp only[zbE,zsI,zpI,uB]at h;obtain⟨y,t3,h3,rfl,rfl⟩:=h;have a2:=(M.sum h3).1 hs;have a1:=(Ap h2).1 a2;obtain⟨n1,p1⟩:=ih.sum h1 a1;have n2:=Jd dZ h2 a2;obtain⟨n3,p3⟩:=ih.sum h3 hs;exact⟨oM,(p1.wide (znL _) n2).append p3 oM n3⟩
  case sum=>
   intro s s' r h hs;rw[sumS]at h;exact ih.chain dZ h hs
  case term=>
   intro s s' r h hs;rw[Dp]at h;exact ih.chain dZ h hs
  case part=>
   intro p s s' r h hs;cases p with
   |term=>rw[B6]at h;exact ih.term h hs
   |call=>rw[B6]at h;exact ih.call h hs
  case chain=>
   intro p g s s' r hg h hs;simp only[Bs,zbE,uB]at h;obtain⟨a,t1,h1,h2⟩:=h;have a1:=(M.chainFrom h2).1 hs;obtain⟨n1,p1⟩:=ih.part h1 a1;obtain⟨n2,p2⟩:=ih.chainFrom hg n1 p1 h2 hs;exact⟨oM,p2⟩
  case chainFrom=>
   intro p g a lo s s' r hg hlo hp h hs;simp only[Am,zbE,uB]at h;obtain⟨k,t1,h1,h⟩:=h;split at h
   ·cases h;have n1:=Jd hg h1 hs;exact⟨n1,hp.wide (znL _) n1⟩
   ·simp only[zbE,uB]at h;obtain⟨c,t2,h2,h3⟩:=h;have a2:=(M.chainFrom h3).1 hs;have a1:=(M.part h2).1 a2;have n1:=Jd hg h1 a1;obtain⟨n2,p2⟩:=ih.part h2 a2;obtain⟨n3,p3⟩:=ih.chainFrom hg (lo:=lo) oM ((hp.wide (znL _) n1).append p2 oM n2) h3 hs;exact⟨oM,p3⟩
  case call=>
   intro s s' r h hs;simp only[Dj,zbE,uB]at h;obtain⟨a,t1,h1,h2⟩:=h;have a1:=(M.callFrom h2).1 hs;obtain⟨n1,p1⟩:=ih.atom h1 a1;obtain⟨n2,p2⟩:=ih.callFrom n1 p1 h2 hs;exact⟨oM,p2⟩
  case callFrom=>
   intro a lo s s' r hlo hp h hs;simp only[Aq,zbE]at h;obtain⟨t,ht,h⟩:=h;split at h
   ·simp only[zbE,uB]at h;obtain⟨c,t3,h2,h3⟩:=h;have a2:=(M.callFrom h3).1 hs;obtain⟨n2,p2⟩:=ih.atom h2 a2;obtain⟨n3,p3⟩:=ih.callFrom (lo:=lo) oM (hp.append p2 oM n2) h3 hs;exact⟨oM,p3⟩
   ·cases h;exact⟨znL _,hp⟩
  case atom=>
   intro s s' r h hs;simp only[Cs,zbE]at h;obtain⟨t,ht,h⟩:=h;split at h
   ·exact ih.bracket h hs
   split at h
   ·rename_i h16 hb;simp only[zbE,zsI,zpI,uB]at h;obtain⟨c,t3,h2,x,h3,rfl,rfl⟩:=h;simp only[Aj,fE]at hb;have h0:t.sort≠0:=oM;have hst:=(Ah h2).1 hs;obtain⟨n1,q1,q2⟩:=Bp h2 hs h0;have ht':ts[s.next]?=some t:=by
     unfold tokS at ht;rw[hst]at ht;simpa using ht
    refine⟨oM,?_⟩;unfold Ks at h3;split at h3
    ·split at h3
     ·obtain⟨v,_,h3⟩:=zbE.1 h3;cases h3;exact Pl.nil
     ·cases h3
    split at h3
    ·cases h3;exact Pl.nil
    split at h3
    ·cases h3;exact Pl.nil
    split at h3
    ·cases h3;exact Pl.one ht' oM oM
    ·cases h3
   ·simp only[zbE,zsI,zpI]at h;obtain⟨_,h2,rfl,rfl⟩:=h;rw[(Cr h2).1]at hs;cases hs
  case bracket=>
   intro s s' r h hs;simp only[Ba,zbE,uB]at h;obtain⟨k,t1,h1,x,t2,h2,sg,t3,h3,h⟩:=h;split at h
   ·simp only[zbE,zsI,zpI,uB]at h;obtain⟨y,t4,h4,c5,t5,h5,t6,h6,rfl,rfl⟩:=h;have a5:t5.stuck=false:=(by rw[<-(Aw h6).1];exact hs);have a4:=(Ah h5).1 a5;have a3:=(M.expr h4).1 a4;have a2:=(Ap h3).1 a3;have a1:=(M.expr h2).1 a2;have n1:=Kl h1 a1 dZ;obtain⟨n2,p2⟩:=ih.expr h2 a2;have n3:=Jd dZ h3 a3;obtain⟨n4,p4⟩:=ih.expr h4 a4;have n5:=(Bp h5 a5 dZ).1;have n6:=Eb h6;exact⟨oM,(p2.wide (by omega:s.next<=t1.next) n3).append (p4.wide (znL _) (by omega:t4.next<=t6.next)) oM oM⟩
   ·simp only[zbE,zsI,zpI,uB]at h;obtain⟨c5,t5,h5,t6,h6,rfl,rfl⟩:=h;have a5:t5.stuck=false:=(by rw[<-(Aw h6).1];exact hs);have a3:=(Ah h5).1 a5;have a2:=(Ap h3).1 a3;have a1:=(M.expr h2).1 a2;have n1:=Kl h1 a1 dZ;obtain⟨n2,p2⟩:=ih.expr h2 a2;have n3:=Jd dZ h3 a3;have n5:=(Bp h5 a5 dZ).1;have n6:=Eb h6;exact⟨oM,p2.wide (by omega:s.next<=t1.next) (by omega:t2.next<=t6.next)⟩
theorem Yp{n:Nat}{t:T}(h:Fk l ts n=some (.ok t)):∃hi,Pl l ts 0 hi t.spans:=by
 unfold Fk at h;obtain⟨⟨x,f⟩,e,h⟩:=zbE.1 h;obtain⟨⟨k,c⟩,a,h⟩:=zbE.1 h;simp only[zsI]at h a;have b:c.stuck=false:=by
  cases d:c.stuck
  ·rfl
  ·rw[d]at h;simp at h
 rw[b]at h;simp only[xA,if_false,Except.ok.injEq]at h;subst h;exact⟨_,((zfa l ts n).expr e ((Ah a).1 b)).2⟩
end
section
open Go
structure Nm(y:List UInt8):Prop where
 head:Du (Ce y)=true
 all:∀c∈y,Df c.toNat=true
 len:y.length<=6
 sort:Cg y=1
theorem Zw{m:List UInt8}(h:(Ao m).1=1):Du (Ce m)=true/\(Ao m).2=(runL Df m).length:=by
 unfold Ao at h ⊢;by_cases a:Du (Ce m)=true
 ·rw[mA a]at h ⊢;unfold Hq at h ⊢;split at h
  ·simp at h
  ·rename_i b;rw[jA b];exact⟨a,rfl⟩
 ·exfalso;rw[jA a]at h;split at h
  ·unfold Eu at h;split at h<;>simp at h
  split at h
  ·simp at h
  ·unfold Gh at h
   (repeat' split at h)<;>simp at h
section
variable {dx:Nat}{y:List UInt8}
end
end
section
open Go
theorem V6{m:List UInt8}{k i j:Nat}(h:k<=i):Bf (m.drop k) (i-k) (j-k)=Bf m i j:=by
 unfold Bf;rw[List.drop_drop,show k+(i-k)=i from oM];congr 1;omega
variable {dx:Nat}{y:List UInt8}
end
end Go.Proofs.YtckhafpejefbbaaGreatDoor.Tw
namespace Go.Proofs.YtckhafpejefbbaaGreatDoor
section
open Tw
open Go.RowKit
theorem zd8(a:Said.ItoaSmall){t:Tw.T}{fuel:Nat}{sh:List UInt8}(b:ofS fuel t=some (some sh)):ze3 WtS t sh:=λ_ _ _ c=>zi8 a c b
end
section
open Go Go.RowKit
variable{P:Program}{l B:Nat}{A C:World}
def zky{d :Type}(P:Program)(g:Nat)(lb:Array Value)(encs :d -> Array Value)(Ok :d -> World->Prop)(Kp:World->World->Prop)(S i:List d -> Prop)(N:Nat)(w:World):Prop:=
 ∀(l:Nat) (J f:List d -> World->Prop) (W:World),Below w.heap.size w W->OwnFrom W.heap.size J->OwnFrom W.heap.size f ->
  (∀pre x c,J pre c->pre.length<N->Ok x c->YieldAt Fence.wide 0 P l (encs x) c λe b=>KeepsFrom W.heap.size c b /\
   ((e=.returned (.bool true)/\J (pre++[x]) b/\Kp c b)\/(e=.returned (.bool false)/\f (pre++[x]) b))) ->
  J [] W ->
  Calls P g (#[.func (.yield l) #[] #[]]++lb) W λe b=>(∃v,e=.returned v)/\((∃h,S h/\J h b)\/(∃pre,i pre/\f pre b))
abbrev SeqO{b :Type}(P:Program)(g:Nat)(lb:Array Value)(encs :b -> Array Value)(Kp:World->World->Prop)(S c:List b -> Prop)(N:Nat)(w:World):Prop:=zky P g lb encs (λ_ _=>True) Kp S c N w
theorem Up{m i:Nat}{args:Array Value}{W:World}{R:Ending->World->Prop}(h:YieldAt Fence.wide m P l args W R):YieldAt Fence.wide i P l args W R:=by
 obtain⟨e,j,assign,body,f,b⟩:=h;exact⟨e,j,assign,body,f,b.1,λc d _=>b.2 c d (room_wide _)⟩
theorem zfb{c:Type}{n:Nat}{g:Nat}{lb:Array Value}{encs :c -> Array Value}{Kp:World->World->Prop}{S d:List c -> Prop}{N:Nat}{w:World}(h:SeqStopsK Fence.wide n P g lb encs Kp S d N w):SeqO P g lb encs Kp S d N w:=by
 intro l J i W q m o s k;have f:∀ {K:List c -> World->Prop},OwnFrom W.heap.size K->AbidesFrom W.heap.size K:=λhK F A B row z t b=>
  hK F A B row z t λr e=>⟨(b r e).1,by obtain⟨E,y,D⟩:=(b r e).2;exact⟨E,y,Obj.not_cells_of_walk D⟩⟩
 exact callsIn_wide.1 (h l J i W q (f m) (f o) (λpre G j v x=>Up (YieldAt.mono (s pre G j v x trivial) λe H b=>b.2)) k)
theorem He{D:World}(h:KeepsFrom B A C)(k:KeepsFrom B C D):KeepsFrom B A D:=⟨kB h.size k.size,λi o c d b=>k.same i o c (h.same i o c d b) b⟩
theorem Dw{b:Nat}(c:B<=b)(h:KeepsFrom B A C):KeepsFrom b A C:=⟨h.size,λi o e f d=>h.same i o (kB c e) f d⟩
theorem Qg(d:l<B)(W:World)(o:Obj):KeepsFrom B W (W.putObj l o):=
 ⟨by simp[World.putObj],λi e c b _=>(World.putObj_heap_other oM).trans b⟩
structure zkz(rc:LoopState->Option Code->Loop)(fn:FuncId)(tmps:Array Value)(ps:Array Tmp)(assign body:Code)(D:Nat):Prop where
 eq:rc=fun st pe=>{state:=st,pending:=pe,fn:=fn,tmps:=tmps,params:=ps,assign:=assign,body:=body,defers:=D}
variable {P:Program}{α:Type}
theorem zfc{rc:LoopState->Option Code->Loop}{F:FuncId}{tmps:Array Value}{ps:Array Tmp}{assign body:Code}{T l B D m:Nat}(R:zkz rc F tmps ps assign body T)(k:B<=l)(J:l<D)
  {encs :α -> Array Value} {Kp:World->World->Prop} (N:∀ {A B C:World},Kp A B->Kp B C->Kp A C) (M:∀(W:World) (l:Nat) (o a4:Obj),B<=l->W.heap[l]?=some o->o.isCells=false->o.isWalk=false->Kp W (W.putObj l a4)) (a3:∀x,(encs x).size=ps.size)
  {I:List α -> World->Prop} {E:Code->List α -> World->Prop} (L:OwnFrom B I) (V:∀c,OwnFrom B (E c)) {a₁ :α -> Act} {pre:List α} {x :α} {W:World} {Ok :α -> World->Prop} (X:OwnFrom B (λ(_:Unit) W=>Ok x W)) (a2:Ok x W) (hi:I pre W) (y:W.heap[l]?=some (.loop (rc .ready none)))
  (Y:∀(W:World) (K:Act->World->Prop),K (a₁ x) W->assign.wpIn (Fence.wide.inRound l) m P (Exit.then K (λ_ _ _=>False)) {tmps:=(ps.zip (encs x)).foldl (λt (p,v)=>t.setIfInBounds p v) tmps,defers:=[]} W)
  (Z:∀W,(∃r,W.heap[l]?=some (.loop r))->I pre W->Ok x W->body.wpIn (Fence.wide.inRound l) m P (ownPostG B Kp I E (pre++[x]) W) (a₁ x) W) :
  YieldAt Fence.wide m P l (encs x) W λe W'=>KeepsFrom D W W' /\
   ((e=.returned (.bool true)/\(I (pre++[x]) W'/\W'.heap[l]?=some (.loop (rc .ready none)))/\Kp W W')\/(e=.returned (.bool false)/\∃c,E c (pre++[x]) W'/\W'.heap[l]?=some (.loop (rc .done (some c))))):=by
 have q:(rc .ready none).params=ps/\(rc .ready none).fn=F/\(rc .ready none).tmps=tmps/\(rc .ready none).assign=assign/\(rc .ready none).body=body:=by rw[R.eq];exact⟨rfl,rfl,rfl,rfl,rfl⟩
 have S:=run_yield (P:=P) (args:=encs x) y (by rw[q.1];exact a3 x);rw[q.1,q.2.1,q.2.2.1,q.2.2.2.1,q.2.2.2.2]at S;refine⟨F,_,assign,body,S,roundIn_of_wpIn trivial (Y W _ ?_)⟩;have a1:=(zgE.1 y).1;refine⟨_,run_beginRound y (by rw[R.eq]),?_⟩;obtain⟨d,O⟩:∃U,({rc .ready none with state:=.busy}:Loop)=U:=⟨_,rfl⟩;rw[O];have a0:∀j:Option Code,({d with state:=if j.isNone then .ready else .done,pending:=j}:Loop)=rc (if j.isNone then .ready else .done) j:=λj=>by rw[<-O,R.eq]
 have lb:(W.putObj l (.loop d)).heap[l]?=some (.loop d):=World.putObj_heap_same a1;have k0:KeepsFrom D W (W.putObj l (.loop d)):=Qg J W _;have p0:Kp W (W.putObj l (.loop d)):=M _ _ _ _ k y rfl rfl;refine wpIn_mono (Z _ ⟨d,lb⟩ (L.putObj _ hi k y rfl) (X.putObj (s:=()) _ a2 k y rfl)) ?_
 -- a round's end
 have fin:∀(j:Option Code) (b:World),KeepsFrom B (W.putObj l (.loop d)) b->b.heap[l]?=some (.loop d)/\(Instr.endRound l j).run P b=.ok (.bool j.isNone) (b.putObj l (.loop (rc (if j.isNone then .ready else .done) j)))/\KeepsFrom D W (b.putObj l (.loop (rc (if j.isNone then .ready else .done) j))):=λj b z=>by
  have h:=z.same l _ k lb rfl;have e:=run_endRound (P:=P) j h;rw[a0]at e;exact⟨h,e,He (He k0 (Dw oM z)) (Qg J _ _)⟩
 have H:∀(c:Code) (b:World),KeepsFrom B (W.putObj l (.loop d)) b->E c (pre++[x]) b->∃v i,(Instr.endRound l (some c)).run P b=.ok v i/\(KeepsFrom D W i/\((Ending.returned v=.returned (.bool true)/\(I (pre++[x]) i/\i.heap[l]?=some (.loop (rc .ready none)))/\Kp W i)\/(Ending.returned v=.returned (.bool false)/\∃c,E c (pre++[x]) i/\i.heap[l]?=some (.loop (rc .done (some c)))))):=λc b z hx=>by
  obtain⟨h,e,G⟩:=fin (some c) b z;exact⟨_,_,e,G,.inr ⟨rfl,c,(V c).putObj _ hx k h rfl,World.putObj_heap_same (zgE.1 h).1⟩⟩
 rintro e a5 b f;cases e with
 |normal=>
  obtain⟨z,p3,i3⟩:=f;obtain⟨h,e,G⟩:=fin none b z;exact⟨_,_,e,G,.inl ⟨rfl,⟨L.putObj _ i3 k h rfl,World.putObj_heap_same (zgE.1 h).1⟩,N (N p0 p3) (M _ _ _ _ k h rfl rfl)⟩⟩
 |ret=>exact H .ret b f.1 f.2
 |exit id=>exact H (.exit id) b f.1 f.2
 |goto t=>exact H (.goto t) b f.1 f.2
 |panic ch=>exact f.elim
 |outgrown=>exact f.elim
variable {n:Nat}{g:Operand}{ps:Array Tmp}{assign body:Code}{Q:Exit -> Act -> World -> Prop}{a:Act}{w:World}
variable{gf:Nat}{lb:Array Value}{p d1:Tmp}
theorem zfd(Y:a.eval g=.func (.func gf) #[] lb)(eg:∀args w,(callFunc gf args).run P w=.ok (.enter gf args) w)
  {encs :α -> Array Value} {Ok :α -> World->Prop} {Kp:World->World->Prop} {S a2:List α -> Prop} {N:Nat} {H:World} (ah:zky P gf lb encs Ok Kp S a2 N H) (a7:∀x,OwnFrom w.heap.size (λ(_:Unit) W=>Ok x W))
  (a6:∀ {A B C:World},Kp A B->Kp B C->Kp A C) (a5:∀(W:World) (l:Nat) (o a1:Obj),w.heap.size<=l->W.heap[l]?=some o->o.isCells=false->o.isWalk=false->Kp W (W.putObj l a1)) (a3:Below H.heap.size H w) (ag:∀x,(encs x).size=ps.size)
  (I:List α -> World->Prop) (J:Code->List α -> World->Prop) (G:OwnFrom w.heap.size I) (V:∀c,OwnFrom w.heap.size (J c)) (h0:I [] w) (a₁ :α -> Act)
  (a8:∀(l:Nat) (x :α) (W:World) (K:Act->World->Prop),K (a₁ x) W->assign.wpIn (Fence.wide.inRound l) 0 P (Exit.then K (λ_ _ _=>False)) {tmps:=(ps.zip (encs x)).foldl (λt (p,v)=>t.setIfInBounds p v) a.tmps,defers:=[]} W)
  (aa:∀(l:Nat) (pre:List α) (x :α) (W:World),w.heap.size<=l->(∃r,W.heap[l]?=some (.loop r))->I pre W->pre.length<N->Ok x W->body.wpIn (Fence.wide.inRound l) 0 P (ownPostG w.heap.size Kp I J (pre++[x]) W) (a₁ x) W)
  (ac:∀(D:Nat) (M:List α) (W:World),w.heap.size<=D->S M->I M W->W.heap[D]?=some (.deferred (some []))->Q .normal {a with defers:={target:=.collected D,args:=#[]}::a.defers} W)
  (ai:∀(D:Nat) (c:Code) (pre:List α) (W:World),w.heap.size<=D->a2 pre->J c pre W->W.heap[D]?=some (.deferred (some []))->c.wpIn Fence.wide n P Q {a with defers:={target:=.collected D,args:=#[]}::a.defers} W) :
  (Code.rangeFunc g ps assign body).wpIn Fence.wide n P Q a w:=by
 refine wpIn_rangeFunc λO _=>?_;obtain⟨z,F⟩:∃z:LoopState->Option Code->Loop,zkz z O a.tmps ps assign body w.heap.size:=⟨_,⟨rfl⟩⟩;obtain⟨d,E⟩:∃d,(w.alloc (.deferred (some []))).alloc (.loop (z .ready none))=d:=⟨_,rfl⟩;have z1:d.heap.size=w.heap.size+2:=by rw[<-E];simp
 have ae:d.heap[w.heap.size+1]?=some (.loop (z .ready none)):=by
  have:=World.alloc_heap_new (w.alloc (.deferred (some []))) (.loop (z .ready none));rw[World.size_alloc]at this;rw[<-E];exact this
 have ab:d.heap[w.heap.size]?=some (.deferred (some [])):=by
  rw[<-E];exact(Below.heap_alloc _ _ _ sM).trans (World.alloc_heap_new w _)
 have ad:I [] d:=by rw[<-E];exact G.alloc _ (G.alloc _ h0)
 have a9:Below H.heap.size H d:=by
  rw[<-E];exact a3.trans ((((Below.refl _ w).alloc (znL _) _).alloc sM _).mono a3.size)
 have a4:∀ {A:World} {row:Option Nat},(∀r,row=some r->d.heap.size<=r/\∃o:Obj,A.heap[r]?=some o/\o.isCells=false)->∀r,row=some r->w.heap.size<=r/\∃o:Obj,A.heap[r]?=some o/\o.isCells=false:=λb r e=>⟨by have:=(b r e).1;omega,(b r e).2⟩;have stays:∀ {A B:World} {row:Option Nat} {k:Nat} {o:Obj},A.grownBy B row->(∀r,row=some r->d.heap.size<=r/\∃o:Obj,A.heap[r]?=some o/\o.isCells=false)->k<d.heap.size->A.heap[k]?=some o->B.heap[k]?=some o:=λ{A B row k o} Y b Z ho=>
  (Y.block k (zgE.1 ho).1 (λe=>by have:=(b k e.symm).1;omega)).trans ho
 refine⟨w.heap.size+1,[{target:=.collected w.heap.size,args:=#[]}],d,{target:=.fn (.func gf) lb,args:=#[.func (.yield (w.heap.size+1)) #[] #[]]},d,gf,#[.func (.yield (w.heap.size+1)) #[] #[]]++lb,d,?_,?_,λ_ _=>trivial,?_,λL=>(by cases L),?_⟩
 ·have:=run_enterLoop_outer (P:=P) (w:=w) O a.tmps ps assign body;rw[<-E,F.eq];exact this
 ·simp only[resolve,Y];simp[go_sem]
 ·simp[invoke,go_sem,eg]
 ·refine callsIn_wide.2 ((ah (w.heap.size+1)
   (λpre W=>(I pre W/\W.heap[w.heap.size+1]?=some (.loop (z .ready none)))/\W.heap[w.heap.size]?=some (.deferred (some [])))
   (λpre W=>(∃c,J c pre W/\W.heap[w.heap.size+1]?=some (.loop (z .done (some c))))/\W.heap[w.heap.size]?=some (.deferred (some [])))
   d a9
   (λs A B row j i b=>⟨⟨G s A B row j.1.1 i (a4 b),stays i b oM j.1.2⟩,stays i b oM j.2⟩)
   (λs A B row j i b=>by
    obtain⟨⟨c,hc,q⟩,h⟩:=j;exact⟨⟨c,V c s A B row hc i (a4 b),stays i b oM q⟩,stays i b oM h⟩)
   ?_ ⟨⟨ad,ae⟩,ab⟩).mono ?_)
  ·rintro pre x W ⟨⟨y,q⟩,h⟩ af a0;have dn:∀ {K:List α -> World->Prop},OwnFrom w.heap.size K->OwnFrom (w.heap.size+1) (λs W=>K s W/\W.heap[w.heap.size]?=some (.deferred (some []))):=λhK s A B row j i b=>
    ⟨hK s A B row j.1 i (λr e=>⟨by have:=(b r e).1;omega,(b r e).2⟩),(i.block _ (zgE.1 j.2).1 (λe=>by have:=(b _ e.symm).1;omega)).trans j.2⟩
   refine YieldAt.mono (zfc (P:=P) (m:=0) F (znL _) (show w.heap.size+1<d.heap.size by omega) (encs:=encs) (Kp:=Kp) (λL k=>a6 L k) (λW l o a1 L=>a5 W l o a1 oM) ag (dn G) (λc=>dn (V c)) (a₁:=a₁) (pre:=pre) (x:=x) (Ok:=Ok) (λs A B row j i b=>a7 x s A B row j i (λr e=>⟨by have:=(b r e).1;omega,(b r e).2⟩)) a0 ⟨y,h⟩ q (λW K hK=>a8 _ x W K hK) (λW b ⟨y,h⟩ a0=>wpIn_mono (aa _ pre x W oM b y af a0) ?_)) ?_
   ·rintro e am al f;cases e with
    |normal=>exact⟨Dw oM f.1,f.2.1,f.2.2,f.1.same _ _ (znL _) h rfl⟩
    |ret=>exact⟨Dw oM f.1,f.2,f.1.same _ _ (znL _) h rfl⟩
    |exit id=>exact⟨Dw oM f.1,f.2,f.1.same _ _ (znL _) h rfl⟩
    |goto t=>exact⟨Dw oM f.1,f.2,f.1.same _ _ (znL _) h rfl⟩
    |panic ch=>exact f.elim
    |outgrown=>exact f.elim
   ·rintro e aj ⟨Z,⟨X,⟨⟨R,T⟩,U⟩,h4⟩|⟨X,c,⟨R,T⟩,U⟩⟩
    ·exact⟨Z,.inl ⟨X,⟨⟨R,U⟩,T⟩,h4⟩⟩
    ·exact⟨Z,.inr ⟨X,⟨c,R,U⟩,T⟩⟩
  ·rintro e ak ⟨⟨v,rfl⟩,(⟨M,hS,⟨y,q⟩,h⟩|⟨pre,hSp,⟨c,y,q⟩,h⟩)⟩
   ·refine⟨none,_,by have:=run_endLoop (P:=P) q (by rw[F.eq];simp);rw[F.eq]at this;exact this,ac _ M _ (znL _) hS (G.putObj _ y oM q rfl) ((World.putObj_heap_other oM).trans h)⟩
   ·refine⟨some c,_,by have:=run_endLoop (P:=P) q (by rw[F.eq];simp);rw[F.eq]at this;exact this,ai _ c pre _ (znL _) hSp ((V c).putObj _ y oM q rfl) ((World.putObj_heap_other oM).trans h)⟩
theorem zjk{F:Nat}{X:Loop}(aa :w.heap[F]?=some (.loop X))(M:a.eval g=.func (.func gf) #[] lb)(Z:∀args w,(callFunc gf args).run P w=.ok (.enter gf args) w)
  {encs :α -> Array Value} {Ok :α -> World->Prop} {Kp:World->World->Prop} {S T:List α -> Prop} {N:Nat} {y:World} (ac:zky P gf lb encs Ok Kp S T N y) (a2:∀x,OwnFrom w.heap.size (λ(_:Unit) W=>Ok x W))
  (a1:∀ {A B C:World},Kp A B->Kp B C->Kp A C) (a0:∀(W:World) (l:Nat) (o ae:Obj),w.heap.size<=l->W.heap[l]?=some o->o.isCells=false->o.isWalk=false->Kp W (W.putObj l ae)) (U:Below y.heap.size y w) (ab:∀x,(encs x).size=ps.size)
  (I:List α -> World->Prop) (z:Code->List α -> World->Prop) (D:OwnFrom w.heap.size I) (L:∀c,OwnFrom w.heap.size (z c)) (h0:I [] w) (a₁ :α -> Act)
  (a3:∀(l:Nat) (x :α) (W:World) (K:Act->World->Prop),K (a₁ x) W->assign.wpIn (Fence.wide.inRound l) 0 P (Exit.then K (λ_ _ _=>False)) {tmps:=(ps.zip (encs x)).foldl (λt (p,v)=>t.setIfInBounds p v) a.tmps,defers:=[]} W)
  (a5:∀(l:Nat) (pre:List α) (x :α) (W:World),w.heap.size<=l->(∃r,W.heap[l]?=some (.loop r))->I pre W->pre.length<N->Ok x W->body.wpIn (Fence.wide.inRound l) 0 P (ownPostG w.heap.size Kp I z (pre++[x]) W) (a₁ x) W)
  (a6:∀(G:List α) (W:World),S G->I G W->Q .normal a W)
  (ad:∀(c:Code) (pre:List α) (W:World),T pre->z c pre W->c.wpIn (Fence.wide.inRound F) n P Q a W) :
  (Code.rangeFunc g ps assign body).wpIn (Fence.wide.inRound F) n P Q a w:=by
 refine wpIn_rangeFunc λH _=>?_;obtain⟨i,h⟩:∃i:LoopState->Option Code->Loop,zkz i H a.tmps ps assign body X.defers:=⟨_,⟨rfl⟩⟩;obtain⟨b,q⟩:∃b,w.alloc (.loop (i .ready none))=b:=⟨_,rfl⟩;have z1:b.heap.size=w.heap.size+1:=by rw[<-q];simp
 have a8:b.heap[w.heap.size]?=some (.loop (i .ready none)):=by rw[<-q];exact World.alloc_heap_new w _
 have a7:I [] b:=by rw[<-q];exact D.alloc _ h0
 have a4:Below y.heap.size y b:=by
  rw[<-q];exact U.trans (((Below.refl _ w).alloc (znL _) _).mono U.size)
 have Y:∀ {A:World} {row:Option Nat},(∀r,row=some r->b.heap.size<=r/\∃o:Obj,A.heap[r]?=some o/\o.isCells=false)->∀r,row=some r->w.heap.size<=r/\∃o:Obj,A.heap[r]?=some o/\o.isCells=false:=λd r j=>⟨by have:=(d r j).1;omega,(d r j).2⟩;have stays:∀ {A B:World} {row:Option Nat} {k:Nat} {o:Obj},A.grownBy B row->(∀r,row=some r->b.heap.size<=r/\∃o:Obj,A.heap[r]?=some o/\o.isCells=false)->k<b.heap.size->A.heap[k]?=some o->B.heap[k]?=some o:=λ{A B row k o} M d hk V=>
  (M.block k (zgE.1 V).1 (λj=>by have:=(d k j.symm).1;omega)).trans V
 refine⟨w.heap.size,[],b,{target:=.fn (.func gf) lb,args:=#[.func (.yield w.heap.size) #[] #[]]},b,gf,#[.func (.yield w.heap.size) #[] #[]]++lb,b,?_,?_,λ_ _=>trivial,?_,λJ=>(by cases J),?_⟩
 ·have:=run_enterLoop_inner (P:=P) aa H a.tmps ps assign body;rw[<-q,h.eq];exact this
 ·simp only[resolve,M];simp[go_sem]
 ·simp[invoke,go_sem,Z]
 ·refine CallsIn.inRound F (callsIn_wide.2 ((ac w.heap.size
   (λpre W=>I pre W/\W.heap[w.heap.size]?=some (.loop (i .ready none)))
   (λpre W=>∃c,z c pre W/\W.heap[w.heap.size]?=some (.loop (i .done (some c))))
   b a4
   (λR A B row E s d=>⟨D R A B row E.1 s (Y d),stays s d oM E.2⟩)
   (λR A B row E s d=>by
    obtain⟨c,hc,e⟩:=E;exact⟨c,L c R A B row hc s (Y d),stays s d oM e⟩)
   ?_ ⟨a7,a8⟩).mono ?_))
  ·rintro pre x W ⟨f,e⟩ a9 O;exact zfc (P:=P) (m:=0) h (znL _) (show w.heap.size<b.heap.size by omega) (encs:=encs) (Kp:=Kp) (λJ k=>a1 J k) a0 ab D L (a₁:=a₁) (pre:=pre) (x:=x) (Ok:=Ok) (a2 x) O f e (λW K hK=>a3 _ x W K hK) (λW d f O=>a5 _ pre x W (znL _) d f a9 O)
  ·rintro j af ⟨⟨v,rfl⟩,(⟨G,hS,f,e⟩|⟨pre,hSp,c,f,e⟩)⟩
   ·refine⟨none,_,by have:=run_endLoop (P:=P) e (by rw[h.eq];simp);rw[h.eq]at this;exact this,?_⟩;simpa using a6 G _ hS (D.putObj _ f oM e rfl)
   ·refine⟨some c,_,by have:=run_endLoop (P:=P) e (by rw[h.eq];simp);rw[h.eq]at this;exact this,?_⟩;simpa using ad c pre _ hSp ((L c).putObj _ f oM e rfl)
theorem Gw{β:Type}(B:Nat)(k:Nat)(c:Array Value)(t:TypeId)(m:Nat×Nat):OwnFrom B (λ(_ :β) W=>W.heap[k]?=some (.cells c t m)):=λ_ A C row b h i=>
 (h.block k (zgE.1 b).1 (λe=>by
  obtain⟨_,o,d,f⟩:=i k e.symm;rw[b]at d;cases d;cases f)).trans b
theorem zjl{q d2:Tmp}(R:a.eval g=.func (.func gf) #[] lb)(j:∀args w,(callFunc gf args).run P w=.ok (.enter gf args) w)
  {b d :α -> Value} {Kp:World->World->Prop} {S h:List α -> Prop} {N:Nat} {f:World} (U:SeqO P gf lb (λx=>#[b x,d x]) Kp S h N f)
  (H:∀ {A B C:World},Kp A B->Kp B C->Kp A C) (G:∀(W:World) (l:Nat) (o X:Obj),w.heap.size<=l->W.heap[l]?=some o->o.isCells=false->o.isWalk=false->Kp W (W.putObj l X)) (L:Below f.heap.size f w)
  (I:List α -> World->Prop) (e:Code->List α -> World->Prop) (E:OwnFrom w.heap.size I) (F:∀c,OwnFrom w.heap.size (e c)) (s:I [] w)
  (J:∀(l:Nat) (x :α) (W:World) (K:Act->World->Prop),K {tmps:=(((a.tmps.setIfInBounds p (b x)).setIfInBounds q (d x)).setIfInBounds d1 (b x)).setIfInBounds d2 (d x),defers:=[]} W ->
   assign.wpIn (Fence.wide.inRound l) 0 P (Exit.then K (λ_ _ _=>False)) {tmps:=(a.tmps.setIfInBounds p (b x)).setIfInBounds q (d x),defers:=[]} W)
  (M:∀(l:Nat) (pre:List α) (x :α) (W:World),w.heap.size<=l->(∃r,W.heap[l]?=some (.loop r))->I pre W->pre.length<N->body.wpIn (Fence.wide.inRound l) 0 P (ownPostG w.heap.size Kp I e (pre++[x]) W) {tmps:=(((a.tmps.setIfInBounds p (b x)).setIfInBounds q (d x)).setIfInBounds d1 (b x)).setIfInBounds d2 (d x),defers:=[]} W)
  (O:∀(D:Nat) (i:List α) (W:World),w.heap.size<=D->S i->I i W->W.heap[D]?=some (.deferred (some []))->Q .normal {a with defers:={target:=.collected D,args:=#[]}::a.defers} W)
  (V:∀(D:Nat) (c:Code) (pre:List α) (W:World),w.heap.size<=D->h pre->e c pre W->W.heap[D]?=some (.deferred (some []))->c.wpIn Fence.wide n P Q {a with defers:={target:=.collected D,args:=#[]}::a.defers} W) :
  (Code.rangeFunc g #[p,q] assign body).wpIn Fence.wide n P Q a w:=
 zfd R j U (λ_ _ _ _ _ T _ _=>T) (λm k=>H m k) G L (λ_=>rfl) I e E F s (λx=>{tmps:=(((a.tmps.setIfInBounds p (b x)).setIfInBounds q (d x)).setIfInBounds d1 (b x)).setIfInBounds d2 (d x),defers:=[]})
  (λl x W K hK=>by simpa using J l x W K hK) (λl pre x W t v y z _=>M l pre x W t v y z) O V
theorem zbi(M:a.eval g=.func (.func gf) #[] lb)(i:∀args w,(callFunc gf args).run P w=.ok (.enter gf args) w)
  {b :α -> Value} {Kp:World->World->Prop} {S f:List α -> Prop} {N:Nat} {e:World} (R:SeqO P gf lb (λx=>#[b x]) Kp S f N e)
  (F:∀ {A B C:World},Kp A B->Kp B C->Kp A C) (E:∀(W:World) (l:Nat) (o U:Obj),w.heap.size<=l->W.heap[l]?=some o->o.isCells=false->o.isWalk=false->Kp W (W.putObj l U)) (H:Below e.heap.size e w)
  (I:List α -> World->Prop) (d:Code->List α -> World->Prop) (y:OwnFrom w.heap.size I) (z:∀c,OwnFrom w.heap.size (d c)) (m:I [] w)
  (G:∀(l:Nat) (x :α) (W:World) (K:Act->World->Prop),K {tmps:=(a.tmps.setIfInBounds p (b x)).setIfInBounds d1 (b x),defers:=[]} W ->
   assign.wpIn (Fence.wide.inRound l) 0 P (Exit.then K (λ_ _ _=>False)) {tmps:=a.tmps.setIfInBounds p (b x),defers:=[]} W)
  (J:∀(l:Nat) (pre:List α) (x :α) (W:World),w.heap.size<=l->(∃r,W.heap[l]?=some (.loop r))->I pre W->pre.length<N->body.wpIn (Fence.wide.inRound l) 0 P (ownPostG w.heap.size Kp I d (pre++[x]) W) {tmps:=(a.tmps.setIfInBounds p (b x)).setIfInBounds d1 (b x),defers:=[]} W)
  (L:∀(D:Nat) (h:List α) (W:World),w.heap.size<=D->S h->I h W->W.heap[D]?=some (.deferred (some []))->Q .normal {a with defers:={target:=.collected D,args:=#[]}::a.defers} W)
  (T:∀(D:Nat) (c:Code) (pre:List α) (W:World),w.heap.size<=D->f pre->d c pre W->W.heap[D]?=some (.deferred (some []))->c.wpIn Fence.wide n P Q {a with defers:={target:=.collected D,args:=#[]}::a.defers} W) :
  (Code.rangeFunc g #[p] assign body).wpIn Fence.wide n P Q a w:=
 zfd M i R (λ_ _ _ _ _ O _ _=>O) (λj k=>F j k) E H (λ_=>rfl) I d y z m (λx=>{tmps:=(a.tmps.setIfInBounds p (b x)).setIfInBounds d1 (b x),defers:=[]})
  (λl x W K hK=>by simpa using G l x W K hK) (λl pre x W q s t v _=>J l pre x W q s t v) L T
end
section
open Go.Proofs.Tryz
open Go.RowKit
variable{w:World}{b:Nat}{c0 c1 c2 c3 v1:Value}
theorem zd9(w:World)(b:Nat):
  Calls prog 162 #[.iface 83 (pT b)] w (Dq w []):=by
 have a:=Nu;have c:=Ri;have d:=Rj;have e:=Oe;have f:=Vo;have g:=Ky;have h:=Kz
 go_in;go_wp2_with fail;go_ret;exact⟨Aa _,.inl ⟨rfl,rfl⟩⟩
theorem zg8(c:∃T n,v1=.iface T (pT n))(d:w.heap[b]?=some (.cells #[c0,c1,c2,c3,v1] 235 (0,0))):
  Calls prog 162 #[.iface 215 (pT b)] w (Dq w [v1]):=by
 obtain⟨a,e,rfl⟩:=c;have c0:w.cell? (aD b 4)=some (.iface a (pT e)):=zcR d;have f:=Oq;have g:=Uf;have h:=Ug;have i:=Qd;have j:=Yg;have k:=Ke;have l:=Kf
 go_in;go_wp2_with fail;go_ret;exact⟨zwA _ _ none,.inr ⟨_,rfl,Ac w _⟩⟩
theorem zg9{e:Value}{v2:Value}(f:∃T n,v1=.iface T (pT n))(g:∃T n,v2=.iface T (pT n))(a:w.heap[b]?=some (.cells #[c0,c1,c2,c3,e,v1,v2] 140 (0,0))):
  Calls prog 162 #[.iface 136 (pT b)] w (Dq w [v1,v2]):=by
 obtain⟨c,h,rfl⟩:=f;obtain⟨d,i,rfl⟩:=g;have c0:w.cell? (aD b 5)=some (.iface c (pT h)):=zcR a;have c1:w.cell? (aD b 6)=some (.iface d (pT i)):=zcR a;have j:=Ou;have k:=Uh;have l:=Ui;have m:=Qe;have o:=Yh;have p:=Kg;have q:=Kh
 go_in;go_wp2_with fail;go_region;go_wp2_with fail;go_ret;exact⟨Ad (zwA _ _ none),.inr ⟨_,rfl,Ac w _⟩⟩
theorem Xs(w:World)(b:Nat):Calls prog 58 #[.iface 83 (pT b)] w λe a=>e=.returned (.pointer none)/\w=a:=by
 have c:=Ky;have d:=Kz
 go_in;go_wp2_with fail;go_ret;exact⟨rfl,rfl⟩
theorem Zx(w:World)(b:Nat):Calls prog 58 #[.iface 191 (pT b)] w λe a=>e=.returned (.pointer none)/\w=a:=by
 have c:=J0;have d:=J5
 go_in;go_wp2_with fail;go_ret;exact⟨rfl,rfl⟩
theorem V7(w:World)(b:Nat):Calls prog 58 #[.iface 195 (pT b)] w λe a=>e=.returned (.pointer none)/\w=a:=by
 have c:=Hv;have d:=Hw
 go_in;go_wp2_with fail;go_ret;exact⟨rfl,rfl⟩
theorem Xt(w:World)(b:Nat):Calls prog 58 #[.iface 199 (pT b)] w λe a=>e=.returned (.pointer none)/\w=a:=by
 have c:=I6;have d:=I7
 go_in;go_wp2_with fail;go_ret;exact⟨rfl,rfl⟩
theorem Ti(w:World)(b:Nat):Calls prog 58 #[.iface 204 (pT b)] w λe a=>e=.returned (.pointer none)/\w=a:=by
 have c:=Gb;have d:=Gc
 go_in;go_wp2_with fail;go_ret;exact⟨rfl,rfl⟩
theorem Xu(w:World)(b:Nat):Calls prog 58 #[.iface 207 (pT b)] w λe a=>e=.returned (.pointer none)/\w=a:=by
 have c:=I8;have d:=I9
 go_in;go_wp2_with fail;go_ret;exact⟨rfl,rfl⟩
theorem Xv(w:World)(b:Nat):Calls prog 58 #[.iface 209 (pT b)] w λe a=>e=.returned (.pointer none)/\w=a:=by
 have c:=Ja;have d:=Jc
 go_in;go_wp2_with fail;go_ret;exact⟨rfl,rfl⟩
theorem U9(w:World)(b:Nat):Calls prog 58 #[.iface 211 (pT b)] w λe a=>e=.returned (.pointer none)/\w=a:=by
 have c:=Gu;have d:=Gv
 go_in;go_wp2_with fail;go_ret;exact⟨rfl,rfl⟩
theorem zbj(w:World)(b:Nat):Calls prog 58 #[.iface 213 (pT b)] w λe a=>e=.returned (.pointer none)/\w=a:=by
 have c:=Me;have d:=Mf
 go_in;go_wp2_with fail;go_ret;exact⟨rfl,rfl⟩
theorem Zy(w:World)(b:Nat):Calls prog 58 #[.iface 215 (pT b)] w λe a=>e=.returned (.pointer (some (aD b 2)))/\w=a:=by
 have c:=Ke;have d:=Kf
 go_in;go_wp2_with fail;go_ret;exact⟨rfl,rfl⟩
theorem Zz(w:World)(b:Nat):Calls prog 58 #[.iface 136 (pT b)] w λe a=>e=.returned (.pointer (some (aD b 3)))/\w=a:=by
 have c:=Kg;have d:=Kh
 go_in;go_wp2_with fail;go_ret;exact⟨rfl,rfl⟩
end
end Go.Proofs.YtckhafpejefbbaaGreatDoor
