import Derived.Test.YtckhafpejefbbaaGreatDoorB14
import Derived.Test.YtckhafpejefbbaaGreatDoorB01
import Derived.Test.YtckhafpejefbbaaGreatDoorRows
import Derived.Test.YtckhafpejefbbaaGreatDoorCards
import Derived.Test.YtckhafpejefbbaaGreatDoorTie
import Derived.LaidMore
import Derived.SevenTiedAt

set_option maxRecDepth 100000
set_option maxHeartbeats 4000000
namespace Go.Proofs.YtckhafpejefbbaaGreatDoor
section
open Go.Proofs.Tryz
open Go.ChangeShapes Go.WideShapes Go.ChangeAt Go.RowKit
section
variable{W W':World}
theorem Xm(w:World)(e:TypeId)(s:ByteArray):w.grownBy (Lib.bytesWorld w e s) none:=
 ⟨rfl,rfl,rfl,by rw[Lib.bytesWorld_size];omega,λk a _=>Lib.bytesWorld_at_old w e s k a⟩
theorem zjj(w:World)(k:Nat)(b:Array Obj):w.grownBy (Sort.grow (w.drewN k) b) none:=
 ⟨rfl,rfl,rfl,by simp[Sort.grow],λi a _=>by simp[Sort.grow,Array.getElem?_append,a]⟩
theorem zwk:zv4:=
 {ib:=λs c w=>(Tryz.strings_IndexByte s c w).mono λe d ⟨a,b⟩=>⟨a,b.symm⟩
  pi:=λs j v h w=>(Tryz.strconv_ParseInt_10_at64_ok s oM v h w).mono λe d ⟨a,b⟩=>⟨a,by
   rcases b with rfl|⟨t,rfl⟩
   ·exact Aa _
   ·exact Xm _ _ _⟩
  fi:=λn g a w i=>(Tryz.strconv_FormatInt_10 n g a w i).mono λe d ⟨a,k,l,b⟩=>⟨a,by rw[b];exact zjj _ _ _⟩
  fb:=λf w=>(Tryz.strconv_FormatBool f w).mono λe d ⟨a,b⟩=>⟨by rw[a];cases f<;>rfl,b.symm⟩}
theorem own:ownKnob prog.godebug=none:=kR
theorem zww:(Tryz.prog.globals[1]?).map (λx=>x.type)=some 378:=kR
abbrev zuj:List (String×DataW Unit):=Rows.recursiveRow.laid
theorem zsl(h:laidMetH prog zuj W):Tab W/\1<W.heap.size:=by
 rw[MakeChecks.laidMetH_plain _ _ _ kR]at h;obtain⟨E,⟨p,I,j,m,B,F,v,x,z,s,⟨q,J,k,n,C,G,w,y,A,t,⟨r,L,l,o,D,H,e,f,g,d,_,_⟩,_⟩,_⟩,_,_⟩:=h;obtain rfl:=Option.some.inj (zvk.symm.trans e);obtain rfl:=Option.some.inj (zww.symm.trans f);have i:(Rows.laid_internal_strconv_uint64pow10:DataW Unit)=Lib.tabData .u64 Lib.pow10Tab:=kR;have c:Tab W:=by
  show W.var? Tryz.prog "internal/strconv.uint64pow10"=_;rw[g]
  have:=Lib.cells_of_tab (zs:=Lib.pow10Tab) underlying378 underlying372 kR kR (by rw[<-i];exact d);rw[<-this]
 refine⟨c,?_⟩;rcases yB 1 W.heap.size with b|b
 ·exact b
 ·have a:W.var? Tryz.prog "internal/strconv.uint64pow10"=_:=c;unfold World.var? at a;rw[zvk]at a;simp only[zbS]at a;rw[Array.getElem?_eq_none b]at a;simp at a
theorem zpz(a:Os)(args:Array Value):laidMetH prog zuj ((World.doorLaid prog 62 a).forCall (λ_ _=>0) ⟨#[],args,[]⟩).memory:=
 laidMetH_of_parts3 (fuel:=8) (laidMet_of_run' 8 kR kR) kR kR
theorem Xn(h:zG W W')(b:MemPlace->Prop):W.keptBut W' b:=by
 refine⟨h.os,h.output,λi a=>?_⟩;rw[h.block i a sM];cases W.heap[i]? with
 |none=>trivial
 |some o=>cases o<;>simp
theorem ztr:laidOutB prog=true:=kR
theorem zaj(h:zG W W'):Below W.heap.size W W':=⟨h.os,h.tape,h.output,h.size,λk a=>h.block k a sM⟩
theorem Yy{H:Type}{enc:TypeId×Value->H}{P:Program}(g:laidOutB P=true){W W':World}(i:zG W W'):∀(a:List TypeId) (vs:List Value) (c:List (DataW H)) (e:List MemPlace),
  (a.all λt=>P.readableRec t&&decide (t<P.types.size))=true->(∀x∈e,x.block<W.heap.size)->DataW.TrodAll enc P W 0 (λ_=>true) true a vs c e->DataW.TrodAll enc P W' 0 (λb=>decide (b<W.heap.size)) true a vs c e
 |[],[],[],_,_,_,h=>h
 |t::a,v::vs,d::c,e,hr,hl,h=>by
  obtain⟨p,q,j,k,rfl⟩:=h;simp only[List.all_cons,Bool.and_eq_true,fE]at hr;exact⟨p,q,Below.trod g hr.1.1 hr.1.2 j (zaj i) (λx f=>hl x (zmA.2 (.inl f))),Yy g i a vs c q hr.2 (λx f=>hl x (zmA.2 (.inr f))) k,rfl⟩
 |[],[],_::_,_,_,_,h=>h.elim
 |[],_::_,_,_,_,_,h=>h.elim
 |_::_,[],_,_,_,_,h=>h.elim
 |_::_,_::_,[],_,_,_,h=>h.elim
theorem zjk{H:Type}{enc:TypeId×Value->H}(e:zG W W'){c:List TypeId}{vs:List Value}{d:List (DataW H)}{a:List MemPlace}
  (g:(c.all λt=>prog.readableRec t&&decide (t<prog.types.size))=true) (f:∀x∈a,x.block<W.heap.size) (h:DataW.TrodAll enc prog W 0 (λ_=>true) true c vs d a):DataW.TrodAll enc prog W' 0 (λb=>decide (b<W.heap.size)) true c vs d a:=
 Yy ztr e c vs d a g f h
end
end
namespace Tw
section
open Go
section
variable{ρ τ:Nat->Nat}
def Ty.has(p:Nat):Ty->Prop
 |.var q=>q=p
 |.int=>False
 |.bool=>False
 |.fn a b=>a.has p\/b.has p
 |.pair a b=>a.has p\/b.has p
theorem zk0{ρ τ :Nat->Nat}{r:Nat}(a :τ (ρ r)=r):∀(l:List Nat) (i:Nat),(∀p∈l,τ (ρ p)=p)->idxS (ρ r) (l.map ρ) i=idxS r l i
 |[],i,_=>rfl
 |x::l,i,h=>by
  simp only[List.map_cons,idxS];have c:=h x sM;by_cases e:r=x
  ·rw[mA e,mA (by rw[e])]
  ·rw[jA e,jA (λq=>e (by rw[<-a,q,c])),zk0 a l (i+1) λp b=>h p (by simp[b])]
theorem zsm{r:Nat}(a :τ (ρ r)=r)(l:List Nat)(h:∀p∈l,τ (ρ p)=p):Oi (l.map ρ) (ρ r)=((Oi l r).1,(Oi l r).2.map ρ)/\∀p∈(Oi l r).2,p∈l\/p=r:=by
 unfold Oi;rw[zk0 a l 0 h];cases idxS r l 0 with
 |some i=>grind
 |none=>simp_all
def Rn(ρ :Nat->Nat)(s:List Nat×zU):List Nat×zU:=(s.1.map ρ,s.2)
theorem zc0(ρ :Nat->Nat)(a:Ty):(a.sub λp=>.var (ρ p)).tsort=a.tsort:=by cases a<;>rfl
def zuk(ρ τ :Nat->Nat)(a:Ty):Prop:=∀(s:List Nat×zU),(∀p,p∈s.1\/a.has p -> τ (ρ p)=p) ->
 wrT (a.sub λp=>.var (ρ p)) (Rn ρ s)=Rn ρ (wrT a s)/\∀p∈(wrT a s).1,p∈s.1\/a.has p
theorem zec{a:Ty}(h:zuk ρ τ a)(b:Bool)(s:List Nat×zU)(c:∀p,p∈s.1\/a.has p -> τ (ρ p)=p):
  brk b (wrT (a.sub λp=>.var (ρ p))) (Rn ρ s)=Rn ρ (brk b (wrT a) s)/\∀p∈(brk b (wrT a) s).1,p∈s.1\/a.has p:=by
 cases b with
 |false=>exact h s c
 |true=>
  obtain⟨d,e⟩:=h (s.1,Ei 400 s.2 [40]) c;simp only[brk,if_true];refine⟨?_,e⟩;have:((Rn ρ s).1,Ei 400 (Rn ρ s).2 [40])=Rn ρ (s.1,Ei 400 s.2 [40]):=rfl;rw[this,d];rfl
theorem zuv(ρ τ :Nat->Nat):∀a:Ty,zuk ρ τ a:=by
 intro a
 induction a with
 |var q=>
  intro s f;simp only[Ty.sub,wrT];have e:(Rn ρ s).2=s.2:=rfl;rw[e];by_cases d:400<s.2.length
  ·grind
  ·rw[jA d,jA d];obtain⟨h,g⟩:=zsm (ρ:=ρ) (τ:=τ) (f q (.inr rfl)) s.1 λp c=>f p (.inl c);have:(Rn ρ s).1=s.1.map ρ:=rfl;rw[this,h];exact⟨rfl,λp c=>(g p c).imp id λe=>e.symm⟩
 |int=>
  intro s f;simp only[Ty.sub,wrT];have e:(Rn ρ s).2=s.2:=rfl;rw[e];by_cases d:400<s.2.length
  ·grind
  ·rw[jA d,jA d];exact⟨rfl,λp c=>.inl c⟩
 |bool=>
  intro s f;simp only[Ty.sub,wrT];have e:(Rn ρ s).2=s.2:=rfl;rw[e];by_cases d:400<s.2.length
  ·grind
  ·rw[jA d,jA d];exact⟨rfl,λp c=>.inl c⟩
 |fn a b iha ihb=>
  intro s f;simp only[Ty.sub,wrT,zc0];have e:(Rn ρ s).2=s.2:=rfl;rw[e];by_cases d:400<s.2.length
  ·grind
  ·rw[jA d,jA d];obtain⟨h,g⟩:=zec iha (a.tsort==3) s λp c=>f p (c.imp id .inl);rw[h];obtain⟨i,j⟩:=ihb ((brk (a.tsort==3) (wrT a) s).1,Ei 400 (brk (a.tsort==3) (wrT a) s).2 [32,45,62,32]) λp c=>f p (c.elim (λq=>(g p q).imp id .inl) λq=>.inr (.inr q));exact⟨i,λp c=>(j p c).elim (λq=>(g p q).imp id .inl) λq=>.inr (.inr q)⟩
 |pair a b iha ihb=>
  intro s f;simp only[Ty.sub,wrT,zc0];have e:(Rn ρ s).2=s.2:=rfl;rw[e];by_cases d:400<s.2.length
  ·grind
  ·rw[jA d,jA d];obtain⟨h,g⟩:=zec iha (a.tsort==3||a.tsort==4) s λp c=>f p (c.imp id .inl);rw[h];obtain⟨i,j⟩:=zec ihb (b.tsort==3||b.tsort==4) ((brk (a.tsort==3||a.tsort==4) (wrT a) s).1,Ei 400 (brk (a.tsort==3||a.tsort==4) (wrT a) s).2 [32,42,32]) λp c=>f p (c.elim (λq=>(g p q).imp id .inl) λq=>.inr (.inr q));exact⟨i,λp c=>(j p c).elim (λq=>(g p q).imp id .inl) λq=>.inr (.inr q)⟩
theorem Si{σ τ :Nat->Ty}:∀ {a:Ty},(a.sub σ).sub τ=a->∀p,a.has p->∃q,σ p=.var q /\ τ q=.var p
 |.var r,h,p,hp=>by
  cases hp;simp only[Ty.sub]at h;cases c :σ r with
  |var q=>rw[c]at h;exact⟨q,rfl,h⟩
  |int=>rw[c]at h;cases h
  |bool=>rw[c]at h;cases h
  |fn _ _=>rw[c]at h;cases h
  |pair _ _=>rw[c]at h;cases h
 |.int,_,_,hp=>hp.elim
 |.bool,_,_,hp=>hp.elim
 |.fn a b,h,p,hp=>by
  simp only[Ty.sub,Ty.fn.injEq]at h;exact hp.elim (Si h.1 p) (Si h.2 p)
 |.pair a b,h,p,hp=>by
  simp only[Ty.sub,Ty.pair.injEq]at h;exact hp.elim (Si h.1 p) (Si h.2 p)
theorem Py{σ τ :Nat->Ty}:∀ {a:Ty},(∀p,a.has p -> σ p=τ p)->a.sub σ=a.sub τ
 |.var r,h=>h r rfl
 |.int,_=>rfl
 |.bool,_=>rfl
 |.fn a b,h=>by
  simp only[Ty.sub];rw[Py (a:=a) λp c=>h p (.inl c),Py (a:=b) λp c=>h p (.inr c)]
 |.pair a b,h=>by
  simp only[Ty.sub];rw[Py (a:=a) λp c=>h p (.inl c),Py (a:=b) λp c=>h p (.inr c)]
def Ty.idx:Ty->Nat
 |.var q=>q
 |_=>0
theorem zjl{σ τ:Nat->Ty}{a b:Ty}(e:b=a.sub σ)(i:a=b.sub τ):b.shown=a.shown:=by
 have f:=Si (σ:=σ) (τ:=τ) (a:=a) (by rw[<-e,<-i]);have g:b=a.sub λp=>.var (σ p).idx:=by
  rw[e];refine Py λp c=>?_;obtain⟨q,d,_⟩:=f p c;rw[d];rfl
 unfold Ty.shown
 have:=(zuv (λp=>(σ p).idx) (λq=>(τ q).idx) a ([],[]) (λp c=>by
  rcases c with c|c
  ·cases c
  ·obtain⟨q,d,j⟩:=f p c;simp only[d,Ty.idx,j])).1
 rw[g];have h:Rn (λp=>(σ p).idx) ([],[])=(([],[]):List Nat×zU):=rfl;rw[h]at this;rw[this];rfl
theorem V0:∀a:Ty,a=a.sub .var
 |.var _=>rfl
 |.int=>rfl
 |.bool=>rfl
 |.fn a b=>by simp only[Ty.sub];rw[<-V0 a,<-V0 b]
 |.pair a b=>by simp only[Ty.sub];rw[<-V0 a,<-V0 b]
theorem Ws.typ{t:T}{a:Ty}(h:Ws t a):Typ t .nil a:=(h a).2 ⟨.var,V0 a⟩
theorem zjm{d e:T}{a1 a2:Ty}(a:Ws d a1)(c:Ws e a2)(h:∀b,Typ d .nil b↔Typ e .nil b):a2.shown=a1.shown:=by
 have i:=a.typ;have j:=c.typ;obtain⟨k,f⟩:=(a a2).1 ((h a2).2 j);obtain⟨l,g⟩:=(c a1).1 ((h a1).1 i);exact zjl f g
end
section
variable{bud:Nat}{e:Cr}{st:RS}
theorem Yz(bud:Nat):∀(n:Nat) {t:T} {e:Cr} {st:RS} {r:Option Val×RS},A9 bud n t e st=some r->A9 bud (n+1) t e st=some r
 |0,t,e,st,r,h=>by simp[A9]at h
 |n+1,t,e,st,r,h=>by
  have b:∀ {t:T} {e:Cr} {st:RS} {r:Option Val×RS},A9 bud n t e st=some r->A9 bud (n+1) t e st=some r:=λh=>Yz bud n h;have j:∀ {l r:T} {e:Cr} {st:RS} {c:Option (Val×Val)×RS},Lw bud n l r e st=some c->Lw bud (n+1) l r e st=some c:=by
   intro l r e st c h;unfold Lw at h ⊢;obtain⟨f,a,h⟩:=zbE.1 h;rw[b a,zbS];obtain⟨g,k⟩:=f;cases g with
   |none=>exact h
   |some x=>
    simp only at h ⊢;obtain⟨m,z,h⟩:=zbE.1 h;rw[b z,zbS];exact h
  cases t with
  |name fr to x=>rw[A9]at h ⊢;exact h
  |int fr to v=>rw[A9]at h ⊢;exact h
  |Ak fr to v=>rw[A9]at h ⊢;exact h
  |side fr to v=>rw[A9]at h ⊢;exact h
  |fn fr to bn bat m=>rw[A9]at h ⊢;exact h
  |bracket fr to i=>rw[A9]at h ⊢;exact b h
  |pair fr to x y=>
   rw[Np]at h ⊢;obtain⟨c,a,h⟩:=zbE.1 h;rw[j a,zbS];exact h
  |binary fr to s x y=>
   rw[Jy]at h ⊢;obtain⟨c,a,h⟩:=zbE.1 h;rw[j a,zbS];exact h
  |call fr to x y=>
   rw[Gg]at h ⊢;obtain⟨c,a,h⟩:=zbE.1 h;rw[j a,zbS];obtain⟨o,A⟩:=c;cases o with
   |none=>exact h
   |some p=>
    obtain⟨w,f⟩:=p;simp only at h ⊢;unfold St at h ⊢;cases w with
    |clo _ _ bn _ body env=>
     simp only at h ⊢;split at h
     ·rename_i q;rw[mA q];exact h
     ·rename_i q;rw[jA q];exact b h
    |num _=>exact h
    |Ak _=>exact h
    |side _=>exact h
    |pair _ _=>exact h
  |cond fr to c x y=>
   rw[A9]at h ⊢;obtain⟨f,a,h⟩:=zbE.1 h;rw[b a,zbS];obtain⟨g,k⟩:=f;cases g with
   |none=>exact h
   |some v=>
    simp only at h ⊢;split at h
    ·rename_i q;rw[mA q];exact b h
    ·rename_i q;rw[jA q];exact b h
  |Am fr to rc bn bat d m=>
   rw[A9]at h ⊢;obtain⟨f,a,h⟩:=zbE.1 h;rw[b a,zbS];obtain⟨g,k⟩:=f;cases g with
   |none=>exact h
   |some v=>exact b h
theorem Er{n k:Nat}(b:n<=k){t:T}{r:Option Val×RS}(h:A9 bud n t e st=some r):A9 bud k t e st=some r:=by
 induction k with
 |zero=>rw[show n=0 from oM]at h;exact h
 |succ k ih=>
  rcases yB n (k+1)with a|a
  ·exact Yz bud k (ih oM)
  ·rw[show n=k+1 from oM]at h;exact h
def T.fit:T->Prop
 |.name ..|.Ak ..|.side .. =>True
 |.int _ _ v=>-9223372036854775808<=v/\v<=9223372036854775807
 |.bracket _ _ i=>i.fit
 |.pair _ _ x y=>x.fit/\y.fit
 |.call _ _ x y=>x.fit/\y.fit
 |.binary _ _ _ x y=>x.fit/\y.fit
 |.cond _ _ x y z=>x.fit/\y.fit/\z.fit
 |.fn _ _ _ _ x=>x.fit
 |.Am _ _ _ _ _ x y=>x.fit/\y.fit
def OkE(N:Nat)(e:Cr):Prop:=∀p∈e,p.2<N
def OkV(N:Nat):Val->Prop
 |.num _|.Ak _|.side _=>True
 |.pair l r=>OkV N l/\OkV N r
 |.clo _ _ bn _ body env=>body.freeS (bn::env.map (·.1))=none/\body.fit/\OkE N env
theorem OkE.mono{N M:Nat}(h:N<=M)(k:OkE N e):OkE M e:=λp a=>aB (k p a) h
theorem OkV.mono{N M:Nat}(h:N<=M):∀ {v:Val},OkV N v->OkV M v
 |.num _,_=>trivial
 |.Ak _,_=>trivial
 |.side _,_=>trivial
 |.pair _ _,k=>⟨OkV.mono h k.1,OkV.mono h k.2⟩
 |.clo _ _ _ _ _ _,k=>⟨k.1,k.2.1,k.2.2.mono h⟩
def OkS(st:RS):Prop:=∀v,some v∈st.Al->OkV st.Al.length v
theorem zc1{x:zU}:∀ {e:Cr},(e.map (·.1)).contains x=true->∃p∈e,Gw e x=some p.2
 |[],h=>by simp at h
 |(n,k)::o,h=>by
  by_cases a:n=x
  ·exact⟨(n,k),sM,by simp[Gw,a]⟩
  ·simp only[List.map_cons,List.contains_cons,Bool.or_eq_true,beq_iff_eq]at h;obtain⟨p,b,e⟩:=zc1 (h.resolve_left λq=>a q.symm);exact⟨p,by simp[b],by simp[Gw,a,e]⟩
structure Up(bud:Nat)(st:RS)(a:Option Val×RS):Prop where
 Al:OkS a.2
 val:∀v,a.1=some v->OkV a.2.Al.length v
 len:st.Al.length<=a.2.Al.length
 up:st.steps<=a.2.steps
 top:a.2.steps<=bud
theorem Up.trans{st':RS}{a:Option Val×RS}(h:st.Al.length<=st'.Al.length)(b:st.steps<=st'.steps)(k:Up bud st' a):Up bud st a:=⟨k.Al,k.val,kB h k.len,kB b k.up,k.top⟩
def Ans(bud:Nat)(t:T)(e:Cr)(st:RS):Prop:=∃n a,A9 bud n t e st=some a/\Up bud st a
theorem zm9(s a b:Int)(h:OkS st)(f:st.steps<=bud):Up bud st (Dj s a b st):=by
 have c:∀v:Val,OkV st.Al.length v->Up bud st (some v,st):=λv g=>⟨h,λw d=>by cases d;exact g,znL _,znL _,f⟩;unfold Dj;split
 ·exact c _ trivial
 split
 ·exact c _ trivial
 split
 ·exact c _ trivial
 split
 ·exact c _ trivial
 split
 ·exact c _ trivial
 split
 ·exact⟨h,λw d=>(by cases d),znL _,znL _,f⟩
 ·exact c _ trivial
theorem zsn(bud:Nat):∀(k:Nat) (t:T) (e:Cr) (st:RS),st.steps<=bud->bud-st.steps<=k->t.freeS (e.map (·.1))=none->t.fit->OkE st.Al.length e->OkS st->Ans bud t e st:=by
 intro k
 induction k using Nat.strongRecOn with
 |_ k IH=>
 have S:∀(I J:T),(∀(e:Cr) (st:RS),st.steps<=bud->bud-st.steps<=k->I.freeS (e.map (·.1))=none->I.fit->OkE st.Al.length e->OkS st->Ans bud I e st)->(∀(e:Cr) (st:RS),st.steps<=bud->bud-st.steps<=k->J.freeS (e.map (·.1))=none->J.fit->OkE st.Al.length e->OkS st->Ans bud J e st) ->
   ∀(e:Cr) (st:RS),st.steps<=bud->bud-st.steps<=k->I.freeS (e.map (·.1))=none->J.freeS (e.map (·.1))=none->I.fit->J.fit->OkE st.Al.length e->OkS st ->
   ∃n c,(∀N,n<=N->Lw bud N I J e st=some c)/\Up bud st (none,c.2)/\∀x y,c.1=some (x,y)->OkV c.2.Al.length x/\OkV c.2.Al.length y:=by
  intro I J P hr e st g m a b h f h7 h8;obtain⟨n1,⟨L,z⟩,U,E⟩:=P e st g m a h h7 h8;cases L with
  |none=>
   refine⟨n1,(none,z),λN V=>?_,E,λx y q=>by cases q⟩;unfold Lw;rw[Er V U];rfl
  |some x=>
   have w:=E.up;obtain⟨D,⟨b1,b2⟩,C,A⟩:=hr e z E.top (by simp only at w;omega) b f (h7.mono E.len) E.Al;cases b1 with
   |none=>
    refine⟨max n1 D,(none,b2),λN V=>?_,A.trans E.len E.up,λx y q=>by cases q⟩;unfold Lw;rw[Er oM U];simp only[zbS];rw[Er oM C];rfl
   |some y=>
    refine⟨max n1 D,(some (x,y),b2),λN V=>?_,?_,λa4 a5 q=>?_⟩
    ·unfold Lw;rw[Er oM U];simp only[zbS];rw[Er oM C];rfl
    ·have:=A.trans E.len E.up;exact⟨this.Al,λv q=>(by cases q),this.len,this.up,this.top⟩
    ·cases q;exact⟨(E.val x rfl).mono A.len,A.val y rfl⟩
 intro t
 induction t with
 |name fr to x=>
  intro e st g m a b h f;simp only[T.freeS]at a;split at a
  ·rename_i Z;obtain⟨p,B,P⟩:=zc1 Z;have a1:=h p B;have hg:st.Al[p.2]?=some st.Al[p.2]:=fA a1;cases W:st.Al[p.2]with
   |none=>
    refine⟨1,(none,{st with fin:=1}),?_,⟨f,λv q=>(by cases q),znL _,znL _,g⟩⟩;simp only[A9];rw[P];simp only[zbS];rw[hg,W]
   |some v=>
    refine⟨1,(some v,st),?_,⟨f,λF q=>by cases q;exact f v (by rw[<-W];exact List.getElem_mem a1),znL _,znL _,g⟩⟩;simp only[A9];rw[P];simp only[zbS];rw[hg,W]
  ·cases a
 |int fr to v=>
  intro e st g m a b h f;exact⟨1,(some (.num v),st),by simp only[A9];rw[mA (show -9223372036854775808<=v/\v<=9223372036854775807 from b)],⟨f,λF q=>(by cases q;exact trivial),znL _,znL _,g⟩⟩
 |Ak fr to v=>
  intro e st g m a b h f;exact⟨1,(some (.Ak v),st),rfl,⟨f,λF q=>(by cases q;exact trivial),znL _,znL _,g⟩⟩
 |side fr to v=>
  intro e st g m a b h f;exact⟨1,(some (.side v),st),rfl,⟨f,λF q=>(by cases q;exact trivial),znL _,znL _,g⟩⟩
 |fn fr to bn bat H ih=>
  intro e st g m a b h f;exact⟨1,(some (.clo fr to bn bat H e),st),rfl,⟨f,λF q=>(by cases q;exact⟨a,b,h⟩),znL _,znL _,g⟩⟩
 |bracket fr to i ih=>
  intro e st g m a b h f;obtain⟨n,O,j,o⟩:=ih e st g m a b h f;exact⟨n+1,O,by simp only[A9];exact j,o⟩
 |pair fr to x y ihx ihy=>
  intro e st g m a b h f;simp only[T.freeS,Option.or_eq_none_iff]at a;obtain⟨n,⟨M,l⟩,j,o,r⟩:=S x y ihx ihy e st g m a.1 a.2 b.1 b.2 h f;cases M with
  |none=>exact⟨n+1,(none,l),by rw[Np,j n (znL _)];rfl,o⟩
  |some p=>
   obtain⟨w,v⟩:=p;exact⟨n+1,(some (.pair w v),l),by rw[Np,j n (znL _)];rfl,⟨o.Al,λF q=>(by cases q;exact r w v rfl),o.len,o.up,o.top⟩⟩
 |binary fr to s x y ihx ihy=>
  intro e st g m a b h f;simp only[T.freeS,Option.or_eq_none_iff]at a;obtain⟨n,⟨M,l⟩,j,o,r⟩:=S x y ihx ihy e st g m a.1 a.2 b.1 b.2 h f;cases M with
  |none=>exact⟨n+1,(none,l),by rw[Jy,j n (znL _)];rfl,o⟩
  |some p=>
   obtain⟨w,v⟩:=p;exact⟨n+1,_,by rw[Jy,j n (znL _)];rfl,(zm9 s (Um w) (Um v) o.Al o.top).trans o.len o.up⟩
 |call fr to x y ihx ihy=>
  intro e st g m a b h f;simp only[T.freeS,Option.or_eq_none_iff]at a;obtain⟨n,⟨M,l⟩,j,o,r⟩:=S x y ihx ihy e st g m a.1 a.2 b.1 b.2 h f;cases M with
  |none=>exact⟨n+1,(none,l),by rw[Gg,j n (znL _)];rfl,o⟩
  |some p=>
   obtain⟨w,v⟩:=p;obtain⟨X,Y⟩:=r w v rfl;have G:∀st':RS,st'.Al=l.Al->st'.steps=l.steps->Up bud st (none,st'):=λst' q1 q2=>
    ⟨by have:=o.Al;unfold OkS at this ⊢;simp only at this ⊢;rw[q1];exact this,λF q=>(by cases q),by have:=o.len;simp only at this ⊢;rw[q1];exact this,by have:=o.up;simp only at this ⊢;rw[q2];exact this,by have:=o.top;simp only at this ⊢;rw[q2];exact this⟩
   cases w with
   |clo f1 t1 bn bat body env=>
    by_cases hb:l.steps=bud
    ·refine⟨n+1,(none,{l with fin:=2}),?_,G _ rfl rfl⟩;rw[Gg,j n (znL _)];simp only[zbS,St];rw[mA hb]
    ·have t1:=o.top;have u1:=o.up;simp only at t1 u1;obtain⟨D,O,C,A⟩:=IH (k-1) oM body ((bn,l.Al.length)::env) {l with Al:=l.Al++[some v],steps:=l.steps+1} (by simp only;omega) (by simp only;omega) X.1 X.2.1 (by
       intro p B;simp only[eA,wB];simp only[zmC]at B;rcases B with rfl|B
       ·simp
       ·exact Nat.lt_succ_of_lt (X.2.2 p B)) (by
       intro F Q;simp only[eA,wB,zmA,xB,zsI]at Q ⊢;rcases Q with Q|rfl
       ·exact(o.Al F Q).mono sM
       ·exact Y.mono sM)
     refine⟨max n D+1,O,?_,(A.trans (st:=l) sM sM).trans o.len o.up⟩;rw[Gg,j _ oM];simp only[zbS,St];rw[jA hb];exact Er oM C
   |num _=>exact⟨n+1,(none,l),by rw[Gg,j n (znL _)];rfl,G _ rfl rfl⟩
   |Ak _=>exact⟨n+1,(none,l),by rw[Gg,j n (znL _)];rfl,G _ rfl rfl⟩
   |pair _ _=>exact⟨n+1,(none,l),by rw[Gg,j n (znL _)];rfl,G _ rfl rfl⟩
   |side s=>
    refine⟨n+1,(zbg v s,l),by rw[Gg,j n (znL _)];rfl,?_⟩;cases v with
    |pair O H=>
     refine⟨o.Al,λF q=>?_,o.len,o.up,o.top⟩;simp only[zbg,zsI]at q;subst q;split
     ·exact Y.2
     ·exact Y.1
    |num _=>exact G _ rfl rfl
    |Ak _=>exact G _ rfl rfl
    |side _=>exact G _ rfl rfl
    |clo _ _ _ _ _ _=>exact G _ rfl rfl
 |cond fr to c x y ihc ihx ihy=>
  intro e st g m a b h f;simp only[T.freeS,Option.or_eq_none_iff]at a;obtain⟨n,⟨L,z⟩,j,o⟩:=ihc e st g m a.1.1 b.1 h f;have w:=o.up;simp only at w;cases L with
  |none=>exact⟨n+1,(none,z),by simp only[A9];rw[j];rfl,o⟩
  |some v=>
   by_cases r:v=.Ak true
   ·obtain⟨D,H,C,A⟩:=ihx e z o.top oM a.1.2 b.2.1 (h.mono o.len) o.Al;refine⟨max n D+1,H,?_,A.trans o.len o.up⟩;simp only[A9];rw[Er oM j];simp only[zbS];rw[mA r];exact Er oM C
   ·obtain⟨D,H,C,A⟩:=ihy e z o.top oM a.2 b.2.2 (h.mono o.len) o.Al;refine⟨max n D+1,H,?_,A.trans o.len o.up⟩;simp only[A9];rw[Er oM j];simp only[zbS];rw[jA r];exact Er oM C
 |Am fr to rc bn bat d H ihd ihb=>
  intro e st g m a b h f;simp only[T.freeS,Option.or_eq_none_iff]at a;have a0:∀R,st.Al.length<R->OkE R ((bn,st.Al.length)::e):=λR a2 p B=>by
   simp only[zmC]at B;rcases B with rfl|B
   ·exact a2
   ·have:=h p B;omega
  have a3:OkS {st with Al:=st.Al++[none]}:=λv r=>by
   simp only[zmA,xB,reduceCtorEq,or_false]at r;exact(f v r).mono sM
  obtain⟨n,⟨L,z⟩,j,o⟩:=ihd (if rc then(bn,st.Al.length)::e else e) {st with Al:=st.Al++[none]} g m (by
   cases rc with
   |true=>exact a.1
   |false=>exact a.1) b.1 (by
   cases rc with
   |true=>exact a0 _ sM
   |false=>exact h.mono sM) a3
  have w:=o.up;have ln:=o.len;simp only[eA,wB]at w ln;cases L with
  |none=>exact⟨n+1,(none,z),by simp only[A9];rw[j];rfl,Up.trans (st':={st with Al:=st.Al++[none]}) sM (znL _) o⟩
  |some x=>
   have Z:=o.val x rfl;obtain⟨D,c,C,A⟩:=ihb ((bn,st.Al.length)::e) {z with Al:=z.Al.set st.Al.length (some x)} o.top (by simp only;omega) a.2 b.2 (a0 _ (by simp;omega)) (λv r=>by
    simp only[jB];rcases List.mem_or_eq_of_mem_set r with r|r
    ·exact o.Al v r
    ·cases r;exact Z)
   refine⟨max n D+1,c,?_,Up.trans (st':={z with Al:=z.Al.set st.Al.length (some x)}) (by simp;omega) w A⟩;simp only[A9];rw[Er oM j];simp only[zbS];exact Er oM C
theorem zso{t:T}(b:t.freeS []=none)(hi:t.fit)(bud:Nat):∃n r,zfc n t bud=some r:=by
 obtain⟨n,⟨a,f⟩,g,_⟩:=zsn bud bud t [] ⟨[],0,0⟩ (yD _) (Nat.sub_le _ _) b hi (λp c=>by cases c) (λv d=>by cases d);cases a with
 |none=>exact⟨n,_,by unfold zfc;rw[g];rfl⟩
 |some v=>exact⟨n,_,by unfold zfc;rw[g];rfl⟩
end
section
structure zrh(l:List UInt8)(P:T->Prop):Prop where
 leaf:∀ {t:Tok} {x:T},Lv l t=some x->P x
 none:P (.name 0 0 [])
 bracket:∀ {f t:Nat} {x:T},P x->P (.bracket f t x)
 pair:∀ {f t:Nat} {x y:T},P x->P y->P (.pair f t x y)
 call:∀ {f t:Nat} {x y:T},P x->P y->P (.call f t x y)
 binary:∀ {f t:Nat} {s:Int} {x y:T},P x->P y->P (.binary f t s x y)
 cond:∀ {f t:Nat} {x y z:T},P x->P y->P z->P (.cond f t x y z)
 fn:∀ {f t k:Nat} {n:List UInt8} {x:T},P x->P (.fn f t n k x)
 Am:∀ {f t k:Nat} {r:Bool} {n:List UInt8} {x y:T},P x->P y->P (.Am f t r n k x y)
variable {l:List UInt8}{ts:List Tok}
variable{n:Nat}{t:T}
structure zvm(l:List UInt8)(ts:List Tok)(P:T->Prop)(n:Nat):Prop where
 expr:∀ {s s':PS} {r:T},Cg l ts n s=some (r,s')->P r
 Am:∀ {s s':PS} {r:T},Oh l ts n s=some (r,s')->P r
 fn:∀ {s s':PS} {r:T},Oj l ts n s=some (r,s')->P r
 cond:∀ {s s':PS} {r:T},Ie l ts n s=some (r,s')->P r
 cmp:∀ {s s':PS} {r:T},Kk l ts n s=some (r,s')->P r
 sum:∀ {s s':PS} {r:T},Kj l ts n s=some (r,s')->P r
 term:∀ {s s':PS} {r:T},Ha l ts n s=some (r,s')->P r
 part:∀ {p:Part} {s s':PS} {r:T},Dw l ts n p s=some (r,s')->P r
 chain:∀ {p:Part} {g:List Int} {s s':PS} {r:T},Ed l ts n p g s=some (r,s')->P r
 Ch:∀ {p:Part} {g:List Int} {a:T} {s s':PS} {r:T},P a->Bd l ts n p g a s=some (r,s')->P r
 call:∀ {s s':PS} {r:T},Gv l ts n s=some (r,s')->P r
 Dx:∀ {a:T} {s s':PS} {r:T},P a->Bh l ts n a s=some (r,s')->P r
 atom:∀ {s s':PS} {r:T},Ev l ts n s=some (r,s')->P r
 bracket:∀ {s s':PS} {r:T},Cd l ts n s=some (r,s')->P r
theorem zk1{P:T->Prop}(K:zrh l P):∀n,zvm l ts P n
 |0=>by constructor<;>(intros;rename_i h;simp[Cg,Oh,Oj,Ie,Kk,Kj,Ha,Dw,Ed,Bd,Gv,Bh,Ev,Cd]at h)
 |n+1=>by
  have a:=zk1 K n;constructor
  case expr=>
   intro s d r h;rw[Cg]at h;obtain⟨t,_,h⟩:=zbE.1 h;split at h
   ·exact a.Am h
   split at h
   ·exact a.fn h
   split at h
   ·exact a.cond h
   ·exact a.cmp h
  case Am=>
   intro s d r h;simp only[Oh,zbE,zsI,zpI,uB]at h;obtain⟨k,g,e,Q,v,b,F,bat,j,f,G,z,m,H,w,i,O,A,q,x,R,J,D,C,rfl,rfl⟩:=h;exact K.Am (a.expr i) (a.expr J)
  case fn=>
   intro s d r h;simp only[Oj,zbE,zsI,zpI,uB]at h;obtain⟨k,g,e,F,bat,j,f,G,z,m,H,w,i,D,C,rfl,rfl⟩:=h;exact K.fn (a.expr i)
  case cond=>
   intro s d r h;simp only[Ie,zbE,zsI,zpI,uB]at h;obtain⟨k,g,e,x,v,b,N,j,f,E,z,m,B,w,i,S,A,q,D,C,rfl,rfl⟩:=h;exact K.cond (a.expr b) (a.expr m) (a.expr q)
  case cmp=>
   intro s d r h;simp only[Kk,zbE,uB]at h;obtain⟨x,g,e,M,v,b,h⟩:=h;split at h
   ·cases h;exact a.sum e
   ·simp only[zbE,zsI,zpI,uB]at h;obtain⟨E,j,f,rfl,rfl⟩:=h;exact K.binary (a.sum e) (a.sum f)
  case sum=>
   intro s d r h;rw[Kj]at h;exact a.chain h
  case term=>
   intro s d r h;rw[Ha]at h;exact a.chain h
  case part=>
   intro p s d r h;cases p with
   |term=>rw[Dw]at h;exact a.term h
   |call=>rw[Dw]at h;exact a.call h
  case chain=>
   intro p I s d r h;simp only[Ed,zbE,uB]at h;obtain⟨y,g,e,b⟩:=h;exact a.Ch (a.part e) b
  case Ch=>
   intro p I y s d r o h;simp only[Bd,zbE,uB]at h;obtain⟨k,g,e,h⟩:=h;split at h
   ·cases h;exact o
   ·simp only[zbE,uB]at h;obtain⟨c,v,b,f⟩:=h;exact a.Ch (K.binary o (a.part b)) f
  case call=>
   intro s d r h;simp only[Gv,zbE,uB]at h;obtain⟨y,g,e,b⟩:=h;exact a.Dx (a.atom e) b
  case Dx=>
   intro y s d r o h;simp only[Bh,zbE]at h;obtain⟨t,L,h⟩:=h;split at h
   ·simp only[zbE,uB]at h;obtain⟨c,j,b,f⟩:=h;exact a.Dx (K.call o (a.atom b)) f
   ·cases h;exact o
  case atom=>
   intro s d r h;simp only[Ev,zbE]at h;obtain⟨t,L,h⟩:=h;split at h
   ·exact a.bracket h
   split at h
   ·simp only[zbE,zsI,zpI,uB]at h;obtain⟨c,j,b,x,f,rfl,rfl⟩:=h;exact K.leaf f
   ·simp only[zbE,zsI,zpI]at h;obtain⟨_,b,rfl,rfl⟩:=h;exact K.none
  case bracket=>
   intro s d r h;simp only[Cd,zbE,uB]at h;obtain⟨k,g,e,x,v,b,M,j,f,h⟩:=h;split at h
   ·simp only[zbE,zsI,zpI,uB]at h;obtain⟨E,z,m,B,w,i,A,q,rfl,rfl⟩:=h;exact K.pair (a.expr b) (a.expr m)
   ·simp only[zbE,zsI,zpI,uB]at h;obtain⟨B,w,i,A,q,rfl,rfl⟩:=h;exact K.bracket (a.expr b)
theorem zna{P:T->Prop}(K:zrh l P)(h:Gj l ts n=some (.ok t)):P t:=by
 unfold Gj at h;obtain⟨⟨x,s⟩,a,h⟩:=zbE.1 h;obtain⟨r,_,h⟩:=zbE.1 h;simp only[zsI]at h;split at h
 ·cases h
 ·cases h;exact(zk1 K n).expr a
theorem Ri{l:zU}{v:Int}(h:Lib.parseIntB 64 l=.ok v):-9223372036854775808<=v/\v<=9223372036854775807:=by
 unfold Lib.parseIntB at h;split at h
 ·cases h
 ·simp only at h;split at h
  ·cases h
  ·cases h
  ·split at h
   ·cases h
   ·split at h
    ·cases h
    ·rename_i a b;cases h;split<;>omega
theorem znb(l:zU):zrh l T.fit where
 leaf:=by
  intro t x h;unfold Lv at h;split at h
  ·split at h
   ·obtain⟨v,a,h⟩:=zbE.1 h;cases h;unfold Me at a;split at a
    ·rename_i c b;cases a;exact Ri b
    ·cases a
   ·cases h
  split at h
  ·cases h;exact trivial
  split at h
  ·cases h;exact trivial
  split at h
  ·cases h;exact trivial
  ·cases h
 none:=trivial
 bracket:=λh=>h
 pair:=λh k=>⟨h,k⟩
 call:=λh k=>⟨h,k⟩
 binary:=λh k=>⟨h,k⟩
 cond:=λh k j=>⟨h,k,j⟩
 fn:=λh=>h
 Am:=λh k=>⟨h,k⟩
theorem znc(h:Gj l ts n=some (.ok t)):t.fit:=zna (znb l) h
end
section
section
variable {l:List UInt8}{ts:List Tok}{st st':PS}{k d:Nat}{u:Tok}
end
theorem zjn{l:zU}{body:List Tok}{e:Tok}(j:∀t∈body,t.sort≠0){n:Nat}{t:T}(h:Gj l (body++[e]) n=some (.ok t)):∃s,Cg l (body++[e]) n ⟨0,0,false,0⟩=some (t,s)/\s.stuck=false/\(s.next<=body.length->s.next=body.length):=by
 unfold Gj at h;obtain⟨⟨x,c⟩,p,h⟩:=zbE.1 h;obtain⟨⟨k,i⟩,a,h⟩:=zbE.1 h;simp only[zsI]at h a;have b:i.stuck=false:=by
  cases m:i.stuck
  ·rfl
  ·rw[m]at h;simp at h
 rw[b]at h;simp only[xA,if_false,Except.ok.injEq]at h;subst h;have g:=(An a).1 b;refine⟨c,p,g,λv=>?_⟩;rcases yB c.next body.length with f|r
 ·exfalso;have o:Ej (body++[e]) c=some body[c.next]:=by
   unfold Ej;rw[g];simp[List.getElem?_append_left f,List.getElem?_eq_getElem f]
  unfold Bg at a;rw[o,zbS,jA (j _ (List.getElem_mem f))]at a;obtain⟨w,q,a⟩:=zbE.1 a;cases a;rw[(Dz q).1]at b;cases b
 ·omega
end
section
variable{fo:Nat}{t:T}{sh:List UInt8}
theorem Qo{b:T}(h:Oa fo t=some (.Ja b sh)):b=t/\t.freeS []=none/\(∃w,Ah t .nil=some w/\w<=2000)/\ofS fo t=some (some sh):=by
 unfold Oa at h;cases a:t.freeS []with
 |some p=>rw[a]at h;cases h
 |none=>
  rw[a]at h;simp only[zbE]at h;obtain⟨k,c,h⟩:=h;split at h
  ·cases h
  ·rename_i e;simp only[zbE]at h;obtain⟨o,d,h⟩:=h;cases o with
   |none=>cases h
   |some s=>cases h;exact⟨rfl,rfl,⟨k,c,oM⟩,d⟩
theorem zp0{b:Nat}{l:zU}(h:Kf b fo l=some (.Ja t sh))(a:Nat):∃n r,zfc n t a=some r:=by
 obtain⟨_,e,_,_,c,d⟩:=Kr h;exact zso (Qo d).2.1 (znc c) a
end
section
def T.places:T->List Nat
 |.name f _ _=>[f]
 |.int ..|.Ak ..|.side .. =>[]
 |.bracket _ _ i=>i.places
 |.pair _ _ x y=>x.places++y.places
 |.call _ _ x y=>x.places++y.places
 |.binary _ _ _ x y=>x.places++y.places
 |.cond _ _ x y z=>x.places++(y.places++z.places)
 |.fn _ _ _ k x=>k::x.places
 |.Am _ _ _ _ k x y=>k::(x.places++y.places)
def T.occ(x:zU):T->List zU->List Nat
 |.name f _ z,I=>if z=x/\x∉I then[f]else[]
 |.int ..,_|.Ak ..,_|.side ..,_=>[]
 |.bracket _ _ i,I=>i.occ x I
 |.pair _ _ a b,I=>a.occ x I++b.occ x I
 |.call _ _ a b,I=>a.occ x I++b.occ x I
 |.binary _ _ _ a b,I=>a.occ x I++b.occ x I
 |.cond _ _ a b c,I=>a.occ x I++(b.occ x I++c.occ x I)
 |.fn _ _ n _ a,I=>a.occ x (n::I)
 |.Am _ _ r n _ a b,I=>a.occ x (if r then n::I else I)++b.occ x (n::I)
structure zvy(m:Mv)(S:List Nat)(y:List UInt8):Prop where
 val:∀f v,m.val f v=v
 at_:∀f x,f∈S->m.nm f x=y
 other:∀f x,f∉S->m.nm f x=x
section
variable {m:Mv}{S:List Nat}{x y:List UInt8} (M:zvy m S y)
include M
end
def T.bname:T->zU
 |.fn _ _ n _ _=>n
 |.Am _ _ _ n _ _ _=>n
 |_=>[]
def T.useS:T->List Nat
 |.fn _ _ n _ a=>a.occ n []
 |.Am _ _ r n _ a b=>(if r then a.occ n []else[])++b.occ n []
 |_=>[]
end
section
def T.spans:T->List (Nat×Nat×zU)
 |.name f t z=>[(f,t,z)]
 |.int ..|.Ak ..|.side .. =>[]
 |.bracket _ _ i=>i.spans
 |.pair _ _ x y=>x.spans++y.spans
 |.call _ _ x y=>x.spans++y.spans
 |.binary _ _ _ x y=>x.spans++y.spans
 |.cond _ _ x y z=>x.spans++(y.spans++z.spans)
 |.fn _ _ n k x=>(k,k+n.length,n)::x.spans
 |.Am _ _ _ n k x y=>(k,k+n.length,n)::(x.spans++y.spans)
theorem Cb:∀t:T,t.places=t.spans.map (·.1)
 |.name ..|.int ..|.Ak ..|.side .. =>rfl
 |.bracket _ _ i=>Cb i
 |.pair _ _ x y=>by simp[T.places,T.spans,Cb x,Cb y]
 |.call _ _ x y=>by simp[T.places,T.spans,Cb x,Cb y]
 |.binary _ _ _ x y=>by simp[T.places,T.spans,Cb x,Cb y]
 |.cond _ _ x y z=>by simp[T.places,T.spans,Cb x,Cb y,Cb z]
 |.fn _ _ n k x=>by simp[T.places,T.spans,Cb x]
 |.Am _ _ _ n k x y=>by simp[T.places,T.spans,Cb x,Cb y]
def Q7(l:zU)(t:Tok):Nat×Nat×zU:=(t.fr,t.to,Bv l t.fr t.to)
variable {l:List UInt8}{ts:List Tok}
variable{st st':PS}
theorem Fp{s:Int}{t:Tok}(h:Bg ts s st=some (t,st'))(b:st'.stuck=false)(c:s≠0):st'.next=st.next+1/\ts[st.next]?=some t/\t.sort=s:=by
 have e:=(An h).1 b;obtain⟨a,d,rfl,_⟩:=zjh h b c;refine⟨rfl,?_,d⟩;unfold Ej at a;rw[e]at a;simpa using a
theorem Iv(h:endS st=some st'):st'.next=st.next:=by
 unfold endS at h;split at h
 ·cases h
 ·cases h;rfl
end
section
variable{ts:List Tok}{i:Nat}
inductive GK where
 |expr|cmp|sum|term|call|atom
 |chF (p:Part) (g:List Int) (a:T)
 |caF (a:T)
def pk:Part->GK
 |.term=>.term
 |.call=>.call
inductive G(l:List UInt8):GK->List Tok->T->Prop
 |Am {tl tn te ti:Tok} {rcs ds bs:List Tok} {rc:Bool} {d b:T} (hl:tl.sort=3) (hrc:(rcs=[]/\rc=false)\/(∃r,rcs=[r]/\r.sort=4/\rc=true)) (hn:tn.sort=1) (he:te.sort=15) (hi:ti.sort=5) (hp:tn.fr<=tn.to/\tn.to<=l.length) (D:G l .expr ds d) (B:G l .expr bs b) :
   G l .expr (tl::(rcs++tn::te::(ds++ti::bs))) (.Am tl.fr b.to rc (Bv l tn.fr tn.to) tn.fr d b)
 |fn {tl tn ta:Tok} {bs:List Tok} {b:T} (hl:tl.sort=6) (hn:tn.sort=1) (ha:ta.sort=14) (hp:tn.fr<=tn.to/\tn.to<=l.length) (B:G l .expr bs b) :
   G l .expr (tl::tn::ta::bs) (.fn tl.fr b.to (Bv l tn.fr tn.to) tn.fr b)
 |cond {tl t1 t2:Tok} {cs xs ys:List Tok} {c x y:T} (hl:tl.sort=7) (h1:t1.sort=8) (h2:t2.sort=9) (C:G l .expr cs c) (X:G l .expr xs x) (Y:G l .expr ys y) :
   G l .expr (tl::(cs++t1::(xs++t2::ys))) (.cond tl.fr y.to c x y)
 |zkp {ws:List Tok} {t:T} (h:G l .cmp ws t):G l .expr ws t
 |zkr {ws:List Tok} {t:T} (h:G l .sum ws t):G l .cmp ws t
 |zhs {w1 w2:List Tok} {sg:Tok} {x y:T} (X:G l .sum w1 x) (hs:sg.sort=23\/sg.sort=15) (Y:G l .sum w2 y):G l .cmp (w1++sg::w2) (.binary x.fr y.to sg.sort x y)
 |sum {w1 w2:List Tok} {x t:T} (X:G l .term w1 x) (C:G l (.chF .term [19,20] x) w2 t):G l .sum (w1++w2) t
 |term {w1 w2:List Tok} {x t:T} (X:G l .call w1 x) (C:G l (.chF .call [21,22] x) w2 t):G l .term (w1++w2) t
 |chN {p:Part} {g:List Int} {a:T}:G l (.chF p g a) [] a
 |chC {p:Part} {g:List Int} {a:T} {sg:Tok} {w1 w2:List Tok} {y t:T} (hs:sg.sort∈g) (Y:G l (pk p) w1 y) (C:G l (.chF p g (.binary a.fr y.to sg.sort a y)) w2 t):G l (.chF p g a) (sg::(w1++w2)) t
 |call {w1 w2:List Tok} {x t:T} (X:G l .atom w1 x) (C:G l (.caF x) w2 t):G l .call (w1++w2) t
 |caN {a:T}:G l (.caF a) [] a
 |caC {a:T} {w1 w2:List Tok} {y t:T} (Y:G l .atom w1 y) (C:G l (.caF (.call a.fr y.to a y)) w2 t):G l (.caF a) (w1++w2) t
 |leaf {tk:Tok} {x:T} (hb:Ap tk.sort=true) (h16:tk.sort≠16) (h:Lv l tk=some x):G l .atom [tk] x
 |bracket {ta tc:Tok} {ws:List Tok} {x:T} (ha:ta.sort=16) (hc:tc.sort=17) (X:G l .expr ws x):G l .atom (ta::(ws++[tc])) (.bracket ta.fr tc.to x)
 |pair {ta tm tc:Tok} {w1 w2:List Tok} {x y:T} (ha:ta.sort=16) (hm:tm.sort=18) (hc:tc.sort=17) (X:G l .expr w1 x) (Y:G l .expr w2 y):G l .atom (ta::(w1++tm::(w2++[tc]))) (.pair ta.fr tc.to x y)
def Seg(ts:List Tok)(i j:Nat)(a:List Tok):Prop:=ts.drop i=a++ts.drop j/\j=i+a.length
theorem Seg.nil(ts:List Tok)(i:Nat):Seg ts i i []:=⟨rfl,rfl⟩
theorem Seg.append{j k:Nat}{a b:List Tok}(h:Seg ts i j a)(c:Seg ts j k b):Seg ts i k (a++b):=by
 refine⟨by rw[h.1,c.1,wA],?_⟩
 have:=h.2
 have:=c.2;simp;omega
theorem Seg.one{t:Tok}(h:ts[i]?=some t):Seg ts i (i+1) [t]:=by
 refine⟨?_,rfl⟩;obtain⟨a,rfl⟩:=zlE.1 h;rw[lD a];rfl
theorem Seg.cons{ts:List Tok}{i j:Nat}{t:Tok}{b:List Tok}(h:ts[i]?=some t)(a:Seg ts (i+1) j b):Seg ts i j (t::b):=(Seg.one h).append a
def Der(l:zU)(ts:List Tok)(k:GK)(s:PS)(r:T)(b:PS):Prop:=∃a,Seg ts s.next b.next a/\G l k a r
structure zwv(l:List UInt8)(ts:List Tok)(n:Nat):Prop where
 expr:∀ {s s':PS} {r:T},Cg l ts n s=some (r,s')->s'.stuck=false->Der l ts .expr s r s'
 Am:∀ {s s':PS} {r:T},Oh l ts n s=some (r,s')->s'.stuck=false->Der l ts .expr s r s'
 fn:∀ {s s':PS} {r:T},Oj l ts n s=some (r,s')->s'.stuck=false->Der l ts .expr s r s'
 cond:∀ {s s':PS} {r:T},Ie l ts n s=some (r,s')->s'.stuck=false->Der l ts .expr s r s'
 cmp:∀ {s s':PS} {r:T},Kk l ts n s=some (r,s')->s'.stuck=false->Der l ts .cmp s r s'
 sum:∀ {s s':PS} {r:T},Kj l ts n s=some (r,s')->s'.stuck=false->Der l ts .sum s r s'
 term:∀ {s s':PS} {r:T},Ha l ts n s=some (r,s')->s'.stuck=false->Der l ts .term s r s'
 part:∀ {p:Part} {s s':PS} {r:T},Dw l ts n p s=some (r,s')->s'.stuck=false->Der l ts (pk p) s r s'
 chain:∀ {p:Part} {g:List Int} {s s':PS} {r:T},(∀x∈g,x≠0)->Ed l ts n p g s=some (r,s')->s'.stuck=false->∃w1 w2 x,Seg ts s.next s'.next (w1++w2)/\G l (pk p) w1 x/\G l (.chF p g x) w2 r
 Ch:∀ {p:Part} {g:List Int} {a:T} {s s':PS} {r:T},(∀x∈g,x≠0)->Bd l ts n p g a s=some (r,s')->s'.stuck=false->Der l ts (.chF p g a) s r s'
 call:∀ {s s':PS} {r:T},Gv l ts n s=some (r,s')->s'.stuck=false->Der l ts .call s r s'
 Dx:∀ {a:T} {s s':PS} {r:T},Bh l ts n a s=some (r,s')->s'.stuck=false->Der l ts (.caF a) s r s'
 atom:∀ {s s':PS} {r:T},Ev l ts n s=some (r,s')->s'.stuck=false->Der l ts .atom s r s'
 bracket:∀ {s s':PS} {r:T},Cd l ts n s=some (r,s')->s'.stuck=false->Der l ts .atom s r s'
variable {l:List UInt8}{ts:List Tok}
variable{st st':PS}{k:Nat}{l:List UInt8}
theorem Mz{s:Int}(h:Fg ts s st=some (k,st'))(a:st'.stuck=false)(c:s≠0):∃t,ts[st.next]?=some t/\t.sort=s/\k=t.fr/\st'.next=st.next+1:=by
 have b:=(zji h a).1;unfold Fg at h;rw[jA b,zbS]at h;split at h
 ·obtain⟨⟨j,m⟩,d,h⟩:=zbE.1 h;cases h;obtain⟨e,f,g⟩:=Fp d a c;exact⟨j,f,g,rfl,e⟩
 ·cases h
theorem Oy:∀ {g:List Int} {st st':PS} {k:Int},(∀x∈g,x≠0)->Bn ts g st=some (k,st')->st'.stuck=false->(k=0/\st'=st)\/(k∈g/\∃t,ts[st.next]?=some t/\t.sort=k/\st'.next=st.next+1)
 |[],st,st',k,_,h,_=>by cases h;exact .inl ⟨rfl,rfl⟩
 |x::g,st,st',k,h0,h,hs=>by
  rw[Bn]at h;obtain⟨t,j,h⟩:=zbE.1 h;split at h
  ·obtain⟨⟨f,m⟩,a,h⟩:=zbE.1 h;cases h;obtain⟨c,d,e⟩:=Fp a hs (h0 x sM);exact .inr ⟨by rw[e];simp,f,d,rfl,c⟩
  ·rcases Oy (λy b=>h0 y (by simp[b])) h hs with q|⟨q,r⟩
   ·exact .inl q
   ·exact .inr ⟨by simp[q],r⟩
theorem U7{x:zU}(h:Dv l ts st=some ((x,k),st'))(f:st'.stuck=false):∃t,ts[st.next]?=some t/\t.sort=1/\(t.fr<=t.to/\t.to<=l.length)/\x=Bv l t.fr t.to/\k=t.fr/\st'.next=st.next+1:=by
 unfold Dv at h;obtain⟨⟨t,g⟩,d,h⟩:=zbE.1 h;split at h
 ·rename_i e;cases h;obtain⟨a,b,c⟩:=Fp d f dZ;exact⟨t,b,c,e,rfl,rfl,a⟩
 ·cases h
theorem zak(l:zU)(ts:List Tok):∀n,zwv l ts n
 |0=>by constructor<;>(intros;simp_all[Cg,Oh,Oj,Ie,Kk,Kj,Ha,Dw,Ed,Bd,Gv,Bh,Ev,Cd])
 |n+1=>by
  have ih:=zak l ts n;have M:=Ck l ts n;constructor
  case expr=>
   intro s s' r h hs;rw[Cg]at h;obtain⟨t,_,h⟩:=zbE.1 h;split at h
   ·exact ih.Am h hs
   split at h
   ·exact ih.fn h hs
   split at h
   ·exact ih.cond h hs
   ·obtain⟨ws,h1,h2⟩:=ih.cmp h hs;exact⟨ws,h1,.zkp h2⟩
  case Am=>
   intro s s' r h hs;simp only[Oh,zbE,zsI,zpI,uB]at h;obtain⟨k,t1,h1,rc,t2,h2,bn,bat,t3,h3,c4,t4,h4,d,t5,h5,c6,t6,h6,x,t7,h7,t8,h8,rfl,rfl⟩:=h;have a7:t7.stuck=false:=(by rw[<-(Bp h8).1];exact hs);have a6:=(M.expr h7).1 a7;have a5:=(An h6).1 a6;have a4:=(M.expr h5).1 a5;have a3:=(An h4).1 a4;have a2:=(Ii h3).1 a3;have a1:=(Bi h2).1 a2;obtain⟨u1,b1,c1,rfl,n1⟩:=Mz h1 a1 dZ;obtain⟨u3,b3,c3,p3,rfl,rfl,n3⟩:=U7 h3 a3;obtain⟨n4,b4,c4'⟩:=Fp h4 a4 dZ;obtain⟨ds,g5,D⟩:=ih.expr h5 a5;obtain⟨n6,b6,c6'⟩:=Fp h6 a6 dZ;obtain⟨bs,g7,B⟩:=ih.expr h7 a7;have n8:=Iv h8;unfold Der;rw[n8];have tail:Seg ts t3.next t7.next (c4::(ds++c6::bs)):=Seg.cons b4 (by rw[<-n4];exact g5.append (Seg.cons b6 (by rw[<-n6];exact g7)));rcases Oy dZ h2 a2 with⟨rfl,rfl⟩|⟨hk,u2,b2,c2,n2⟩
   ·refine⟨_,Seg.cons b1 ?_,.Am (rcs:=[]) (rc:=false) c1 (.inl ⟨rfl,rfl⟩) c3 c4' c6' p3 D B⟩;rw[<-n1];exact Seg.cons b3 (by rw[<-n3];exact tail)
   ·obtain rfl:rc=4:=(by simpa using hk);refine⟨_,Seg.cons b1 ?_,.Am (rcs:=[u2]) (rc:=true) c1 (.inr ⟨u2,rfl,c2,rfl⟩) c3 c4' c6' p3 D B⟩;rw[<-n1];exact Seg.cons b2 (by rw[<-n2];exact Seg.cons b3 (by rw[<-n3];exact tail))
  case fn=>
   intro s s' r h hs;simp only[Oj,zbE,zsI,zpI,uB]at h;obtain⟨k,t1,h1,bn,bat,t3,h3,c4,t4,h4,d,t5,h5,t8,h8,rfl,rfl⟩:=h;have a5:t5.stuck=false:=(by rw[<-(Bp h8).1];exact hs);have a4:=(M.expr h5).1 a5;have a3:=(An h4).1 a4;have a1:=(Ii h3).1 a3;obtain⟨u1,b1,c1,rfl,n1⟩:=Mz h1 a1 dZ;obtain⟨u3,b3,c3,p3,rfl,rfl,n3⟩:=U7 h3 a3;obtain⟨n4,b4,c4'⟩:=Fp h4 a4 dZ;obtain⟨bs,g5,B⟩:=ih.expr h5 a5;have n8:=Iv h8;unfold Der;rw[n8];exact⟨_,Seg.cons b1 (by rw[<-n1];exact Seg.cons b3 (by rw[<-n3];exact Seg.cons b4 (by rw[<-n4];exact g5))),.fn c1 c3 c4' p3 B⟩
  case cond=>
   intro s s' r h hs;simp only[Ie,zbE,zsI,zpI,uB]at h;obtain⟨k,t1,h1,x,t2,h2,c3,t3,h3,y,t4,h4,c5,t5,h5,z,t6,h6,t8,h8,rfl,rfl⟩:=h;have a6:t6.stuck=false:=(by rw[<-(Bp h8).1];exact hs);have a5:=(M.expr h6).1 a6;have a4:=(An h5).1 a5;have a3:=(M.expr h4).1 a4;have a2:=(An h3).1 a3;have a1:=(M.expr h2).1 a2;obtain⟨u1,b1,c1,rfl,n1⟩:=Mz h1 a1 dZ;obtain⟨cs,g2,C⟩:=ih.expr h2 a2;obtain⟨n3,b3,c3'⟩:=Fp h3 a3 dZ;obtain⟨xs,g4,X⟩:=ih.expr h4 a4;obtain⟨n5,b5,c5'⟩:=Fp h5 a5 dZ;obtain⟨ys,g6,Y⟩:=ih.expr h6 a6;have n8:=Iv h8;unfold Der;rw[n8];exact⟨_,Seg.cons b1 (by rw[<-n1];exact g2.append (Seg.cons b3 (by rw[<-n3];exact g4.append (Seg.cons b5 (by rw[<-n5];exact g6))))),.cond c1 c3' c5' C X Y⟩
  case cmp=>
   intro s s' r h hs;simp only[Kk,zbE,uB]at h;obtain⟨x,t1,h1,sg,t2,h2,h⟩:=h;split at h
   ·rename_i h0;cases h;have a1:=(Bi h2).1 hs;obtain⟨ws,g1,X⟩:=ih.sum h1 a1;rcases Oy dZ h2 hs with⟨_,rfl⟩|⟨hk,_⟩
    ·exact⟨ws,g1,.zkr X⟩
    ·rw[h0]at hk;simp at hk
   ·rename_i h0;simp only[zbE,zsI,zpI,uB]at h;obtain⟨y,t3,h3,rfl,rfl⟩:=h;have a2:=(M.sum h3).1 hs;have a1:=(Bi h2).1 a2;obtain⟨w1,g1,X⟩:=ih.sum h1 a1;obtain⟨w2,g3,Y⟩:=ih.sum h3 hs;rcases Oy dZ h2 a2 with⟨q,_⟩|⟨hk,u,bu,rfl,nu⟩
    ·exact absurd q h0
    ·exact⟨_,g1.append (Seg.cons bu (by rw[<-nu];exact g3)),.zhs X (by simpa using hk) Y⟩
  case sum=>
   intro s s' r h hs;rw[Kj]at h;obtain⟨w1,w2,x,g,X,C⟩:=ih.chain dZ h hs;exact⟨_,g,.sum X C⟩
  case term=>
   intro s s' r h hs;rw[Ha]at h;obtain⟨w1,w2,x,g,X,C⟩:=ih.chain dZ h hs;exact⟨_,g,.term X C⟩
  case part=>
   intro p s s' r h hs;cases p with
   |term=>rw[Dw]at h;exact ih.term h hs
   |call=>rw[Dw]at h;exact ih.call h hs
  case chain=>
   intro p g s s' r hg h hs;simp only[Ed,zbE,uB]at h;obtain⟨a,t1,h1,h2⟩:=h;have a1:=(M.Ch h2).1 hs;obtain⟨w1,g1,X⟩:=ih.part h1 a1;obtain⟨w2,g2,C⟩:=ih.Ch hg h2 hs;exact⟨w1,w2,a,g1.append g2,X,C⟩
  case Ch=>
   intro p g a s s' r hg h hs;simp only[Bd,zbE,uB]at h;obtain⟨k,t1,h1,h⟩:=h;split at h
   ·rename_i h0;cases h;rcases Oy hg h1 hs with⟨_,rfl⟩|⟨hk,_⟩
    ·exact⟨[],Seg.nil _ _,.chN⟩
    ·rw[h0]at hk;exact absurd rfl (hg _ hk)
   ·rename_i h0;simp only[zbE,uB]at h;obtain⟨c,t2,h2,h3⟩:=h;have a2:=(M.Ch h3).1 hs;have a1:=(M.part h2).1 a2;obtain⟨w1,g1,Y⟩:=ih.part h2 a2;obtain⟨w2,g2,C⟩:=ih.Ch hg h3 hs;rcases Oy hg h1 a1 with⟨q,_⟩|⟨hk,u,bu,rfl,nu⟩
    ·exact absurd q h0
    ·exact⟨_,Seg.cons bu (by rw[<-nu];exact g1.append g2),.chC hk Y C⟩
  case call=>
   intro s s' r h hs;simp only[Gv,zbE,uB]at h;obtain⟨a,t1,h1,h2⟩:=h;have a1:=(M.Dx h2).1 hs;obtain⟨w1,g1,X⟩:=ih.atom h1 a1;obtain⟨w2,g2,C⟩:=ih.Dx h2 hs;exact⟨_,g1.append g2,.call X C⟩
  case Dx=>
   intro a s s' r h hs;simp only[Bh,zbE]at h;obtain⟨t,ht,h⟩:=h;split at h
   ·simp only[zbE,uB]at h;obtain⟨c,t3,h2,h3⟩:=h;have a2:=(M.Dx h3).1 hs;obtain⟨w1,g1,Y⟩:=ih.atom h2 a2;obtain⟨w2,g2,C⟩:=ih.Dx h3 hs;exact⟨_,g1.append g2,.caC Y C⟩
   ·cases h;exact⟨[],Seg.nil _ _,.caN⟩
  case atom=>
   intro s s' r h hs;simp only[Ev,zbE]at h;obtain⟨t,ht,h⟩:=h;split at h
   ·exact ih.bracket h hs
   split at h
   ·rename_i h16 hb;simp only[zbE,zsI,zpI,uB]at h;obtain⟨c,t3,h2,x,h3,rfl,rfl⟩:=h;have h0:t.sort≠0:=(by simp only[Ap,fE]at hb;omega);have hst:=(An h2).1 hs;obtain⟨n1,q1,q2⟩:=Fp h2 hs h0;have ht':ts[s.next]?=some t:=by
     unfold Ej at ht;rw[hst]at ht;simpa using ht
    exact⟨[t],by rw[n1];exact Seg.one ht',.leaf hb h16 h3⟩
   ·simp only[zbE,zsI,zpI]at h;obtain⟨_,h2,rfl,rfl⟩:=h;rw[(Dz h2).1]at hs;cases hs
  case bracket=>
   intro s s' r h hs;simp only[Cd,zbE,uB]at h;obtain⟨k,t1,h1,x,t2,h2,sg,t3,h3,h⟩:=h;split at h
   ·rename_i h18;simp only[zbE,zsI,zpI,uB]at h;obtain⟨y,t4,h4,c5,t5,h5,t6,h6,rfl,rfl⟩:=h;have a5:t5.stuck=false:=(by rw[<-(Bp h6).1];exact hs);have a4:=(An h5).1 a5;have a3:=(M.expr h4).1 a4;have a2:=(Bi h3).1 a3;have a1:=(M.expr h2).1 a2;obtain⟨u1,b1,c1,rfl,n1⟩:=Mz h1 a1 dZ;obtain⟨w1,g2,X⟩:=ih.expr h2 a2;obtain⟨w2,g4,Y⟩:=ih.expr h4 a4;obtain⟨n5,b5,c5'⟩:=Fp h5 a5 dZ;have n6:=Iv h6;unfold Der;rw[n6];rcases Oy dZ h3 a3 with⟨q,_⟩|⟨_,u,bu,cu,nu⟩
    ·rw[h18]at q;cases q
    ·exact⟨_,Seg.cons b1 (by rw[<-n1];exact g2.append (Seg.cons bu (by rw[<-nu];exact g4.append (by rw[n5];exact Seg.one b5)))),.pair c1 (by rw[cu];exact h18) c5' X Y⟩
   ·rename_i h18;simp only[zbE,zsI,zpI,uB]at h;obtain⟨c5,t5,h5,t6,h6,rfl,rfl⟩:=h;have a5:t5.stuck=false:=(by rw[<-(Bp h6).1];exact hs);have a3:=(An h5).1 a5;have a2:=(Bi h3).1 a3;have a1:=(M.expr h2).1 a2;obtain⟨u1,b1,c1,rfl,n1⟩:=Mz h1 a1 dZ;obtain⟨w1,g2,X⟩:=ih.expr h2 a2;obtain⟨n5,b5,c5'⟩:=Fp h5 a5 dZ;have n6:=Iv h6;unfold Der;rw[n6];rcases Oy dZ h3 a3 with⟨_,rfl⟩|⟨q,_⟩
    ·exact⟨_,Seg.cons b1 (by rw[<-n1];exact g2.append (by rw[n5];exact Seg.one b5)),.bracket c1 c5' X⟩
    ·exact absurd (by simpa using q) h18
def GK.pre:GK->List (Nat×Nat×zU)
 |.chF _ _ a|.caF a=>a.spans
 |_=>[]
def GK.ok:GK->Prop
 |.chF _ g _=>1∉g
 |_=>True
theorem G.spans{k:GK}{c:List Tok}{r:T}(h:G l k c r):k.ok->r.spans=k.pre++(c.filter (·.sort==1)).map (Q7 l):=by
 have d {t:Tok} (h:t.fr<=t.to/\t.to<=l.length):(t.fr,t.fr+(Bv l t.fr t.to).length,Bv l t.fr t.to)=Q7 l t:=by
  simp[Q7,Bv];omega
 induction h with
 |Am hl hrc hn he hi hp D B ihD ihB=>rcases hrc with⟨rfl,rfl⟩|⟨r,rfl,f,rfl⟩<;>simp_all[T.spans,GK.pre,GK.ok]
 |leaf hb h16 h=>
  simp only[Ap,fE]at hb;unfold Lv at h
  repeat' split at h
  all_goals first|cases h|obtain⟨_,_,h⟩:=zbE.1 h;cases h
  all_goals simp_all[T.spans,GK.pre,Q7]
  all_goals omega
 |@chC p g a sg w1 w2 y t b Y C ihY ihC=>
  intro h;have:sg.sort≠1:=λe=>h (e ▸ b);cases p<;>simp_all[T.spans,GK.pre,GK.ok,pk]
 |zhs X b Y=>rcases b with b|b<;>simp_all[T.spans,GK.pre,GK.ok]
 |_=>simp_all[T.spans,GK.pre,GK.ok]
theorem Y0{n a b:Nat}{t:T}{body:List Tok}(h:Gj l (body++[⟨0,a,b⟩]) n=some (.ok t)):∃L:List Tok,L.Sublist body/\(∀k∈L,k.sort=1)/\t.spans=L.map (Q7 l):=by
 unfold Gj at h;obtain⟨⟨x,p⟩,m,h⟩:=zbE.1 h;obtain⟨⟨k,o⟩,c,h⟩:=zbE.1 h;simp only[zsI]at h c;have j:o.stuck=false:=by grind
 obtain⟨d,g,e⟩:=(zak l _ n).expr m ((An c).1 j);have f:d.Sublist (body++[⟨0,a,b⟩]):=(g.1.symm ▸ List.sublist_append_left _ _:d.Sublist (List.drop 0 _));obtain rfl:x=t:=by simp_all
 exact⟨_,by simpa using(f.filter (·.sort==1)).trans sM,sM,e.spans trivial⟩
end
section
structure Nm(y:List UInt8):Prop where
 head:Et (D7 y)=true
 all:∀c∈y,Ef c.toNat=true
 len:y.length<=6
 sort:Cw y=1
theorem zed{m:zU}(h:(Au m).1=1):Et (D7 m)=true/\(Au m).2=(Gy Ef m).length:=by
 unfold Au at h ⊢;by_cases a:Et (D7 m)=true
 ·rw[mA a]at h ⊢;unfold Jq at h ⊢;split at h
  ·simp at h
  ·rename_i b;rw[jA b];exact⟨a,rfl⟩
 ·exfalso;rw[jA a]at h;split at h
  ·unfold Ge at h;split at h<;>simp at h
  split at h
  ·simp at h
  ·unfold Id at h
   (repeat' split at h)<;>simp at h
section
variable {dx:Nat}{y:List UInt8}
end
end
section
theorem zal{m:zU}{k i j:Nat}(h:k<=i):Bv (m.drop k) (i-k) (j-k)=Bv m i j:=by
 unfold Bv;rw[List.drop_drop,show k+(i-k)=i from oM];congr 1;omega
variable {dx:Nat}{y:List UInt8}
end
end
end Tw
section
open Go.Proofs.Tryz
open Go.ChangeShapes Go.WideShapes Go.ChangeAt Go.RowKit
theorem zwn:zt9:={zwk with it:=λi c w=>(Tryz.strconv_Itoa_small i c w).mono λ_ _ ⟨a,b⟩=>⟨a,b.symm⟩}
end
section
open Tw
open Go.RowKit
theorem zjo(a:Ew.Fs){t:Tw.T}{fuel:Nat}{sh:zU}(b:ofS fuel t=some (some sh)):zrf WtS t sh:=λ_ _ _ c=>zph a c b
end
section
open Go Go.RowKit
section
variable{P:Program}{l B:Nat}{A C:World}
def zri{d :Type}(P:Program)(g:Nat)(lb:Array Value)(encs :d -> Array Value)(Ok :d -> World->Prop)(Kp:World->World->Prop)(S i:List d -> Prop)(N:Nat)(w:World):Prop:=
 ∀(l:Nat) (J f:List d -> World->Prop) (W:World),Below w.heap.size w W->OwnFrom W.heap.size J->OwnFrom W.heap.size f ->
  (∀pre x c,J pre c->pre.length<N->Ok x c->YieldAt Fence.wide 0 P l (encs x) c λe b=>KeepsFrom W.heap.size c b /\
   ((e=.returned (.bool true)/\J (pre++[x]) b/\Kp c b)\/(e=.returned (.bool false)/\f (pre++[x]) b))) ->
  J [] W ->
  Calls P g (#[.func (.yield l) #[] #[]]++lb) W λe b=>(∃v,e=.returned v)/\((∃h,S h/\J h b)\/(∃pre,i pre/\f pre b))
abbrev zol{b :Type}(P:Program)(g:Nat)(lb:Array Value)(encs :b -> Array Value)(Kp:World->World->Prop)(S c:List b -> Prop)(N:Nat)(w:World):Prop:=zri P g lb encs (λ_ _=>True) Kp S c N w
theorem Y1{m i:Nat}{args:Array Value}{W:World}{R:Ending->World->Prop}(h:YieldAt Fence.wide m P l args W R):YieldAt Fence.wide i P l args W R:=by
 obtain⟨e,j,assign,body,f,b⟩:=h;exact⟨e,j,assign,body,f,b.1,λc d _=>b.2 c d (room_wide _)⟩
theorem zk2{c:Type}{n:Nat}{g:Nat}{lb:Array Value}{encs :c -> Array Value}{Kp:World->World->Prop}{S d:List c -> Prop}{N:Nat}{w:World}(h:SeqStopsK Fence.wide n P g lb encs Kp S d N w):zol P g lb encs Kp S d N w:=by
 intro l J i W q m o s k;have f:∀ {K:List c -> World->Prop},OwnFrom W.heap.size K->AbidesFrom W.heap.size K:=λhK F A B row z t b=>
  hK F A B row z t λr e=>⟨(b r e).1,by obtain⟨E,y,D⟩:=(b r e).2;exact⟨E,y,Obj.not_cells_of_walk D⟩⟩
 exact callsIn_wide.1 (h l J i W q (f m) (f o) (λpre G j v x=>Y1 (YieldAt.mono (s pre G j v x trivial) λe H b=>b.2)) k)
theorem Je{D:World}(h:KeepsFrom B A C)(k:KeepsFrom B C D):KeepsFrom B A D:=⟨kB h.size k.size,λi o c d b=>k.same i o c (h.same i o c d b) b⟩
theorem Ey{b:Nat}(c:B<=b)(h:KeepsFrom B A C):KeepsFrom b A C:=⟨h.size,λi o e f d=>h.same i o (kB c e) f d⟩
theorem Ug(d:l<B)(W:World)(o:Obj):KeepsFrom B W (W.putObj l o):=
 ⟨by simp[World.putObj],λi e c b _=>(World.putObj_heap_other oM).trans b⟩
structure zrj(rc:LoopState->Option Code->Loop)(fn:FuncId)(tmps:Array Value)(ps:Array Tmp)(assign body:Code)(D:Nat):Prop where
 eq:rc=fun st pe=>{state:=st,pending:=pe,fn:=fn,tmps:=tmps,params:=ps,assign:=assign,body:=body,defers:=D}
variable {P:Program}{α:Type}
theorem zk3{rc:LoopState->Option Code->Loop}{F:FuncId}{tmps:Array Value}{ps:Array Tmp}{assign body:Code}{T l B D m:Nat}(R:zrj rc F tmps ps assign body T)(k:B<=l)(J:l<D)
  {encs :α -> Array Value} {Kp:World->World->Prop} (N:∀ {A B C:World},Kp A B->Kp B C->Kp A C) (M:∀(W:World) (l:Nat) (o a4:Obj),B<=l->W.heap[l]?=some o->o.isCells=false->o.isWalk=false->Kp W (W.putObj l a4)) (a3:∀x,(encs x).size=ps.size)
  {I:List α -> World->Prop} {E:Code->List α -> World->Prop} (L:OwnFrom B I) (V:∀c,OwnFrom B (E c)) {a₁ :α -> Act} {pre:List α} {x :α} {W:World} {Ok :α -> World->Prop} (X:OwnFrom B (λ(_:Unit) W=>Ok x W)) (a2:Ok x W) (hi:I pre W) (y:W.heap[l]?=some (.loop (rc .ready none)))
  (Y:∀(W:World) (K:Act->World->Prop),K (a₁ x) W->assign.wpIn (Fence.wide.inRound l) m P (Exit.then K (λ_ _ _=>False)) {tmps:=(ps.zip (encs x)).foldl (λt (p,v)=>t.setIfInBounds p v) tmps,defers:=[]} W)
  (Z:∀W,(∃r,W.heap[l]?=some (.loop r))->I pre W->Ok x W->body.wpIn (Fence.wide.inRound l) m P (ownPostG B Kp I E (pre++[x]) W) (a₁ x) W) :
  YieldAt Fence.wide m P l (encs x) W λe W'=>KeepsFrom D W W' /\
   ((e=.returned (.bool true)/\(I (pre++[x]) W'/\W'.heap[l]?=some (.loop (rc .ready none)))/\Kp W W')\/(e=.returned (.bool false)/\∃c,E c (pre++[x]) W'/\W'.heap[l]?=some (.loop (rc .done (some c))))):=by
 have q:(rc .ready none).params=ps/\(rc .ready none).fn=F/\(rc .ready none).tmps=tmps/\(rc .ready none).assign=assign/\(rc .ready none).body=body:=by rw[R.eq];exact⟨rfl,rfl,rfl,rfl,rfl⟩
 have S:=run_yield (P:=P) (args:=encs x) y (by rw[q.1];exact a3 x);rw[q.1,q.2.1,q.2.2.1,q.2.2.2.1,q.2.2.2.2]at S;refine⟨F,_,assign,body,S,roundIn_of_wpIn trivial (Y W _ ?_)⟩;have a1:=(zgE.1 y).1;refine⟨_,run_beginRound y (by rw[R.eq]),?_⟩;obtain⟨d,O⟩:∃U,({rc .ready none with state:=.busy}:Loop)=U:=⟨_,rfl⟩;rw[O];have a0:∀j:Option Code,({d with state:=if j.isNone then .ready else .done,pending:=j}:Loop)=rc (if j.isNone then .ready else .done) j:=λj=>by rw[<-O,R.eq]
 have lb:(W.putObj l (.loop d)).heap[l]?=some (.loop d):=World.putObj_heap_same a1;have k0:KeepsFrom D W (W.putObj l (.loop d)):=Ug J W _;have p0:Kp W (W.putObj l (.loop d)):=M _ _ _ _ k y rfl rfl;refine wpIn_mono (Z _ ⟨d,lb⟩ (L.putObj _ hi k y rfl) (X.putObj (s:=()) _ a2 k y rfl)) ?_
 -- a round's end
 have fin:∀(j:Option Code) (b:World),KeepsFrom B (W.putObj l (.loop d)) b->b.heap[l]?=some (.loop d)/\(Instr.endRound l j).run P b=.ok (.bool j.isNone) (b.putObj l (.loop (rc (if j.isNone then .ready else .done) j)))/\KeepsFrom D W (b.putObj l (.loop (rc (if j.isNone then .ready else .done) j))):=λj b z=>by
  have h:=z.same l _ k lb rfl;have e:=run_endRound (P:=P) j h;rw[a0]at e;exact⟨h,e,Je (Je k0 (Ey oM z)) (Ug J _ _)⟩
 have H:∀(c:Code) (b:World),KeepsFrom B (W.putObj l (.loop d)) b->E c (pre++[x]) b->∃v i,(Instr.endRound l (some c)).run P b=.ok v i/\(KeepsFrom D W i/\((Ending.returned v=.returned (.bool true)/\(I (pre++[x]) i/\i.heap[l]?=some (.loop (rc .ready none)))/\Kp W i)\/(Ending.returned v=.returned (.bool false)/\∃c,E c (pre++[x]) i/\i.heap[l]?=some (.loop (rc .done (some c)))))):=λc b z hx=>by
  obtain⟨h,e,G⟩:=fin (some c) b z;exact⟨_,_,e,G,.inr ⟨rfl,c,(V c).putObj _ hx k h rfl,World.putObj_heap_same (zgE.1 h).1⟩⟩
 rintro e a5 b f;cases e with
 |normal=>
  obtain⟨z,p3,i3⟩:=f;obtain⟨h,e,G⟩:=fin none b z;exact⟨_,_,e,G,.inl ⟨rfl,⟨L.putObj _ i3 k h rfl,World.putObj_heap_same (zgE.1 h).1⟩,N (N p0 p3) (M _ _ _ _ k h rfl rfl)⟩⟩
 |ret=>exact H .ret b f.1 f.2
 |exit id=>exact H (.exit id) b f.1 f.2
 |goto t=>exact H (.goto t) b f.1 f.2
 |panic ch=>exact f.elim
 |outgrown=>exact f.elim
variable {n:Nat}{g:Operand}{ps:Array Tmp}{assign body:Code}{Q:Exit -> Act -> World -> Prop}{a:Act}{w:World}
variable{gf:Nat}{lb:Array Value}{p d1:Tmp}
theorem zk4(Y:a.eval g=.func (.func gf) #[] lb)(eg:∀args w,(callFunc gf args).run P w=.ok (.enter gf args) w)
  {encs :α -> Array Value} {Ok :α -> World->Prop} {Kp:World->World->Prop} {S a2:List α -> Prop} {N:Nat} {H:World} (ah:zri P gf lb encs Ok Kp S a2 N H) (a7:∀x,OwnFrom w.heap.size (λ(_:Unit) W=>Ok x W))
  (a6:∀ {A B C:World},Kp A B->Kp B C->Kp A C) (a5:∀(W:World) (l:Nat) (o a1:Obj),w.heap.size<=l->W.heap[l]?=some o->o.isCells=false->o.isWalk=false->Kp W (W.putObj l a1)) (a3:Below H.heap.size H w) (ag:∀x,(encs x).size=ps.size)
  (I:List α -> World->Prop) (J:Code->List α -> World->Prop) (G:OwnFrom w.heap.size I) (V:∀c,OwnFrom w.heap.size (J c)) (h0:I [] w) (a₁ :α -> Act)
  (a8:∀(l:Nat) (x :α) (W:World) (K:Act->World->Prop),K (a₁ x) W->assign.wpIn (Fence.wide.inRound l) 0 P (Exit.then K (λ_ _ _=>False)) {tmps:=(ps.zip (encs x)).foldl (λt (p,v)=>t.setIfInBounds p v) a.tmps,defers:=[]} W)
  (aa:∀(l:Nat) (pre:List α) (x :α) (W:World),w.heap.size<=l->(∃r,W.heap[l]?=some (.loop r))->I pre W->pre.length<N->Ok x W->body.wpIn (Fence.wide.inRound l) 0 P (ownPostG w.heap.size Kp I J (pre++[x]) W) (a₁ x) W)
  (ac:∀(D:Nat) (M:List α) (W:World),w.heap.size<=D->S M->I M W->W.heap[D]?=some (.deferred (some []))->Q .normal {a with defers:={target:=.collected D,args:=#[]}::a.defers} W)
  (ai:∀(D:Nat) (c:Code) (pre:List α) (W:World),w.heap.size<=D->a2 pre->J c pre W->W.heap[D]?=some (.deferred (some []))->c.wpIn Fence.wide n P Q {a with defers:={target:=.collected D,args:=#[]}::a.defers} W) :
  (Code.rangeFunc g ps assign body).wpIn Fence.wide n P Q a w:=by
 refine wpIn_rangeFunc λO _=>?_;obtain⟨z,F⟩:∃z:LoopState->Option Code->Loop,zrj z O a.tmps ps assign body w.heap.size:=⟨_,⟨rfl⟩⟩;obtain⟨d,E⟩:∃d,(w.alloc (.deferred (some []))).alloc (.loop (z .ready none))=d:=⟨_,rfl⟩;have z1:d.heap.size=w.heap.size+2:=by rw[<-E];simp
 have ae:d.heap[w.heap.size+1]?=some (.loop (z .ready none)):=by
  have:=World.alloc_heap_new (w.alloc (.deferred (some []))) (.loop (z .ready none));rw[World.size_alloc]at this;rw[<-E];exact this
 have ab:d.heap[w.heap.size]?=some (.deferred (some [])):=by
  rw[<-E];exact(Below.heap_alloc _ _ _ sM).trans (World.alloc_heap_new w _)
 have ad:I [] d:=by rw[<-E];exact G.alloc _ (G.alloc _ h0)
 have a9:Below H.heap.size H d:=by
  rw[<-E];exact a3.trans ((((Below.refl _ w).alloc (znL _) _).alloc sM _).mono a3.size)
 have a4:∀ {A:World} {row:Option Nat},(∀r,row=some r->d.heap.size<=r/\∃o:Obj,A.heap[r]?=some o/\o.isCells=false)->∀r,row=some r->w.heap.size<=r/\∃o:Obj,A.heap[r]?=some o/\o.isCells=false:=λb r e=>⟨by have:=(b r e).1;omega,(b r e).2⟩;have stays:∀ {A B:World} {row:Option Nat} {k:Nat} {o:Obj},A.grownBy B row->(∀r,row=some r->d.heap.size<=r/\∃o:Obj,A.heap[r]?=some o/\o.isCells=false)->k<d.heap.size->A.heap[k]?=some o->B.heap[k]?=some o:=λ{A B row k o} Y b Z ho=>
  (Y.block k (zgE.1 ho).1 (λe=>by have:=(b k e.symm).1;omega)).trans ho
 refine⟨w.heap.size+1,[{target:=.collected w.heap.size,args:=#[]}],d,{target:=.fn (.func gf) lb,args:=#[.func (.yield (w.heap.size+1)) #[] #[]]},d,gf,#[.func (.yield (w.heap.size+1)) #[] #[]]++lb,d,?_,?_,λ_ _=>trivial,?_,λL=>(by cases L),?_⟩
 ·have:=run_enterLoop_outer (P:=P) (w:=w) O a.tmps ps assign body;rw[<-E,F.eq];exact this
 ·simp only[resolve,Y];simp[go_sem]
 ·simp[invoke,go_sem,eg]
 ·refine callsIn_wide.2 ((ah (w.heap.size+1)
   (λpre W=>(I pre W/\W.heap[w.heap.size+1]?=some (.loop (z .ready none)))/\W.heap[w.heap.size]?=some (.deferred (some [])))
   (λpre W=>(∃c,J c pre W/\W.heap[w.heap.size+1]?=some (.loop (z .done (some c))))/\W.heap[w.heap.size]?=some (.deferred (some [])))
   d a9
   (λs A B row j i b=>⟨⟨G s A B row j.1.1 i (a4 b),stays i b oM j.1.2⟩,stays i b oM j.2⟩)
   (λs A B row j i b=>by
    obtain⟨⟨c,hc,q⟩,h⟩:=j;exact⟨⟨c,V c s A B row hc i (a4 b),stays i b oM q⟩,stays i b oM h⟩)
   ?_ ⟨⟨ad,ae⟩,ab⟩).mono ?_)
  ·rintro pre x W ⟨⟨y,q⟩,h⟩ af a0;have dn:∀ {K:List α -> World->Prop},OwnFrom w.heap.size K->OwnFrom (w.heap.size+1) (λs W=>K s W/\W.heap[w.heap.size]?=some (.deferred (some []))):=λhK s A B row j i b=>
    ⟨hK s A B row j.1 i (λr e=>⟨by have:=(b r e).1;omega,(b r e).2⟩),(i.block _ (zgE.1 j.2).1 (λe=>by have:=(b _ e.symm).1;omega)).trans j.2⟩
   refine YieldAt.mono (zk3 (P:=P) (m:=0) F (znL _) (show w.heap.size+1<d.heap.size by omega) (encs:=encs) (Kp:=Kp) (λL k=>a6 L k) (λW l o a1 L=>a5 W l o a1 oM) ag (dn G) (λc=>dn (V c)) (a₁:=a₁) (pre:=pre) (x:=x) (Ok:=Ok) (λs A B row j i b=>a7 x s A B row j i (λr e=>⟨by have:=(b r e).1;omega,(b r e).2⟩)) a0 ⟨y,h⟩ q (λW K hK=>a8 _ x W K hK) (λW b ⟨y,h⟩ a0=>wpIn_mono (aa _ pre x W oM b y af a0) ?_)) ?_
   ·rintro e am al f;cases e with
    |normal=>exact⟨Ey oM f.1,f.2.1,f.2.2,f.1.same _ _ (znL _) h rfl⟩
    |ret=>exact⟨Ey oM f.1,f.2,f.1.same _ _ (znL _) h rfl⟩
    |exit id=>exact⟨Ey oM f.1,f.2,f.1.same _ _ (znL _) h rfl⟩
    |goto t=>exact⟨Ey oM f.1,f.2,f.1.same _ _ (znL _) h rfl⟩
    |panic ch=>exact f.elim
    |outgrown=>exact f.elim
   ·rintro e aj ⟨Z,⟨X,⟨⟨R,T⟩,U⟩,h4⟩|⟨X,c,⟨R,T⟩,U⟩⟩
    ·exact⟨Z,.inl ⟨X,⟨⟨R,U⟩,T⟩,h4⟩⟩
    ·exact⟨Z,.inr ⟨X,⟨c,R,U⟩,T⟩⟩
  ·rintro e ak ⟨⟨v,rfl⟩,(⟨M,hS,⟨y,q⟩,h⟩|⟨pre,hSp,⟨c,y,q⟩,h⟩)⟩
   ·refine⟨none,_,by have:=run_endLoop (P:=P) q (by rw[F.eq];simp);rw[F.eq]at this;exact this,ac _ M _ (znL _) hS (G.putObj _ y oM q rfl) ((World.putObj_heap_other oM).trans h)⟩
   ·refine⟨some c,_,by have:=run_endLoop (P:=P) q (by rw[F.eq];simp);rw[F.eq]at this;exact this,ai _ c pre _ (znL _) hSp ((V c).putObj _ y oM q rfl) ((World.putObj_heap_other oM).trans h)⟩
theorem zp1{F:Nat}{X:Loop}(aa :w.heap[F]?=some (.loop X))(M:a.eval g=.func (.func gf) #[] lb)(Z:∀args w,(callFunc gf args).run P w=.ok (.enter gf args) w)
  {encs :α -> Array Value} {Ok :α -> World->Prop} {Kp:World->World->Prop} {S T:List α -> Prop} {N:Nat} {y:World} (ac:zri P gf lb encs Ok Kp S T N y) (a2:∀x,OwnFrom w.heap.size (λ(_:Unit) W=>Ok x W))
  (a1:∀ {A B C:World},Kp A B->Kp B C->Kp A C) (a0:∀(W:World) (l:Nat) (o ae:Obj),w.heap.size<=l->W.heap[l]?=some o->o.isCells=false->o.isWalk=false->Kp W (W.putObj l ae)) (U:Below y.heap.size y w) (ab:∀x,(encs x).size=ps.size)
  (I:List α -> World->Prop) (z:Code->List α -> World->Prop) (D:OwnFrom w.heap.size I) (L:∀c,OwnFrom w.heap.size (z c)) (h0:I [] w) (a₁ :α -> Act)
  (a3:∀(l:Nat) (x :α) (W:World) (K:Act->World->Prop),K (a₁ x) W->assign.wpIn (Fence.wide.inRound l) 0 P (Exit.then K (λ_ _ _=>False)) {tmps:=(ps.zip (encs x)).foldl (λt (p,v)=>t.setIfInBounds p v) a.tmps,defers:=[]} W)
  (a5:∀(l:Nat) (pre:List α) (x :α) (W:World),w.heap.size<=l->(∃r,W.heap[l]?=some (.loop r))->I pre W->pre.length<N->Ok x W->body.wpIn (Fence.wide.inRound l) 0 P (ownPostG w.heap.size Kp I z (pre++[x]) W) (a₁ x) W)
  (a6:∀(G:List α) (W:World),S G->I G W->Q .normal a W)
  (ad:∀(c:Code) (pre:List α) (W:World),T pre->z c pre W->c.wpIn (Fence.wide.inRound F) n P Q a W) :
  (Code.rangeFunc g ps assign body).wpIn (Fence.wide.inRound F) n P Q a w:=by
 refine wpIn_rangeFunc λH _=>?_;obtain⟨i,h⟩:∃i:LoopState->Option Code->Loop,zrj i H a.tmps ps assign body X.defers:=⟨_,⟨rfl⟩⟩;obtain⟨b,q⟩:∃b,w.alloc (.loop (i .ready none))=b:=⟨_,rfl⟩;have z1:b.heap.size=w.heap.size+1:=by rw[<-q];simp
 have a8:b.heap[w.heap.size]?=some (.loop (i .ready none)):=by rw[<-q];exact World.alloc_heap_new w _
 have a7:I [] b:=by rw[<-q];exact D.alloc _ h0
 have a4:Below y.heap.size y b:=by
  rw[<-q];exact U.trans (((Below.refl _ w).alloc (znL _) _).mono U.size)
 have Y:∀ {A:World} {row:Option Nat},(∀r,row=some r->b.heap.size<=r/\∃o:Obj,A.heap[r]?=some o/\o.isCells=false)->∀r,row=some r->w.heap.size<=r/\∃o:Obj,A.heap[r]?=some o/\o.isCells=false:=λd r j=>⟨by have:=(d r j).1;omega,(d r j).2⟩;have stays:∀ {A B:World} {row:Option Nat} {k:Nat} {o:Obj},A.grownBy B row->(∀r,row=some r->b.heap.size<=r/\∃o:Obj,A.heap[r]?=some o/\o.isCells=false)->k<b.heap.size->A.heap[k]?=some o->B.heap[k]?=some o:=λ{A B row k o} M d hk V=>
  (M.block k (zgE.1 V).1 (λj=>by have:=(d k j.symm).1;omega)).trans V
 refine⟨w.heap.size,[],b,{target:=.fn (.func gf) lb,args:=#[.func (.yield w.heap.size) #[] #[]]},b,gf,#[.func (.yield w.heap.size) #[] #[]]++lb,b,?_,?_,λ_ _=>trivial,?_,λJ=>(by cases J),?_⟩
 ·have:=run_enterLoop_inner (P:=P) aa H a.tmps ps assign body;rw[<-q,h.eq];exact this
 ·simp only[resolve,M];simp[go_sem]
 ·simp[invoke,go_sem,Z]
 ·refine CallsIn.inRound F (callsIn_wide.2 ((ac w.heap.size
   (λpre W=>I pre W/\W.heap[w.heap.size]?=some (.loop (i .ready none)))
   (λpre W=>∃c,z c pre W/\W.heap[w.heap.size]?=some (.loop (i .done (some c))))
   b a4
   (λR A B row E s d=>⟨D R A B row E.1 s (Y d),stays s d oM E.2⟩)
   (λR A B row E s d=>by
    obtain⟨c,hc,e⟩:=E;exact⟨c,L c R A B row hc s (Y d),stays s d oM e⟩)
   ?_ ⟨a7,a8⟩).mono ?_))
  ·rintro pre x W ⟨f,e⟩ a9 O;exact zk3 (P:=P) (m:=0) h (znL _) (show w.heap.size<b.heap.size by omega) (encs:=encs) (Kp:=Kp) (λJ k=>a1 J k) a0 ab D L (a₁:=a₁) (pre:=pre) (x:=x) (Ok:=Ok) (a2 x) O f e (λW K hK=>a3 _ x W K hK) (λW d f O=>a5 _ pre x W (znL _) d f a9 O)
  ·rintro j af ⟨⟨v,rfl⟩,(⟨G,hS,f,e⟩|⟨pre,hSp,c,f,e⟩)⟩
   ·refine⟨none,_,by have:=run_endLoop (P:=P) e (by rw[h.eq];simp);rw[h.eq]at this;exact this,?_⟩;simpa using a6 G _ hS (D.putObj _ f oM e rfl)
   ·refine⟨some c,_,by have:=run_endLoop (P:=P) e (by rw[h.eq];simp);rw[h.eq]at this;exact this,?_⟩;simpa using ad c pre _ hSp ((L c).putObj _ f oM e rfl)
theorem Iw{β:Type}(B:Nat)(k:Nat)(c:Array Value)(t:TypeId)(m:Nat×Nat):OwnFrom B (λ(_ :β) W=>W.heap[k]?=some (.cells c t m)):=λ_ A C row b h i=>
 (h.block k (zgE.1 b).1 (λe=>by
  obtain⟨_,o,d,f⟩:=i k e.symm;rw[b]at d;cases d;cases f)).trans b
theorem zp2{q d2:Tmp}(R:a.eval g=.func (.func gf) #[] lb)(j:∀args w,(callFunc gf args).run P w=.ok (.enter gf args) w)
  {b d :α -> Value} {Kp:World->World->Prop} {S h:List α -> Prop} {N:Nat} {f:World} (U:zol P gf lb (λx=>#[b x,d x]) Kp S h N f)
  (H:∀ {A B C:World},Kp A B->Kp B C->Kp A C) (G:∀(W:World) (l:Nat) (o X:Obj),w.heap.size<=l->W.heap[l]?=some o->o.isCells=false->o.isWalk=false->Kp W (W.putObj l X)) (L:Below f.heap.size f w)
  (I:List α -> World->Prop) (e:Code->List α -> World->Prop) (E:OwnFrom w.heap.size I) (F:∀c,OwnFrom w.heap.size (e c)) (s:I [] w)
  (J:∀(l:Nat) (x :α) (W:World) (K:Act->World->Prop),K {tmps:=(((a.tmps.setIfInBounds p (b x)).setIfInBounds q (d x)).setIfInBounds d1 (b x)).setIfInBounds d2 (d x),defers:=[]} W ->
   assign.wpIn (Fence.wide.inRound l) 0 P (Exit.then K (λ_ _ _=>False)) {tmps:=(a.tmps.setIfInBounds p (b x)).setIfInBounds q (d x),defers:=[]} W)
  (M:∀(l:Nat) (pre:List α) (x :α) (W:World),w.heap.size<=l->(∃r,W.heap[l]?=some (.loop r))->I pre W->pre.length<N->body.wpIn (Fence.wide.inRound l) 0 P (ownPostG w.heap.size Kp I e (pre++[x]) W) {tmps:=(((a.tmps.setIfInBounds p (b x)).setIfInBounds q (d x)).setIfInBounds d1 (b x)).setIfInBounds d2 (d x),defers:=[]} W)
  (O:∀(D:Nat) (i:List α) (W:World),w.heap.size<=D->S i->I i W->W.heap[D]?=some (.deferred (some []))->Q .normal {a with defers:={target:=.collected D,args:=#[]}::a.defers} W)
  (V:∀(D:Nat) (c:Code) (pre:List α) (W:World),w.heap.size<=D->h pre->e c pre W->W.heap[D]?=some (.deferred (some []))->c.wpIn Fence.wide n P Q {a with defers:={target:=.collected D,args:=#[]}::a.defers} W) :
  (Code.rangeFunc g #[p,q] assign body).wpIn Fence.wide n P Q a w:=
 zk4 R j U (λ_ _ _ _ _ T _ _=>T) (λm k=>H m k) G L (λ_=>rfl) I e E F s (λx=>{tmps:=(((a.tmps.setIfInBounds p (b x)).setIfInBounds q (d x)).setIfInBounds d1 (b x)).setIfInBounds d2 (d x),defers:=[]})
  (λl x W K hK=>by simpa using J l x W K hK) (λl pre x W t v y z _=>M l pre x W t v y z) O V
theorem zgc(M:a.eval g=.func (.func gf) #[] lb)(i:∀args w,(callFunc gf args).run P w=.ok (.enter gf args) w)
  {b :α -> Value} {Kp:World->World->Prop} {S f:List α -> Prop} {N:Nat} {e:World} (R:zol P gf lb (λx=>#[b x]) Kp S f N e)
  (F:∀ {A B C:World},Kp A B->Kp B C->Kp A C) (E:∀(W:World) (l:Nat) (o U:Obj),w.heap.size<=l->W.heap[l]?=some o->o.isCells=false->o.isWalk=false->Kp W (W.putObj l U)) (H:Below e.heap.size e w)
  (I:List α -> World->Prop) (d:Code->List α -> World->Prop) (y:OwnFrom w.heap.size I) (z:∀c,OwnFrom w.heap.size (d c)) (m:I [] w)
  (G:∀(l:Nat) (x :α) (W:World) (K:Act->World->Prop),K {tmps:=(a.tmps.setIfInBounds p (b x)).setIfInBounds d1 (b x),defers:=[]} W ->
   assign.wpIn (Fence.wide.inRound l) 0 P (Exit.then K (λ_ _ _=>False)) {tmps:=a.tmps.setIfInBounds p (b x),defers:=[]} W)
  (J:∀(l:Nat) (pre:List α) (x :α) (W:World),w.heap.size<=l->(∃r,W.heap[l]?=some (.loop r))->I pre W->pre.length<N->body.wpIn (Fence.wide.inRound l) 0 P (ownPostG w.heap.size Kp I d (pre++[x]) W) {tmps:=(a.tmps.setIfInBounds p (b x)).setIfInBounds d1 (b x),defers:=[]} W)
  (L:∀(D:Nat) (h:List α) (W:World),w.heap.size<=D->S h->I h W->W.heap[D]?=some (.deferred (some []))->Q .normal {a with defers:={target:=.collected D,args:=#[]}::a.defers} W)
  (T:∀(D:Nat) (c:Code) (pre:List α) (W:World),w.heap.size<=D->f pre->d c pre W->W.heap[D]?=some (.deferred (some []))->c.wpIn Fence.wide n P Q {a with defers:={target:=.collected D,args:=#[]}::a.defers} W) :
  (Code.rangeFunc g #[p] assign body).wpIn Fence.wide n P Q a w:=
 zk4 M i R (λ_ _ _ _ _ O _ _=>O) (λj k=>F j k) E H (λ_=>rfl) I d y z m (λx=>{tmps:=(a.tmps.setIfInBounds p (b x)).setIfInBounds d1 (b x),defers:=[]})
  (λl x W K hK=>by simpa using G l x W K hK) (λl pre x W q s t v _=>J l pre x W q s t v) L T
end
end
section
open Go.Proofs.Tryz
open Go.RowKit
section
variable{w:World}{b:Nat}{c0 c1 c2 c3 v1:Value}
theorem zjp(w:World)(b:Nat):
  Calls prog 162 #[.iface 83 (pT b)] w (El w []):=by
 have a:=Zh;have c:=zdw;have d:=zdx;have e:=Z0;have f:=zia;have g:=Yj;have h:=Yk;go_in;go_wp21;go_ret;exact⟨Aa _,.inl ⟨rfl,rfl⟩⟩
theorem znd(c:∃T n,v1=.iface T (pT n))(d:zH w b #[c0,c1,c2,c3,v1] 235):
  Calls prog 162 #[.iface 215 (pT b)] w (El w [v1]):=by
 obtain⟨a,e,rfl⟩:=c;have c0:w.cell? (aD b 4)=some (.iface a (pT e)):=zcR d;have f:=Nn;have g:=Ry;have h:=Rz;have i:=Pi;have j:=Xe;have k:=Km;go_in;go_wp21;go_ret;exact⟨zwA _ _ none,.inr ⟨_,rfl,Ac w _⟩⟩
theorem zne{e:Value}{v2:Value}(f:∃T n,v1=.iface T (pT n))(g:∃T n,v2=.iface T (pT n))(a:zH w b #[c0,c1,c2,c3,e,v1,v2] 140):
  Calls prog 162 #[.iface 136 (pT b)] w (El w [v1,v2]):=by
 obtain⟨c,h,rfl⟩:=f;obtain⟨d,i,rfl⟩:=g;have c0:w.cell? (aD b 5)=some (.iface c (pT h)):=zcR a;have c1:w.cell? (aD b 6)=some (.iface d (pT i)):=zcR a;have j:=No;have k:=Sa;have l:=Sb;have m:=Pj;have o:=Xf;have p:=Kn;have q:=Ko;go_in;go_wp21;go_region;go_wp21;go_ret;exact⟨Ad (zwA _ _ none),.inr ⟨_,rfl,Ac w _⟩⟩
theorem zb8(w:World)(b:Nat):Calls prog 58 #[.iface 83 (pT b)] w λe w'=>e=.returned (.pointer none)/\w=w':=by
 have a:=Yj;have c:=Yk;go_in;go_wp21;go_ret;exact⟨rfl,rfl⟩
theorem zee(w:World)(b:Nat):Calls prog 58 #[.iface 191 (pT b)] w λe w'=>e=.returned (.pointer none)/\w=w':=by
 have a:=Ng;have c:=Nh;go_in;go_wp21;go_ret;exact⟨rfl,rfl⟩
theorem zam(w:World)(b:Nat):Calls prog 58 #[.iface 195 (pT b)] w λe w'=>e=.returned (.pointer none)/\w=w':=by
 have a:=Mn;have c:=Mo;go_in;go_wp21;go_ret;exact⟨rfl,rfl⟩
theorem zb9(w:World)(b:Nat):Calls prog 58 #[.iface 199 (pT b)] w λe w'=>e=.returned (.pointer none)/\w=w':=by
 have a:=Oo;have c:=Oq;go_in;go_wp21;go_ret;exact⟨rfl,rfl⟩
theorem Xo(w:World)(b:Nat):Calls prog 58 #[.iface 204 (pT b)] w λe w'=>e=.returned (.pointer none)/\w=w':=by
 have a:=Ni;have c:=Nj;go_in;go_wp21;go_ret;exact⟨rfl,rfl⟩
theorem zca(w:World)(b:Nat):Calls prog 58 #[.iface 207 (pT b)] w λe w'=>e=.returned (.pointer none)/\w=w':=by
 have a:=Rt;have c:=Ru;go_in;go_wp21;go_ret;exact⟨rfl,rfl⟩
theorem zcb(w:World)(b:Nat):Calls prog 58 #[.iface 209 (pT b)] w λe w'=>e=.returned (.pointer none)/\w=w':=by
 have a:=Rv;have c:=Rw;go_in;go_wp21;go_ret;exact⟨rfl,rfl⟩
theorem Zk(w:World)(b:Nat):Calls prog 58 #[.iface 211 (pT b)] w λe w'=>e=.returned (.pointer none)/\w=w':=by
 have a:=Pf;have c:=Pg;go_in;go_wp21;go_ret;exact⟨rfl,rfl⟩
theorem zgd(w:World)(b:Nat):Calls prog 58 #[.iface 213 (pT b)] w λe w'=>e=.returned (.pointer none)/\w=w':=by
 have a:=Xc;have c:=Xd;go_in;go_wp21;go_ret;exact⟨rfl,rfl⟩
theorem zef(w:World)(b:Nat):Calls prog 58 #[.iface 215 (pT b)] w λe w'=>e=.returned (.pointer (some (aD b 2)))/\w=w':=by
 have a:=Km;go_in;go_wp21;go_ret;exact⟨rfl,rfl⟩
theorem zeg(w:World)(b:Nat):Calls prog 58 #[.iface 136 (pT b)] w λe w'=>e=.returned (.pointer (some (aD b 3)))/\w=w':=by
 have a:=Kn;have c:=Ko;go_in;go_wp21;go_ret;exact⟨rfl,rfl⟩
end
end
end Go.Proofs.YtckhafpejefbbaaGreatDoor
