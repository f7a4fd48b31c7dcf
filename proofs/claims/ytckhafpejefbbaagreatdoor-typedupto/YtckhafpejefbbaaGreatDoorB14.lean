import Derived.Test.YtckhafpejefbbaaGreatDoorB13
import Derived.Lib.LaidTab
import Derived.Lib.Small

set_option maxRecDepth 100000
set_option maxHeartbeats 4000000
namespace Go.Proofs.YtckhafpejefbbaaGreatDoor
section
open Go.RowKit
variable {B:Nat}
theorem Lt:∀(k u:Nat),u<10 ^ (k+1)->0<(Lib.decDigits u).length/\(Lib.decDigits u).length<=k+1
 |0,u,h=>by
  unfold Lib.decDigits;rw[dif_pos (by simpa using h)];simp
 |k+1,u,h=>by
  unfold Lib.decDigits;split
  ·simp
  ·have:=Lt k (u / 10) (by rw[Nat.pow_succ]at h;omega);simp;omega
end
end Go.Proofs.YtckhafpejefbbaaGreatDoor
namespace Go.Proofs.YtckhafpejefbbaaGreatDoor.Tw
section
open Go
inductive Lex:Nat->List UInt8->List Tok->Prop
 |nil (off:Nat):Lex off [] []
 |gap {off:Nat} {m:List UInt8} {ts:List Tok} (h:m ≠ []) (hg:0<gapL m) (hr:Lex (off+(gapL m).toNat) (m.drop (gapL m).toNat) ts):Lex off m ts
 |tok {off:Nat} {m:List UInt8} {ts:List Tok} (h:m ≠ []) (hg:¬0<gapL m) (h0:(Ao m).2≠0) (hr:Lex (off+(Ao m).2.toNat) (m.drop (Ao m).2.toNat) ts):Lex off m (⟨(Ao m).1,off,off+(Ao m).2.toNat⟩::ts)
inductive LexE:Nat->List UInt8->Nat->Prop
 |here {off:Nat} {m:List UInt8} (h:m ≠ []) (hg:¬0<gapL m) (h0:(Ao m).2=0):LexE off m off
 |gap {off:Nat} {m:List UInt8} {k:Nat} (h:m ≠ []) (hg:0<gapL m) (hr:LexE (off+(gapL m).toNat) (m.drop (gapL m).toNat) k):LexE off m k
 |tok {off:Nat} {m:List UInt8} {k:Nat} (h:m ≠ []) (hg:¬0<gapL m) (h0:(Ao m).2≠0) (hr:LexE (off+(Ao m).2.toNat) (m.drop (Ao m).2.toNat) k):LexE off m k
theorem Xr(l:List UInt8):∀(fuel k:Nat) (a:List Tok),k<=l.length->l.length<fuel+k ->
  (∃body,Cb l fuel k a=.ok (a++body++[⟨0,l.length,l.length⟩])/\Lex k (l.drop k) body)\/(∃e,Cb l fuel k a=.error e/\LexE k (l.drop k) e):=by
 intro fuel
 induction fuel with
 |zero=>intro k a o p;omega
 |succ n ih=>
  intro k a o p;rw[Cb];by_cases i:k<l.length
  ·have g:0<(l.drop k).length:=(by simp;omega);have f:l.drop k ≠ []:=(by intro e;rw[e]at g;simp at g);have m:=Rg (l.drop k) g;have j:=Ph (l.drop k) g;simp only[xD]at m j;rw[mA i];by_cases c:0<gapL (l.drop k)
   ·rw[mA c]
    have:=ih (k+(gapL (l.drop k)).toNat) a oM oM;rw[<-List.drop_drop]at this;rcases this with⟨body,h,b⟩|⟨e,h,b⟩
    ·exact .inl ⟨body,h,.gap f c b⟩
    ·exact .inr ⟨e,h,.gap f c b⟩
   ·rw[jA c];by_cases d:(Ao (l.drop k)).2=0
    ·rw[mA d];exact .inr ⟨k,rfl,.here f c d⟩
    ·rw[jA d]
     have:=ih (k+(Ao (l.drop k)).2.toNat) (a++[⟨(Ao (l.drop k)).1,k,k+(Ao (l.drop k)).2.toNat⟩]) oM oM;rw[<-List.drop_drop]at this;rcases this with⟨body,h,b⟩|⟨e,h,b⟩
     ·exact .inl ⟨_::body,by rw[h];simp,.tok f c d b⟩
     ·exact .inr ⟨e,h,.tok f c d b⟩
  ·have q:k=l.length:=oM;subst q;rw[jA i];refine .inl ⟨[],sM,?_⟩;rw[List.drop_length];exact .nil _
theorem Lex.unique:∀ {off:Nat} {m:List UInt8} {b a:List Tok},Lex off m b->Lex off m a->b=a:=by
 intro off m b a h
 induction h generalizing a with
 |nil off=>intro k;cases k with
  |nil=>rfl
  |gap h=>exact absurd rfl h
  |tok h=>exact absurd rfl h
 |gap h hg hr ih=>intro k;cases k with
  |nil=>exact absurd rfl h
  |gap _ _ hr'=>exact ih hr'
  |tok _ hg'=>exact absurd hg hg'
 |tok h hg h0 hr ih=>intro k;cases k with
  |nil=>exact absurd rfl h
  |gap _ hg'=>exact absurd hg' hg
  |tok _ _ _ hr'=>rw[ih hr']
theorem Lex.zla:∀ {off:Nat} {m:List UInt8} {a:List Tok} {e:Nat},Lex off m a->LexE off m e->False:=by
 intro off m a e h
 induction h with
 |nil=>intro k;cases k with
  |here h=>exact absurd rfl h
  |gap h=>exact absurd rfl h
  |tok h=>exact absurd rfl h
 |gap h hg hr ih=>intro k;cases k with
  |here _ hg'=>exact absurd hg hg'
  |gap _ _ hr'=>exact ih hr'
  |tok _ hg'=>exact absurd hg hg'
 |tok h hg h0 hr ih=>intro k;cases k with
  |here _ _ h0'=>exact absurd h0' h0
  |gap _ hg'=>exact absurd hg' hg
  |tok _ _ _ hr'=>exact ih hr'
theorem Hy{l:List UInt8}{c:List Tok}:split l=.ok c↔∃body,Lex 0 l body/\c=body++[⟨0,l.length,l.length⟩]:=by
 have:=Xr l (l.length+1) 0 [] oM oM;simp only[List.drop_zero,rD]at this;constructor
 ·intro h;rcases this with⟨body,a,b⟩|⟨e,a,_⟩
  ·rw[split,a]at h;cases h;exact⟨body,b,rfl⟩
  ·rw[split,a]at h;cases h
 ·rintro⟨body,b,rfl⟩;rcases this with⟨g,a,f⟩|⟨e,a,d⟩
  ·rw[split,a,b.unique f]
  ·exact(b.zla d).elim
end
end Go.Proofs.YtckhafpejefbbaaGreatDoor.Tw
namespace Go.Proofs.YtckhafpejefbbaaGreatDoor
section
abbrev uB:=@Prod.exists
end
end Go.Proofs.YtckhafpejefbbaaGreatDoor
namespace Go.Proofs.YtckhafpejefbbaaGreatDoor.Tw
section
open Go
variable{ts:List Tok}{st st' a b c:PS}{s:Int}
theorem Cr(h:Fb ts st=some st'):st'.stuck=true/\st'.depth=st.depth:=by
 unfold Fb at h;split at h
 ·rename_i d;cases h;exact⟨d,rfl⟩
 ·obtain⟨t,_,h⟩:=zbE.1 h;cases h;exact⟨rfl,rfl⟩
def Mild(st st':PS):Prop:=(st'.stuck=false->st.stuck=false)/\st'.depth=st.depth
theorem Mild.refl(st:PS):Mild st st:=⟨id,rfl⟩
theorem Mild.trans(h:Mild a b)(k:Mild b c):Mild a c:=⟨λx=>h.1 (k.1 x),k.2.trans h.2⟩
theorem Qw(h:Fb ts st=some st'):Mild st st':=⟨λx=>(by rw[(Cr h).1]at x;cases x),(Cr h).2⟩
theorem Ah{t:Tok}(h:Au ts s st=some (t,st')):Mild st st':=by
 unfold Au at h;obtain⟨f,_,h⟩:=zbE.1 h;split at h
 ·split at h
  ·cases h;exact .refl _
  ·split at h
   ·cases h;exact⟨λx=>x,rfl⟩
   ·cases h
 ·obtain⟨e,d,h⟩:=zbE.1 h;cases h;exact Qw d
theorem Ap{ts:List Tok}:∀ {l:List Int} {st st':PS} {k:Int},Ar ts l st=some (k,st')->Mild st st'
 |[],st,st',k,h=>by cases h;exact .refl _
 |s::l,st,st',k,h=>by
  rw[Ar]at h;obtain⟨f,_,h⟩:=zbE.1 h;split at h
  ·obtain⟨⟨g,e⟩,d,h⟩:=zbE.1 h;cases h;exact Ah d
  ·exact Ap h
theorem Hm{k:Nat}(h:Cv ts s st=some (k,st')):(st'.stuck=false->st.stuck=false)/\st'.depth=st.depth+1:=by
 unfold Cv at h;obtain⟨i,d,h⟩:=zbE.1 h;have e:Mild st i:=by
  split at d
  ·exact Qw d
  ·cases d;exact .refl _
 split at h
 ·obtain⟨⟨m,j⟩,g,h⟩:=zbE.1 h;cases h;have f:=Ah g;exact⟨λx=>e.1 (f.1 x),by rw[f.2];simp[e.2]⟩
 ·cases h
theorem Aw(h:endS st=some st'):st'.stuck=st.stuck/\st.depth=st'.depth+1:=by
 unfold endS at h;split at h
 ·cases h
 ·cases h;exact⟨rfl,by simp;omega⟩
theorem El{l:List UInt8}{b:List UInt8×Nat}(h:Ci l ts st=some (b,st')):Mild st st':=by
 unfold Ci at h;obtain⟨⟨f,e⟩,d,h⟩:=zbE.1 h;split at h
 ·cases h;exact Ah d
 ·cases h
theorem Mild.block{d:PS}(e:(b.stuck=false->a.stuck=false)/\b.depth=a.depth+1)(f:Mild b c)(g:d.stuck=c.stuck/\c.depth=d.depth+1):Mild a d:=by
 refine⟨λx=>e.1 (f.1 (by rw[<-g.1];exact x)),?_⟩
 have:=e.2
 have:=f.2
 have:=g.2;omega
section
variable (l:List UInt8)(ts:List Tok)
structure MAll(n:Nat):Prop where
 expr:∀ {st st' t},A8 l ts n st=some (t,st')->Mild st st'
 lett:∀ {st st' t},letS l ts n st=some (t,st')->Mild st st'
 fn:∀ {st st' t},funS l ts n st=some (t,st')->Mild st st'
 cond:∀ {st st' t},Ee l ts n st=some (t,st')->Mild st st'
 cmp:∀ {st st' t},cmpS l ts n st=some (t,st')->Mild st st'
 sum:∀ {st st' t},sumS l ts n st=some (t,st')->Mild st st'
 term:∀ {st st' t},Dp l ts n st=some (t,st')->Mild st st'
 part:∀ {p st st' t},B6 l ts n p st=some (t,st')->Mild st st'
 chain:∀ {p g st st' t},Bs l ts n p g st=some (t,st')->Mild st st'
 chainFrom:∀ {p g a st st' t},Am l ts n p g a st=some (t,st')->Mild st st'
 call:∀ {st st' t},Dj l ts n st=some (t,st')->Mild st st'
 callFrom:∀ {a st st' t},Aq l ts n a st=some (t,st')->Mild st st'
 atom:∀ {st st' t},Cs l ts n st=some (t,st')->Mild st st'
 bracket:∀ {st st' t},Ba l ts n st=some (t,st')->Mild st st'
theorem Bw:∀n,MAll l ts n
 |0=>by constructor<;>(intros;rename_i h;simp[A8,letS,funS,Ee,cmpS,sumS,Dp,B6,Bs,Am,Dj,Aq,Cs,Ba]at h)
 |n+1=>by
  have d:=Bw n;constructor
  ·intro st st' t h;rw[A8]at h;obtain⟨k,_,h⟩:=zbE.1 h;split at h
   ·exact d.lett h
   ·split at h
    ·exact d.fn h
    ·split at h
     ·exact d.cond h
     ·exact d.cmp h
  ·intro st st' t h;simp only[letS,zbE,zsI,zpI,uB]at h;obtain⟨_,_,f,_,_,e,_,_,_,g,_,_,j,_,_,i,_,_,m,_,_,o,_,r,_,rfl⟩:=h;exact Mild.block (Hm f) (((((Ap e).trans (El g)).trans (Ah j)).trans (d.expr i)).trans ((Ah m).trans (d.expr o))) (Aw r)
  ·intro st st' t h;simp only[funS,zbE,zsI,zpI,uB]at h;obtain⟨_,_,f,_,_,_,e,_,_,g,_,_,j,_,i,_,rfl⟩:=h;exact Mild.block (Hm f) (((El e).trans (Ah g)).trans (d.expr j)) (Aw i)
  ·intro st st' t h;simp only[Ee,zbE,zsI,zpI,uB]at h;obtain⟨_,_,f,_,_,e,_,_,g,_,_,j,_,_,i,_,_,m,_,o,_,rfl⟩:=h;exact Mild.block (Hm f) ((((d.expr e).trans (Ah g)).trans (d.expr j)).trans ((Ah i).trans (d.expr m))) (Aw o)
  ·intro st st' t h;simp only[cmpS,zbE,uB]at h;obtain⟨_,_,f,_,_,e,h⟩:=h;split at h
   ·cases h;exact(d.sum f).trans (Ap e)
   ·simp only[zbE,zsI,zpI,uB]at h;obtain⟨_,_,g,_,rfl⟩:=h;exact((d.sum f).trans (Ap e)).trans (d.sum g)
  ·intro st st' t h;rw[sumS]at h;exact d.chain h
  ·intro st st' t h;rw[Dp]at h;exact d.chain h
  ·intro p st st' t h;cases p with
   |term=>rw[B6]at h;exact d.term h
   |call=>rw[B6]at h;exact d.call h
  ·intro p q st st' t h;simp only[Bs,zbE,uB]at h;obtain⟨_,_,f,e⟩:=h;exact(d.part f).trans (d.chainFrom e)
  ·intro p q a st st' t h;simp only[Am,zbE,uB]at h;obtain⟨_,_,f,h⟩:=h;split at h
   ·cases h;exact Ap f
   ·simp only[zbE,uB]at h;obtain⟨_,_,e,g⟩:=h;exact((Ap f).trans (d.part e)).trans (d.chainFrom g)
  ·intro st st' t h;simp only[Dj,zbE,uB]at h;obtain⟨_,_,f,e⟩:=h;exact(d.atom f).trans (d.callFrom e)
  ·intro a st st' t h;simp only[Aq,zbE]at h;obtain⟨_,f,h⟩:=h;split at h
   ·simp only[zbE,uB]at h;obtain⟨_,_,e,g⟩:=h;exact(d.atom e).trans (d.callFrom g)
   ·cases h;exact .refl _
  ·intro st st' t h;simp only[Cs,zbE]at h;obtain⟨k,f,h⟩:=h;split at h
   ·exact d.bracket h
   ·split at h
    ·simp only[zbE,zsI,zpI,uB]at h;obtain⟨_,_,e,_,_,_,rfl⟩:=h;exact Ah e
    ·simp only[zbE,zsI,zpI]at h;obtain⟨_,e,_,rfl⟩:=h;exact Qw e
  ·intro st st' t h;simp only[Ba,zbE,uB]at h;obtain⟨_,_,f,_,_,e,_,_,g,h⟩:=h;split at h
   ·simp only[zbE,zsI,zpI,uB]at h;obtain⟨_,_,j,_,_,i,_,m,_,rfl⟩:=h;exact Mild.block (Hm f) ((((d.expr e).trans (Ap g)).trans (d.expr j)).trans (Ah i)) (Aw m)
   ·simp only[zbE,zsI,zpI,uB]at h;obtain⟨_,_,i,_,m,_,rfl⟩:=h;exact Mild.block (Hm f) (((d.expr e).trans (Ap g)).trans (Ah i)) (Aw m)
end
end
section
open Go
structure zcs(l:List UInt8)(ts:List Tok):Prop where
 few:ts.length<=301
 pos:0<ts.length
 last:∃e,ts[ts.length-1]?=some e/\e.sort=0
 ahead:∀(i:Nat) (t:Tok),i+1<ts.length->ts[i]?=some t->t.sort≠0
 place:∀(i:Nat) (t:Tok),ts[i]?=some t->t.fr<=t.to/\t.to<=l.length
 value:∀(i:Nat) (t:Tok),ts[i]?=some t->t.sort=2->∃v,Lw (Bf l t.fr t.to)=some v
def PS.rem(ts:List Tok)(st:PS):Nat:=if st.stuck then 0 else ts.length-st.next
structure PS.ok(ts:List Tok)(st:PS):Prop where
 deep:st.depth<=41
 live:st.stuck=false->st.depth<=40/\st.next<ts.length
variable {l:List UInt8}{ts:List Tok} (G:zcs l ts)
include G
set_option linter.unusedSectionVars false
theorem Qx{st:PS}(h:st.ok ts):∃t,tokS ts st=some t/\(st.stuck=true->t.sort=0)/\(st.stuck=false->ts[st.next]?=some t)/\(t.sort≠0->st.stuck=false/\st.next+1<ts.length)/\t.fr<=t.to/\t.to<=l.length/\(t.sort=2->∃v,Lw (Bf l t.fr t.to)=some v):=by
 obtain⟨e,b,c⟩:=G.last;unfold tokS;cases j:st.stuck with
 |true=>
  refine⟨e,by simpa using b,λ_=>c,λh=>by simp at h,λh=>absurd c h,(G.place _ _ b).1,(G.place _ _ b).2,λh=>oM⟩
 |false=>
  have i:=(h.live j).2;have a:ts[st.next]?=some ts[st.next]:=fA i;refine⟨ts[st.next],sM,λh=>by simp at h,λ_=>a,λd=>⟨rfl,?_⟩,(G.place _ _ a).1,(G.place _ _ a).2,λd=>G.value _ _ a d⟩;rcases yB (st.next+1) ts.length with g|g
  ·exact g
  ·have:st.next=ts.length-1:=oM;have f:ts[st.next]?=some e:=(by rw[this];exact b);rw[a]at f;exact absurd (by rw[Option.some.inj f];exact c) d
theorem Pn{st:PS}(h:st.stuck=true):st.rem ts=0:=by simp[PS.rem,h]
theorem V2{st:PS}(h:st.ok ts)(a:st.stuck=false):0<st.rem ts:=by
 have:=(h.live a).2;simp[PS.rem,a];omega
theorem Rv{st:PS}(h:st.ok ts):∃st',Fb ts st=some st'/\st'.ok ts/\st'.stuck=true/\st'.depth=st.depth:=by
 obtain⟨t,c,_⟩:=Qx G h;unfold Fb;cases b:st.stuck with
 |true=>exact⟨st,sM,h,b,rfl⟩
 |false=>
  rw[c];exact⟨{st with stuck:=true,fault:=t.fr},sM,⟨h.deep,λa=>by simp at a⟩,rfl,rfl⟩
theorem Fl{st:PS}(h:st.ok ts)(s:Int)(c:s≠0):∃t st',Au ts s st=some (t,st')/\st'.ok ts/\st'.rem ts<=st.rem ts/\(st.stuck=false->st'.rem ts<st.rem ts)/\st'.depth=st.depth/\t.fr<=t.to/\t.to<=l.length:=by
 obtain⟨t,o,p,q,g,d,e,_⟩:=Qx G h;obtain⟨sf,i,j,f,k⟩:=Rv G h;unfold Au;rw[o];simp only[zbS];by_cases b:t.sort=s
 ·rw[mA b,jA c];obtain⟨a,n⟩:=g (by rw[b];exact c);have m:=h.live a;rw[mA (by have:=G.few;omega)];refine⟨t,_,rfl,⟨h.deep,λ_=>⟨m.1,n⟩⟩,?_,λ_=>?_,rfl,d,e⟩
  ·simp[PS.rem,a];omega
  ·simp[PS.rem,a];omega
 ·rw[jA b,i];refine⟨t,sf,rfl,j,by rw[Pn G f];omega,λa=>?_,k,d,e⟩;rw[Pn G f];exact V2 G h a
theorem Rw{st:PS}(h:st.ok ts):∀(g:List Int),(∀x∈g,x≠0)->∃k st',Ar ts g st=some (k,st')/\st'.ok ts/\st'.rem ts<=st.rem ts/\(k≠0->st'.rem ts<st.rem ts)/\st'.depth=st.depth
 |[],_=>⟨0,st,rfl,h,znL _,λh=>absurd rfl h,rfl⟩
 |s::g,hg=>by
  obtain⟨t,n,p,q,d,r,v,_⟩:=Qx G h;rw[Ar,n];simp only[zbS];by_cases a:t.sort=s
  ·rw[mA a];have b:=hg s sM;obtain⟨m,w⟩:=d (by rw[a];exact b);obtain⟨y,st',e,f,i,j,c,_⟩:=Fl G h s b;rw[e];exact⟨_,st',rfl,f,i,λ_=>j m,c⟩
  ·rw[jA a];exact Rw h g (λx o=>hg x (by simp[o]))
theorem Po{st:PS}(h:st.ok ts)(d:st.stuck=false)(s:Int)(f:s≠0):∃k st',Cv ts s st=some (k,st')/\st'.ok ts/\st'.rem ts<st.rem ts/\st'.depth=st.depth+1:=by
 obtain⟨sf,o,r,j,t⟩:=Rv G h;have p:=h.live d;have v:=V2 G h d;unfold Cv;by_cases i:st.depth=40
 ·rw[mA i,o];simp only[zbS];rw[mA oM];have e:PS.ok ts {sf with depth:=sf.depth+1}:=⟨by simp;omega,λm=>by simp[j]at m⟩;obtain⟨q,st',b,c,n,g,a,_⟩:=Fl G e s f;rw[b];refine⟨_,st',rfl,c,?_,by rw[a];simp;omega⟩;have:PS.rem ts {sf with depth:=sf.depth+1}=0:=by simp[PS.rem,j]
  omega
 ·rw[jA i];simp only[zbS];rw[mA oM];have e:PS.ok ts {st with depth:=st.depth+1}:=⟨by simp;omega,λ_=>⟨by simp;omega,p.2⟩⟩;obtain⟨q,st',b,c,n,g,a,_⟩:=Fl G e s f;rw[b];have:PS.rem ts {st with depth:=st.depth+1}=st.rem ts:=by simp[PS.rem]
  have:=g d;exact⟨_,st',rfl,c,oM,by rw[a]⟩
theorem Rx{st:PS}(h:st.ok ts)(b:0<st.depth):∃st',endS st=some st'/\st'.ok ts/\st'.rem ts=st.rem ts:=by
 unfold endS;rw[jA oM];exact⟨_,rfl,⟨by have:=h.deep;simp;omega,λa=>by have:=h.live a;simp;omega⟩,rfl⟩
theorem V3{st:PS}(h:st.ok ts):∃b st',Ci l ts st=some (b,st')/\st'.ok ts/\st'.rem ts<=st.rem ts/\st'.depth=st.depth:=by
 obtain⟨t,st',a,c,d,_,e,f,g⟩:=Fl G h 1 oM;unfold Ci;rw[a];simp only[zbS];rw[mA ⟨f,g⟩];exact⟨_,st',rfl,c,d,e⟩
theorem zjf{t:Tok}(a:t.fr<=t.to)(b:t.to<=l.length)(d:t.sort=2->∃v,Lw (Bf l t.fr t.to)=some v):∃x,Ks l t=some x:=by
 unfold Ks;split
 ·rename_i c;obtain⟨v,e⟩:=d c;rw[mA ⟨a,b⟩,e];exact⟨_,rfl⟩
 ·split
  ·exact⟨_,rfl⟩
  ·split
   ·exact⟨_,rfl⟩
   ·rw[mA ⟨a,b⟩];exact⟨_,rfl⟩
omit G in
def Part.c:Part->Nat
 |.term=>8
 |.call=>5
omit G in
theorem Part.zjg(p:Part):5<=p.c/\p.c<=8:=by cases p<;>simp[Part.c]
omit G in
structure TAll(l:List UInt8)(ts:List Tok)(n:Nat):Prop where
 expr:∀ {st},st.ok ts->20*st.rem ts+12<=n->∃x st',A8 l ts n st=some (x,st')/\st'.ok ts/\st'.rem ts<=st.rem ts
 lett:∀ {st},st.ok ts->st.stuck=false->20*st.rem ts+1<=n->∃x st',letS l ts n st=some (x,st')/\st'.ok ts/\st'.rem ts<=st.rem ts
 fn:∀ {st},st.ok ts->st.stuck=false->20*st.rem ts+1<=n->∃x st',funS l ts n st=some (x,st')/\st'.ok ts/\st'.rem ts<=st.rem ts
 cond:∀ {st},st.ok ts->st.stuck=false->20*st.rem ts+1<=n->∃x st',Ee l ts n st=some (x,st')/\st'.ok ts/\st'.rem ts<=st.rem ts
 cmp:∀ {st},st.ok ts->20*st.rem ts+11<=n->∃x st',cmpS l ts n st=some (x,st')/\st'.ok ts/\st'.rem ts<=st.rem ts
 sum:∀ {st},st.ok ts->20*st.rem ts+10<=n->∃x st',sumS l ts n st=some (x,st')/\st'.ok ts/\st'.rem ts<=st.rem ts
 term:∀ {st},st.ok ts->20*st.rem ts+7<=n->∃x st',Dp l ts n st=some (x,st')/\st'.ok ts/\st'.rem ts<=st.rem ts
 part:∀ {p st},st.ok ts->20*st.rem ts+p.c<=n->∃x st',B6 l ts n p st=some (x,st')/\st'.ok ts/\st'.rem ts<=st.rem ts
 chain:∀ {p g st},(∀x∈g,x≠0)->st.ok ts->20*st.rem ts+(p.c+1)<=n->∃x st',Bs l ts n p g st=some (x,st')/\st'.ok ts/\st'.rem ts<=st.rem ts
 chainFrom:∀ {p g a st},(∀x∈g,x≠0)->st.ok ts->20*st.rem ts+1<=n->∃x st',Am l ts n p g a st=some (x,st')/\st'.ok ts/\st'.rem ts<=st.rem ts
 call:∀ {st},st.ok ts->20*st.rem ts+4<=n->∃x st',Dj l ts n st=some (x,st')/\st'.ok ts/\st'.rem ts<=st.rem ts
 callFrom:∀ {a st},st.ok ts->20*st.rem ts+3<=n->∃x st',Aq l ts n a st=some (x,st')/\st'.ok ts/\st'.rem ts<=st.rem ts
 atom:∀ {st},st.ok ts->20*st.rem ts+2<=n->∃x st',Cs l ts n st=some (x,st')/\st'.ok ts/\st'.rem ts<=st.rem ts/\(st.stuck=false->st'.rem ts<st.rem ts)
 bracket:∀ {st},st.ok ts->st.stuck=false->20*st.rem ts+1<=n->∃x st',Ba l ts n st=some (x,st')/\st'.ok ts/\st'.rem ts<st.rem ts
theorem ze8:∀n,TAll l ts n
 |0=>by constructor<;>intros<;>first|omega|(rename_i p _ _ hn;have:=p.zjg;omega)
 |n+1=>by
  have ih:=ze8 n;have hM:=Bw l ts n;constructor
  ·intro st h hn;obtain⟨t,ht,h1,h2,h3,_⟩:=Qx G h;rw[A8,ht];simp only[zbS];split
   ·rename_i hs;exact ih.lett h (h3 oM).1 oM
   ·split
    ·rename_i hs;exact ih.fn h (h3 oM).1 oM
    ·split
     ·rename_i hs;exact ih.cond h (h3 oM).1 oM
     ·exact ih.cmp h oM
  ·intro st h hs hn;obtain⟨k,s1,e1,o1,r1,d1⟩:=Po G h hs 3 oM;obtain⟨rc,s2,e2,o2,r2,_,d2⟩:=Rw G o1 [4] sM;obtain⟨bd,s3,e3,o3,r3,d3⟩:=V3 G o2;obtain⟨t4,s4,e4,o4,r4,_,d4,_⟩:=Fl G o3 15 oM;obtain⟨x5,s5,e5,o5,r5⟩:=ih.expr o4 oM;have d5:=(hM.expr e5).2;obtain⟨t6,s6,e6,o6,r6,_,d6,_⟩:=Fl G o5 5 oM;obtain⟨x7,s7,e7,o7,r7⟩:=ih.expr o6 oM;have d7:=(hM.expr e7).2;obtain⟨s8,e8,o8,r8⟩:=Rx G o7 oM;rw[letS,e1];simp only[zbS];rw[e2];simp only[zbS];rw[e3];simp only[zbS];rw[e4];simp only[zbS];rw[e5];simp only[zbS];rw[e6];simp only[zbS];rw[e7];simp only[zbS];rw[e8];exact⟨_,s8,rfl,o8,oM⟩
  ·intro st h hs hn;obtain⟨k,s1,e1,o1,r1,d1⟩:=Po G h hs 6 oM;obtain⟨bd,s3,e3,o3,r3,d3⟩:=V3 G o1;obtain⟨t4,s4,e4,o4,r4,_,d4,_⟩:=Fl G o3 14 oM;obtain⟨x5,s5,e5,o5,r5⟩:=ih.expr o4 oM;have d5:=(hM.expr e5).2;obtain⟨s8,e8,o8,r8⟩:=Rx G o5 oM;rw[funS,e1];simp only[zbS];rw[e3];simp only[zbS];rw[e4];simp only[zbS];rw[e5];simp only[zbS];rw[e8];exact⟨_,s8,rfl,o8,oM⟩
  ·intro st h hs hn;obtain⟨k,s1,e1,o1,r1,d1⟩:=Po G h hs 7 oM;obtain⟨x2,s2,e2,o2,r2⟩:=ih.expr o1 oM;have d2:=(hM.expr e2).2;obtain⟨t3,s3,e3,o3,r3,_,d3,_⟩:=Fl G o2 8 oM;obtain⟨x4,s4,e4,o4,r4⟩:=ih.expr o3 oM;have d4:=(hM.expr e4).2;obtain⟨t5,s5,e5,o5,r5,_,d5,_⟩:=Fl G o4 9 oM;obtain⟨x6,s6,e6,o6,r6⟩:=ih.expr o5 oM;have d6:=(hM.expr e6).2;obtain⟨s8,e8,o8,r8⟩:=Rx G o6 oM;rw[Ee,e1];simp only[zbS];rw[e2];simp only[zbS];rw[e3];simp only[zbS];rw[e4];simp only[zbS];rw[e5];simp only[zbS];rw[e6];simp only[zbS];rw[e8];exact⟨_,s8,rfl,o8,oM⟩
  ·intro st h hn;obtain⟨x1,s1,e1,o1,r1⟩:=ih.sum h oM;obtain⟨k,s2,e2,o2,r2,r2',_⟩:=Rw G o1 [23,15] sM;rw[cmpS,e1];simp only[zbS];rw[e2];simp only[zbS];split
   ·exact⟨_,s2,rfl,o2,oM⟩
   ·rename_i hk
    have:=r2' hk;obtain⟨x3,s3,e3,o3,r3⟩:=ih.sum o2 oM;rw[e3];exact⟨_,s3,rfl,o3,oM⟩
  ·intro st h hn;rw[sumS];exact ih.chain (p:=.term) sM h (by simp[Part.c];omega)
  ·intro st h hn;rw[Dp];exact ih.chain (p:=.call) sM h (by simp[Part.c];omega)
  ·intro p st h hn;cases p with
   |term=>rw[B6];exact ih.term h (by simp[Part.c]at hn;omega)
   |call=>rw[B6];exact ih.call h (by simp[Part.c]at hn;omega)
  ·intro p g st hg h hn;obtain⟨x1,s1,e1,o1,r1⟩:=ih.part (p:=p) h oM;obtain⟨x2,s2,e2,o2,r2⟩:=ih.chainFrom (p:=p) (a:=x1) hg o1 (by have:=p.zjg;omega);rw[Bs,e1];simp only[zbS];rw[e2];exact⟨_,s2,rfl,o2,oM⟩
  ·intro p g a st hg h hn;obtain⟨k,s1,e1,o1,r1,r1',_⟩:=Rw G h g hg;rw[Am,e1];simp only[zbS];split
   ·exact⟨_,s1,rfl,o1,r1⟩
   ·rename_i hk
    have:=r1' hk;obtain⟨x2,s2,e2,o2,r2⟩:=ih.part (p:=p) o1 (by have:=p.zjg;omega);rw[e2];simp only[zbS];obtain⟨x3,s3,e3,o3,r3⟩:=ih.chainFrom (p:=p) (a:=.binary a.fr x2.to k a x2) hg o2 oM;rw[e3];exact⟨_,s3,rfl,o3,oM⟩
  ·intro st h hn;obtain⟨x1,s1,e1,o1,r1,_⟩:=ih.atom h oM;obtain⟨x2,s2,e2,o2,r2⟩:=ih.callFrom (a:=x1) o1 oM;rw[Dj,e1];simp only[zbS];rw[e2];exact⟨_,s2,rfl,o2,oM⟩
  ·intro a st h hn;obtain⟨t,ht,h1,h2,h3,_⟩:=Qx G h;rw[Aq,ht];simp only[zbS];split
   ·rename_i hb;have h0:t.sort≠0:=(by intro e;rw[e]at hb;simp[Aj]at hb);obtain⟨x1,s1,e1,o1,r1,r1'⟩:=ih.atom h oM
    have:=r1' (h3 h0).1;rw[e1];simp only[zbS];obtain⟨x2,s2,e2,o2,r2⟩:=ih.callFrom (a:=.call a.fr x1.to a x1) o1 oM;rw[e2];exact⟨_,s2,rfl,o2,oM⟩
   ·exact⟨_,st,rfl,h,znL _⟩
  ·intro st h hn;obtain⟨t,ht,h1,h2,h3,h4,h5,h6⟩:=Qx G h;rw[Cs,ht];simp only[zbS];split
   ·rename_i hs;obtain⟨x1,s1,e1,o1,r1⟩:=ih.bracket h (h3 oM).1 oM;exact⟨x1,s1,e1,o1,oM,λ_=>r1⟩
   ·split
    ·rename_i hb;have h0:t.sort≠0:=(by intro e;rw[e]at hb;simp[Aj]at hb);obtain⟨t',s1,e1,o1,r1,r1',_⟩:=Fl G h t.sort h0;obtain⟨x,hx⟩:=zjf G h4 h5 h6;rw[e1];simp only[zbS];rw[hx];exact⟨_,s1,rfl,o1,r1,r1'⟩
    ·obtain⟨sf,hf,hf1,hf2,hf3⟩:=Rv G h;rw[hf];exact⟨_,sf,rfl,hf1,by rw[Pn G hf2];omega,λhs=>by rw[Pn G hf2];exact V2 G h hs⟩
  ·intro st h hs hn;obtain⟨k,s1,e1,o1,r1,d1⟩:=Po G h hs 16 oM;obtain⟨x2,s2,e2,o2,r2⟩:=ih.expr o1 oM;have d2:=(hM.expr e2).2;obtain⟨c,s3,e3,o3,r3,r3',d3⟩:=Rw G o2 [18] sM;rw[Ba,e1];simp only[zbS];rw[e2];simp only[zbS];rw[e3];simp only[zbS];split
   ·obtain⟨x4,s4,e4,o4,r4⟩:=ih.expr o3 oM;have d4:=(hM.expr e4).2;obtain⟨t5,s5,e5,o5,r5,_,d5,_⟩:=Fl G o4 17 oM;obtain⟨s8,e8,o8,r8⟩:=Rx G o5 oM;rw[e4];simp only[zbS];rw[e5];simp only[zbS];rw[e8];exact⟨_,s8,rfl,o8,oM⟩
   ·obtain⟨t5,s5,e5,o5,r5,_,d5,_⟩:=Fl G o3 17 oM;obtain⟨s8,e8,o8,r8⟩:=Rx G o5 oM;rw[e5];simp only[zbS];rw[e8];exact⟨_,s8,rfl,o8,oM⟩
theorem zg6(n:Nat)(e:6100<=n):∃r,Fk l ts n=some r:=by
 have o:PS.ok ts ⟨0,0,false,0⟩:=⟨sM,λ_=>⟨sM,G.pos⟩⟩;have f:PS.rem ts ⟨0,0,false,0⟩<=301:=by have:=G.few;simp[PS.rem];omega
 obtain⟨x,g,b,a,_⟩:=(ze8 G n).expr o oM;obtain⟨t,d,_⟩:=Qx G a;obtain⟨sf,c,_⟩:=Rv G a;unfold Fk;rw[b];simp only[zbS];unfold Au;rw[d];simp only[zbS,if_true];split
 ·exact⟨_,rfl⟩
 ·rw[c];exact⟨_,rfl⟩
end
end Go.Proofs.YtckhafpejefbbaaGreatDoor.Tw
namespace Go.Proofs.YtckhafpejefbbaaGreatDoor
section
abbrev dD:=@List.mem_of_getElem?
abbrev fE:=@decide_eq_true_eq
end
end Go.Proofs.YtckhafpejefbbaaGreatDoor
namespace Go.Proofs.YtckhafpejefbbaaGreatDoor.Tw
section
open Go
variable{m:List UInt8}
theorem Qf:∀(d:List UInt8) (a k:Nat),(∀c∈d,Bj c.toNat=true)->a<10 ^ k->d.length+k<=18->∃u,Lib.parseUintM (2 ^ 64-1) a d=.ok u/\u<10 ^ (d.length+k)
 |[],a,k,_,ha,_=>⟨a,rfl,by simpa using ha⟩
 |c::r,a,k,hd,ha,hl=>by
  have f:=hd c sM;simp only[Bj,fE]at f;have h:a<10 ^ 17:=aB ha (Nat.pow_le_pow_right oM (by simp at hl;omega));rw[Lib.parseUintM,mA oM,jA oM,jA oM];obtain⟨u,b,e⟩:=Qf r (a*10+(c.toNat-48)) (k+1) (λx g=>hd x (by simp[g])) (by rw[Nat.pow_succ];omega) (by simp at hl;omega);exact⟨u,b,by rw[zB,show r.length+1+k=r.length+(k+1) by omega];exact e⟩
theorem Zu{d:List UInt8}(b:d ≠ [])(a:∀c∈d,Bj c.toNat=true)(h:d.length<=9):∃v,Lw d=some v:=by
 cases d with
 |nil=>exact absurd rfl b
 |cons c r=>
  have g:=a c sM;simp only[Bj,fE]at g;obtain⟨i,e,f⟩:=Qf (c::r) 0 0 a sM oM;have j:i<10 ^ 9:=aB f (Nat.pow_le_pow_right oM (by simpa using h));unfold Lw Lib.parseIntB;simp only;rw[jA (show¬(c.toNat=43\/c.toNat=45) by omega),Lib.parseUintB,jA sM,e];simp only;rw[jA oM,jA oM];exact⟨_,rfl⟩
theorem Od(p:Int->Bool)(m:List UInt8):∀c∈runL p m,p c.toNat=true:=by
 intro c a
 have:=List.all_takeWhile (p:=λc:UInt8=>p c.toNat) (l:=m);exact List.all_eq_true.1 this c a
theorem Yn(p:Int->Bool):∀m:List UInt8,m.take (runL p m).length=runL p m
 |[]=>rfl
 |c::m=>by
  unfold runL;rw[List.takeWhile_cons];split
  ·simp only[zB,List.take_succ_cons]
   have:=Yn p m;unfold runL at this;rw[this]
  ·rfl
theorem Ry(l:List UInt8):Cg l≠0/\Cg l≠2:=by
 unfold Cg
 repeat' split
 all_goals simp
theorem zd0(c:Int):(Gh c).2≠0->(Gh c).1≠0/\(Gh c).1≠2:=by
 unfold Gh
 repeat' split
 all_goals simp
theorem zd1(a:(Ao m).2≠0):(Ao m).1≠0/\((Ao m).1=2->m.take (Ao m).2.toNat ≠ []/\(∀c∈m.take (Ao m).2.toNat,Bj c.toNat=true)/\(m.take (Ao m).2.toNat).length<=9):=by
 unfold Ao at a ⊢;split at a
 ·rename_i f;simp only[f,if_true];unfold Hq at a ⊢;split at a
  ·simp at a
  ·rename_i b;rw[jA b];exact⟨(Ry _).1,λh=>absurd h (Ry _).2⟩
 ·rename_i f;rw[jA f];split at a
  ·rename_i b;simp only[b,if_true];unfold Eu at a ⊢;split at a
   ·simp at a
   ·rename_i d;rw[jA d];refine⟨sM,λ_=>?_⟩;have e:m.take ((2:Int),((runL Bj m).length:Int)).2.toNat=runL Bj m:=by
     show m.take (Int.toNat _)=_;rw[Int.toNat_natCast,Yn]
    rw[e];exact⟨λe=>by rw[e]at a;simp at a,Od _ _,oM⟩
  ·rename_i b;rw[jA b];split at a
   ·rename_i d;simp[d]
   ·rename_i d;rw[jA d]
    have:=zd0 _ a;exact⟨this.1,λh=>absurd h this.2⟩
structure TokOf(off:Nat)(m:List UInt8)(t:Tok):Prop where
 sort:t.sort≠0
 low:off<=t.fr
 lt:t.fr<t.to
 high:t.to<=off+m.length
 int:t.sort=2->Bf m (t.fr-off) (t.to-off) ≠ []/\(∀c∈Bf m (t.fr-off) (t.to-off),Bj c.toNat=true)/\(Bf m (t.fr-off) (t.to-off)).length<=9
theorem TokOf.later{off k:Nat}{t:Tok}(f:k<=m.length)(h:TokOf (off+k) (m.drop k) t):TokOf off m t:=by
 have d:=h.low;have a:=h.lt;have b:=h.high;simp only[xD]at b;have e:Bf (m.drop k) (t.fr-(off+k)) (t.to-(off+k))=Bf m (t.fr-off) (t.to-off):=by
  unfold Bf;rw[List.drop_drop];congr 1
  ·omega
  ·congr 1;omega
 refine⟨h.sort,oM,a,oM,λc=>?_⟩
 have:=h.int c;rw[e]at this;exact this
theorem Lex.toks:∀ {off:Nat} {m:List UInt8} {b:List Tok},Lex off m b->(∀t∈b,TokOf off m t)/\b.length<=m.length:=by
 intro off m b h
 induction h with
 |nil=>simp
 |@gap off m b h hg hr ih=>
  have d:0<m.length:=List.length_pos_iff.2 h;have k:=Rg m d;have c:(gapL m).toNat<=m.length:=oM;refine⟨λt a=>(ih.1 t a).later c,?_⟩
  have:=ih.2;simp only[xD]at this;omega
 |@tok off m b h hg h0 hr ih=>
  have d:0<m.length:=List.length_pos_iff.2 h;have j:=Ph m d;have c:(Ao m).2.toNat<=m.length:=oM;refine⟨λt a=>?_,?_⟩
  ·simp only[zmC]at a;rcases a with rfl|a
   ·obtain⟨e,f⟩:=zd1 h0;refine⟨e,znL _,by simp;omega,by simp;omega,λi=>?_⟩
    have:=f i;have g:Bf m (off-off) (off+(Ao m).2.toNat-off)=m.take (Ao m).2.toNat:=by
     unfold Bf;rw[Nat.sub_self,List.drop_zero,Nat.sub_zero,Nat.add_sub_cancel_left]
    simp only;rw[g];exact this
   ·exact(ih.1 t a).later c
  ·have:=ih.2;simp only[xD]at this;simp;omega
theorem zd2{l:List UInt8}{j:List Tok}(h:split l=.ok j)(q:l.length<=300):zcs l j:=by
 obtain⟨d,k,rfl⟩:=Hy.1 h;obtain⟨e,p⟩:=k.toks;have f:∀(i:Nat) (t:Tok),(d++[⟨0,l.length,l.length⟩])[i]?=some t->(i<d.length/\t∈d)\/t=⟨0,l.length,l.length⟩:=by
  intro i t b;rcases yB i d.length with a|a
  ·rw[iA a]at b;exact .inl ⟨a,dD b⟩
  ·rw[fB a]at b
   have:=dD b;simp only[xB]at this;exact .inr this
 refine⟨by simp;omega,sM,⟨⟨0,l.length,l.length⟩,sM,rfl⟩,?_,?_,?_⟩
 ·intro i t b c;rw[iA (by simp at b;omega)]at c;exact(e t (dD c)).sort
 ·intro i t c;rcases f i t c with⟨_,a⟩|rfl
  ·have:=e t a;have n:=this.lt;have o:=this.high;omega
  ·simp
 ·intro i t c g;rcases f i t c with⟨_,a⟩|rfl
  ·have:=(e t a).int g;simp only[Nat.sub_zero]at this;exact Zu this.1 this.2.1 this.2.2
  ·simp at g
end
section
open Go
structure Mv where
 fr:Nat->Nat
 to:Nat->Nat
 val:Nat->Int->Int
 nm:Nat->List UInt8->List UInt8
def Dg(s:Int):Bool:=decide (s ∉ [23,15,19,20,21,22,1,2,10,11,12,13,16])
variable {l1 l2:List UInt8}{ts1 ts2:List Tok}{o N dd:Nat}{m:Mv}
theorem zd3{b:List Tok}{s:Int}{st st':PS}{t:Tok}(h:Au b s st=some (t,st'))(a:st'.stuck=false)(g:s≠0):tokS b st=some t/\t.sort=s/\st'={st with next:=st.next+1}/\st.next<=300:=by
 unfold Au at h;obtain⟨j,f,h⟩:=zbE.1 h;split at h
 ·rename_i e;split at h
  ·rename_i d;cases h;exact⟨f,e,rfl,d⟩
  ·cases h
 ·obtain⟨i,c,h⟩:=zbE.1 h;cases h;rw[(Cr c).1]at a;cases a
end
section
open Go
theorem V4{d:List Tok}{s:Int}{st st':PS}{k:Nat}(h:Cv d s st=some (k,st'))(a:st'.stuck=false):st.depth≠40/\st'.depth=st.depth+1/\st.stuck=false:=by
 have m:=Hm h;refine⟨λe=>?_,m.2,m.1 a⟩;unfold Cv at h;rw[mA e]at h;obtain⟨f,b,h⟩:=zbE.1 h;split at h
 ·obtain⟨⟨i,g⟩,c,h⟩:=zbE.1 h;cases h
  have:=(Ah c).1 a;simp only at this;rw[(Cr b).1]at this;cases this
 ·cases h
end
section
open Go
theorem Cq:∀(t:T) (env:List (List UInt8)) (we:WEn),t.freeS env=none->(∀x,env.contains x=true->∃k,we.look x=some k)->∃w,Ae t we=some w
 |.name fr to x,env,we,h,hE=>by
  simp only[T.freeS]at h;split at h
  ·rename_i j;obtain⟨k,s⟩:=hE x j;exact⟨_,by simp only[Ae];rw[s];rfl⟩
  ·cases h
 |.int ..,_,_,_,_=>⟨_,rfl⟩
 |.truth ..,_,_,_,_=>⟨_,rfl⟩
 |.side ..,_,_,_,_=>⟨_,rfl⟩
 |.bracket _ _ i,env,we,h,hE=>by
  obtain⟨w,p⟩:=Cq i env we h hE;exact⟨_,by simp only[Ae];rw[p];rfl⟩
 |.pair _ _ l r,env,we,h,hE=>by
  simp only[T.freeS,Option.or_eq_none_iff]at h;obtain⟨m,a⟩:=Cq l env we h.1 hE;obtain⟨o,e⟩:=Cq r env we h.2 hE;exact⟨_,by simp only[Ae];rw[a,e];rfl⟩
 |.call _ _ l r,env,we,h,hE=>by
  simp only[T.freeS,Option.or_eq_none_iff]at h;obtain⟨m,a⟩:=Cq l env we h.1 hE;obtain⟨o,e⟩:=Cq r env we h.2 hE;exact⟨_,by simp only[Ae];rw[a,e];rfl⟩
 |.binary _ _ _ l r,env,we,h,hE=>by
  simp only[T.freeS,Option.or_eq_none_iff]at h;obtain⟨m,a⟩:=Cq l env we h.1 hE;obtain⟨o,e⟩:=Cq r env we h.2 hE;exact⟨_,by simp only[Ae];rw[a,e];rfl⟩
 |.cond _ _ c t f,env,we,h,hE=>by
  simp only[T.freeS,Option.or_eq_none_iff]at h;obtain⟨m,a⟩:=Cq c env we h.1.1 hE;obtain⟨o,e⟩:=Cq t env we h.1.2 hE;obtain⟨y,q⟩:=Cq f env we h.2 hE;exact⟨_,by simp only[Ae];rw[a,e,q];rfl⟩
 |.fn _ _ bn _ b,env,we,h,hE=>by
  have n:∀x,(bn::env).contains x=true->∃k,(WEn.cons bn 1 we).look x=some k:=λx j=>by
   simp only[WEn.look];by_cases g:bn=x
   ·exact⟨1,by rw[mA g]⟩
   ·rw[jA g];simp only[List.contains_cons,Bool.or_eq_true,beq_iff_eq]at j;exact j.elim (λh=>absurd h.symm g) (hE x)
  obtain⟨w,p⟩:=Cq b (bn::env) _ h n;exact⟨_,by simp only[Ae];rw[p];rfl⟩
 |.lett _ _ rc bn _ d b,env,we,h,hE=>by
  have n:∀k x,(bn::env).contains x=true->∃v,(WEn.cons bn k we).look x=some v:=λk x j=>by
   simp only[WEn.look];by_cases g:bn=x
   ·exact⟨k,by rw[mA g]⟩
   ·rw[jA g];simp only[List.contains_cons,Bool.or_eq_true,beq_iff_eq]at j;exact j.elim (λh=>absurd h.symm g) (hE x)
  simp only[T.freeS,Option.or_eq_none_iff]at h;obtain⟨m,a⟩:∃w,Ae d (if rc then .cons bn 1 we else we)=some w:=by
   cases rc with
   |true=>exact Cq d (bn::env) _ h.1 (n 1)
   |false=>exact Cq d env _ h.1 hE
  obtain⟨o,e⟩:=Cq b (bn::env) (.cons bn m we) h.2 (n m);exact⟨_,by simp only[Ae];rw[a];simp only[zbS];rw[e];rfl⟩
theorem zjh(t:T):∃c f,∀n,c<=n->Ku n t=some f:=by
 cases a:t.freeS []with
 |some p=>exact⟨0,.fault 4 p,λn _=>by rw[Ku,a]⟩
 |none=>
  obtain⟨w,b⟩:=Cq t [] .nil a sM;by_cases d:2000<w
  ·exact⟨0,.fault 10 0,λn _=>by rw[Ku,a];simp only;rw[b];simp only[zbS];rw[mA d]⟩
  ·obtain⟨c,r,g,_⟩:=Zt b oM;cases r with
   |none=>exact⟨c,.fault 5 0,λn e=>by rw[Ku,a];simp only;rw[b];simp only[zbS];rw[jA d,g n e];rfl⟩
   |some sh=>exact⟨c,.fine t sh,λn e=>by rw[Ku,a];simp only;rw[b];simp only[zbS];rw[jA d,g n e];rfl⟩
theorem zji(l:List UInt8):∃e c,∀n,e<=n->Ie 6100 n l=some c:=by
 by_cases a:300<l.length
 ·exact⟨0,.fault 1 0,λn _=>by rw[Ie,mA a]⟩
 ·cases b:split l with
  |error p=>exact⟨0,.fault 2 p,λn _=>by rw[Ie,jA a,Qn,b]⟩
  |ok ts=>
   obtain⟨r,d⟩:=zg6 (zd2 b oM) 6100 oM;cases r with
   |error p=>exact⟨0,.fault 3 p,λn _=>by rw[Ie,jA a,Qn,b];simp only;rw[d];rfl⟩
   |ok t=>
    obtain⟨h,c,g⟩:=zjh t;exact⟨h,c,λn f=>by rw[Ie,jA a,Qn,b];simp only;rw[d];exact g n f⟩
theorem Kk{c b:Nat}{l:List UInt8}{t:T}{sh:List UInt8}(h:Ie c b l=some (.fine t sh)):l.length<=300/\∃body,Lex 0 l body/\split l=.ok (body++[⟨0,l.length,l.length⟩])/\Fk l (body++[⟨0,l.length,l.length⟩]) c=some (.ok t)/\Ku b t=some (.fine t sh):=by
 unfold Ie at h;split at h
 ·cases h
 ·rename_i g;refine⟨oM,?_⟩;unfold Qn at h;cases a:split l with
  |error p=>rw[a]at h;cases h
  |ok ts=>
   rw[a]at h;simp only[zbE]at h;obtain⟨r,f,h⟩:=h;cases r with
   |error p=>cases h
   |ok t'=>
    obtain⟨body,d,rfl⟩:=Hy.1 a;have e:t'=t:=by
     simp only at h;unfold Ku at h;split at h
     ·cases h
     ·simp only[zbE]at h;obtain⟨k,_,h⟩:=h;split at h
      ·cases h
      ·simp only[zbE]at h;obtain⟨o,_,h⟩:=h;cases o with
       |none=>cases h
       |some s=>cases h;rfl
    subst e;exact⟨body,d,rfl,f,h⟩
end
end Go.Proofs.YtckhafpejefbbaaGreatDoor.Tw
namespace Go.Proofs.YtckhafpejefbbaaGreatDoor
section
open Go.RowKit
theorem zbh(x:Int)(n:Nat)(a:0<=x)(b:0<n):∃r:Nat,x.tmod n=r/\r<n:=by
 refine⟨(x.tmod n).toNat,?_,?_⟩
 ·rw[Int.tmod_eq_emod_of_nonneg a]
  have:=Int.emod_nonneg x (show(n:Int)≠0 by omega);omega
 ·rw[Int.tmod_eq_emod_of_nonneg a]
  have:=Int.emod_nonneg x (show(n:Int)≠0 by omega)
  have:=Int.emod_lt_of_pos x (show(0:Int)<n by omega);omega
end
section
open Go.Proofs.Tryz
open Go.RowKit
variable{u x:Nat}{acc:List UInt8}
theorem Lc(w:World)(c:UInt8):(convert 66 9 (sL w.heap.size 1 1)).run prog (w.alloc (.cells #[vU c.toNat] 5))=.ok (ug [c]) (w.alloc (.cells #[vU c.toNat] 5)):=by
 have:=run_convert_bytes_back (P:=prog) (w.alloc (.cells #[vU c.toNat] 5)) 66 9 5 (aD w.heap.size 0) 1 [c] underlying66 underlying5 underlying9 (by
  intro j a;have:j=0:=by simpa using a
  subst this;rw[show(Addr.add (aD w.heap.size 0) 0)=((aD w.heap.size 0):Addr)from by simp[Addr.add]];exact(Ge (Ac w _)).1)
 exact this
def DigRel(u x:Nat)(acc:List UInt8):Prop:=(acc=[]/\x=u)\/(acc ≠ []/\Lib.decDigits u=(if x=0 then acc else Lib.decDigits x++acc))
theorem DigRel.step{u x:Nat}{acc:List UInt8}(h:DigRel u x acc)(a:0<x\/acc=[]):DigRel u (x / 10) (UInt8.ofNat (48+x % 10)::acc):=by
 refine .inr ⟨sM,?_⟩;have e:Lib.decDigits u=Lib.decDigits x++acc:=by
  rcases h with⟨rfl,rfl⟩|⟨c,h⟩
  ·simp
  ·rcases a with a|a
   ·rw[h,jA oM]
   ·exact absurd a c
 rw[e];by_cases b:x<10
 ·rw[mA oM];have:Lib.decDigits x=[UInt8.ofNat (48+x)]:=by unfold Lib.decDigits;rw[dif_pos b]
  rw[this,show x % 10=x from oM];rfl
 ·rw[jA oM];have:Lib.decDigits x=Lib.decDigits (x / 10)++[UInt8.ofNat (48+x % 10)]:=by
   conv=>lhs;unfold Lib.decDigits
   rw[dif_neg b]
  rw[this,wA];rfl
theorem DigRel.done(h:DigRel u x acc)(b:x=0)(a:acc ≠ []):acc=Lib.decDigits u:=by
 rcases h with⟨h,_⟩|⟨_,h⟩
 ·exact absurd h a
 ·rw[h,mA b]
theorem DigRel.len(h:DigRel u x acc)(b:u<9223372036854775808):acc.length<=19:=by
 have a:=(Lt 18 u oM).2;rcases h with⟨rfl,_⟩|⟨_,h⟩
 ·simp
 ·rw[h]at a;split at a
  ·exact a
  ·simp at a;omega
theorem zg7(c:Nat)(acc:List UInt8):Value.string ({data:=#[48+UInt8.ofNat c]} ++ {data:=acc.toArray})=ug (UInt8.ofNat (48+c)::acc):=by
 have e:(48+UInt8.ofNat c:UInt8)=UInt8.ofNat (48+c):=by simp[UInt8.ofNat_add]
 rw[e];rfl
end
end Go.Proofs.YtckhafpejefbbaaGreatDoor
