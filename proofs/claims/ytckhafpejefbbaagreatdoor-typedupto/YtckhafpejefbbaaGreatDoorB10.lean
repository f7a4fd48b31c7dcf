import Derived.Test.YtckhafpejefbbaaGreatDoorB09

set_option maxRecDepth 100000
set_option maxHeartbeats 4000000
namespace Go.Proofs.YtckhafpejefbbaaGreatDoor
section
abbrev eA:=@List.length_append
abbrev iA:=@List.getElem?_append_left
abbrev fB:=@List.getElem?_append_right
abbrev wB:=@List.length_singleton
abbrev yB:=@Nat.lt_or_ge
end
end Go.Proofs.YtckhafpejefbbaaGreatDoor
namespace Go.Proofs.YtckhafpejefbbaaGreatDoor.Tw
section
open Go
structure AOk(st st':SS)(x:Sh):Prop where
 wf:∃f,st'.Wf f
 len:st'.shs.length=st.shs.length+1
 clash:st'.clash=st.clash
 old:∀(r:Nat) (y:Sh),st.shs[r]?=some y->st'.shs[r]?=some y
 sat:∀ {v:Nat->Ty},st'.sat v↔st.sat v/\x.says v st.shs.length
 closed:∀ {P},st.Closed P->st'.Closed P
theorem Lo{st:SS}{f:Nat->Nat}(W:st.Wf f){of:Int}{l r:Nat}(Q:of=0\/of=1\/of=2\/of=3\/of=4)(B:l<st.shs.length+1)(F:r<st.shs.length+1)(I:of≠3->of≠4->l=0/\r=0)(o:st.shs.length<=10000000):
  ∃st',addS of l r st=some (st.shs.length,st')/\AOk st st' ⟨of,l,r,st.shs.length⟩:=by
 refine⟨_,by rw[addS,mA o],?_⟩;have t:∀(q:Nat) (y:Sh),st.shs[q]?=some y->(st.shs++[(⟨of,l,r,st.shs.length⟩:Sh)])[q]?=some y:=λq y h=>by
  rw[iA (zlE.1 h).1];exact h
 have new:∀(q:Nat) (y:Sh),(st.shs++[(⟨of,l,r,st.shs.length⟩:Sh)])[q]?=some y->st.shs[q]?=some y\/(q=st.shs.length/\y=⟨of,l,r,st.shs.length⟩):=λq y h=>by
  rcases yB q st.shs.length with g|g
  ·rw[iA g]at h;exact .inl h
  ·rw[fB g]at h;have d:=(zlE.1 h).1;simp at d;have:q=st.shs.length:=oM;subst this;simp at h;exact .inr ⟨rfl,h.symm⟩
 have i:(st.shs++[(⟨of,l,r,st.shs.length⟩:Sh)])[st.shs.length]?=some ⟨of,l,r,st.shs.length⟩:=sM;have m:∀q p,RootOf st q p->RootOf {st with shs:=st.shs++[(⟨of,l,r,st.shs.length⟩:Sh)]} q p:=by
  intro q p h
  induction h with
  |here a d=>exact .here (t _ _ a) d
  |step a d _ ih=>exact .step (t _ _ a) d ih
 have root:∀q p,RootOf {st with shs:=st.shs++[(⟨of,l,r,st.shs.length⟩:Sh)]} q p->RootOf st q p\/(q=st.shs.length/\p=st.shs.length):=by
  intro q p h;have g:=h.lt.1;simp at g;rcases yB q st.shs.length with a|a
  ·obtain⟨T,C⟩:=W.rooted a
   have:=(m q T C).unique h;subst this;exact .inl C
  ·have:q=st.shs.length:=oM;subst this;exact .inr ⟨rfl,(RootOf.here (x:=⟨of,l,r,st.shs.length⟩) i rfl).unique h|>.symm⟩
 refine⟨⟨f,?_,?_,?_,?_,?_⟩,sM,rfl,t,λ{v}=>⟨λs=>⟨⟨s.clash,λq p h=>s.root q p (m q p h),λq y h=>s.shape q y (t q y h)⟩,s.shape _ _ i⟩,λ⟨s,h⟩=>⟨s.clash,λq p g=>?_,λq y b=>?_⟩⟩,λ{X} c=>?_⟩
 ·intro q y b o;rcases new q y b with h|⟨h,rfl⟩
  ·exact W.rank q y h o
  ·exact absurd h.symm o
 ·intro q y b;simp only[eA,wB];rcases new q y b with h|⟨h,rfl⟩
  ·have:=W.range q y h;omega
  ·exact⟨sM,B,F⟩
 ·intro q y b;rcases new q y b with h|⟨h,rfl⟩
  ·exact W.sort q y h
  ·exact Q
 ·intro q y b;rcases new q y b with h|⟨h,rfl⟩
  ·exact W.leaf q y h
  ·exact I
 ·intro q p y z b A n O;rcases root q p A with h|⟨a,d⟩
  ·have g:=h.lt;rcases new q y b with e|⟨e,_⟩
   ·rcases new p z n with j|⟨j,_⟩
    ·exact W.like q p y z e h j O
    ·omega
   ·omega
  ·subst a;subst d
   have:=i.symm.trans b;have e:=i.symm.trans n;cases this;cases e;rfl
 ·rcases root q p g with a|⟨a,d⟩
  ·exact s.root q p a
  ·rw[a,d]
 ·rcases new q y b with a|⟨a,rfl⟩
  ·exact s.shape q y a
  ·rw[a];exact h
 ·intro R N w M q p y z b A n S;rcases root q p A with h|⟨a,d⟩
  ·have g:=h.lt;rcases new q y b with e|⟨e,_⟩
   ·rcases new p z n with j|⟨j,_⟩
    ·exact c R N (λG H ⟨k,J,L⟩=>w G H ⟨k,m _ _ J,m _ _ L⟩) M q p y z e h j S
    ·omega
   ·omega
  ·subst a;subst d;have e:=i.symm.trans b;have j:=i.symm.trans n;cases e;cases j;have rooted:∀k,k<st.shs.length+1->∃p,RootOf {st with shs:=st.shs++[(⟨of,l,r,st.shs.length⟩:Sh)]} k p:=λk Y=>by
    rcases yB k st.shs.length with a|a
    ·obtain⟨p,P⟩:=W.rooted a;exact⟨p,m _ _ P⟩
    ·have:k=st.shs.length:=oM;subst this;exact⟨_,.here i rfl⟩
   obtain⟨U,D⟩:=rooted l B;obtain⟨V,E⟩:=rooted r F;exact⟨w _ _ ⟨U,D,D⟩,w _ _ ⟨V,E,E⟩⟩
inductive TEn where
 |nil
 |fix (name:List UInt8) (a:Ty) (o:TEn)
 |dfn (name:List UInt8) (t:T) (o:TEn)
def TEn.look:TEn->List UInt8->Option (Ty ⊕ (T×TEn))
 |.nil,_=>none
 |.fix n a o,x=>if n=x then some (.inl a)else o.look x
 |.dfn n t o,x=>if n=x then some (.inr (t,o))else o.look x
mutual
inductive Typ:T->TEn->Ty->Prop
 |name {fr to:Nat} {x:List UInt8} {e:TEn} {a:Ty} (h:e.look x=some (.inl a)):Typ (.name fr to x) e a
 |use {fr to:Nat} {x:List UInt8} {e o:TEn} {t:T} {a:Ty} (h:e.look x=some (.inr (t,o))) (hd:DTyp t o a):Typ (.name fr to x) e a
 |int {fr to:Nat} {v:Int} {e:TEn}:Typ (.int fr to v) e .int
 |truth {fr to:Nat} {b:Bool} {e:TEn}:Typ (.truth fr to b) e .bool
 |side {fr to:Nat} {b:Bool} {e:TEn} {a c:Ty}:Typ (.side fr to b) e (.fn (.pair a c) (if b then c else a))
 |bracket {fr to:Nat} {i:T} {e:TEn} {a:Ty} (h:Typ i e a):Typ (.bracket fr to i) e a
 |pair {fr to:Nat} {l r:T} {e:TEn} {a b:Ty} (hl:Typ l e a) (hr:Typ r e b):Typ (.pair fr to l r) e (.pair a b)
 |call {fr to:Nat} {f x:T} {e:TEn} {a b:Ty} (hf:Typ f e (.fn a b)) (hx:Typ x e a):Typ (.call fr to f x) e b
 |binary {fr to:Nat} {s:Int} {l r:T} {e:TEn} (hl:Typ l e .int) (hr:Typ r e .int):Typ (.binary fr to s l r) e (if s=23\/s=15 then .bool else .int)
 |cond {fr to:Nat} {c t f:T} {e:TEn} {a:Ty} (hc:Typ c e .bool) (ht:Typ t e a) (hf:Typ f e a):Typ (.cond fr to c t f) e a
 |fn {fr to bat:Nat} {bn:List UInt8} {b:T} {e:TEn} {a c:Ty} (h:Typ b (.fix bn a e) c):Typ (.fn fr to bn bat b) e (.fn a c)
 |lett {fr to bat:Nat} {rc:Bool} {bn:List UInt8} {d b:T} {e:TEn} {a c:Ty} (hd:DTyp (.lett fr to rc bn bat d b) e a) (hb:Typ b (.dfn bn (.lett fr to rc bn bat d b) e) c):Typ (.lett fr to rc bn bat d b) e c
inductive DTyp:T->TEn->Ty->Prop
 |plain {fr to bat:Nat} {bn:List UInt8} {d b:T} {e:TEn} {a:Ty} (h:Typ d e a):DTyp (.lett fr to false bn bat d b) e a
 |recu {fr to bat:Nat} {bn:List UInt8} {d b:T} {e:TEn} {a:Ty} (h:Typ d (.fix bn a e) a):DTyp (.lett fr to true bn bat d b) e a
end
variable{v:Nat->Ty}{x:Sh}{f:Nat->Nat}
def En.val(v:Nat->Ty):En->TEn
 |.nil=>.nil
 |.fix n r o=>.fix n (v r) (o.val v)
 |.dfn n t o=>.dfn n t (o.val v)
theorem En.look_val(v:Nat->Ty)(x:List UInt8):∀e:En,(e.val v).look x=(e.look x).map λ|.inl r=>.inl (v r)|.inr (t,o)=>.inr (t,o.val v)
 |.nil=>rfl
 |.fix n r o=>by
  simp only[En.val,TEn.look,En.look];split
  ·rfl
  ·exact En.look_val v x o
 |.dfn n t o=>by
  simp only[En.val,TEn.look,En.look];split
  ·rfl
  ·exact En.look_val v x o
def En.upto(n:Nat):En->Prop
 |.nil=>True
 |.fix _ r o=>r<n/\o.upto n
 |.dfn _ _ o=>o.upto n
theorem En.upto.mono{n m:Nat}(h:n<=m):∀ {e:En},e.upto n->e.upto m
 |.nil,_=>trivial
 |.fix ..,k=>⟨by have:=k.1;omega,En.upto.mono h k.2⟩
 |.dfn _ _ o,k=>En.upto.mono (e:=o) h k
theorem En.upto.look{n:Nat}{x:List UInt8}:∀ {e:En},e.upto n->(∀r,e.look x=some (.inl r)->r<n)/\∀t o,e.look x=some (.inr (t,o))->o.upto n
 |.nil,_=>⟨λ_ h=>by simp[En.look]at h,λ_ _ h=>by simp[En.look]at h⟩
 |.fix nm r o,k=>by
  have a:=En.upto.look (x:=x) k.2;simp only[En.look];split
  ·exact⟨λ_ h=>(by cases h;exact k.1),λ_ _ h=>(by cases h)⟩
  ·exact a
 |.dfn nm t o,k=>by
  have a:=En.upto.look (x:=x) (e:=o) k;simp only[En.look];split
  ·exact⟨λ_ h=>(by cases h),λ_ _ h=>(by cases h;exact k)⟩
  ·exact a
def Agree(n:Nat)(v a:Nat->Ty):Prop:=∀r,r<n->a r=v r
theorem En.val_agree{n:Nat}{v a:Nat->Ty}(h:Agree n v a):∀ {e:En},e.upto n->e.val a=e.val v
 |.nil,_=>rfl
 |.fix ..,k=>by simp only[En.val];rw[h _ k.1,En.val_agree h k.2]
 |.dfn _ _ o,k=>by simp only[En.val];rw[En.val_agree (e:=o) h k]
theorem Agree.trans{n m:Nat}{a b c:Nat->Ty}(h:Agree n a b)(k:Agree m b c)(e:n<=m):Agree n a c:=λr d=>(k r oM).trans (h r d)
def SS.base(st:SS):Prop:=(∃x,st.shs[0]?=some x/\x.sort=1)/\∃x,st.shs[1]?=some x/\x.sort=2
theorem SS.base.len{st:SS}(h:st.base):2<=st.shs.length:=by
 obtain⟨_,x,a,_⟩:=h
 have:=(zlE.1 a).1;omega
theorem SS.base.vals{st:SS}(h:st.base)(s:st.sat v):v 0=.int/\v 1=.bool:=by
 obtain⟨⟨x,a,b⟩,y,c,d⟩:=h;exact⟨(s.shape 0 x a).1 b,(s.shape 1 y c).2.1 d⟩
structure IOk(J:TEn->Ty->Prop)(e:En)(st st':SS)(r k:Nat):Prop where
 wf:∃f,st'.Wf f
 lt:r<st'.shs.length
 low:st.shs.length<=st'.shs.length
 high:st'.shs.length<=st.shs.length+k
 base:st'.base
 clash:st'.clash=false->st.clash=false
 closed:st.Closed []->st'.clash=false->st'.Closed []
 sound:∀ {v:Nat->Ty},st'.sat v->st.sat v/\J (e.val v) (v r)
 complete:∀ {v:Nat->Ty} {a:Ty},st.sat v->J (e.val v) a->∃v',Agree st.shs.length v v'/\st'.sat v'/\v' r=a
def IGood(run:Nat->SS->Option (Nat×SS))(J:TEn->Ty->Prop)(e:En)(k:Nat):Prop:=
 ∀(a:SS) (f:Nat->Nat),a.Wf f->a.base->e.upto a.shs.length->a.shs.length+k<=10000000->∃c r b,(∀n,c<=n->run n a=some (r,b))/\IOk J e a b r k
theorem IGood.mono{run:Nat->SS->Option (Nat×SS)}{J:TEn->Ty->Prop}{e:En}{k k':Nat}(h:IGood run J e k)(l:k<=k'):IGood run J e k':=λi f W b d m=>by
 obtain⟨g,r,j,c,a⟩:=h i f W b d oM;exact⟨g,r,j,c,{a with high:=by have:=a.high;omega}⟩
theorem AOk.base{st st':SS}(h:AOk st st' x)(b:st.base):st'.base:=by
 obtain⟨⟨x,a,c⟩,y,d,e⟩:=b;exact⟨⟨x,h.old _ _ a,c⟩,y,h.old _ _ d,e⟩
theorem UOk.base{st st':SS}{a b:Nat}(h:UOk st st' a b)(k:st.base):st'.base:=by
 obtain⟨⟨x,i,j⟩,y,l,m⟩:=k;obtain⟨n,c,d,_⟩:=h.shape _ _ i;obtain⟨o,e,g,_⟩:=h.shape _ _ l;exact⟨⟨n,c,d.trans j⟩,o,e,g.trans m⟩
theorem SS.Closed.more{st:SS}{P Q:List (Nat×Nat)}(h:st.Closed P)(e:∀q∈P,q∈Q):st.Closed Q:=λR b c a=>h R b c (λq d=>a q (e q d))
def upd(v:Nat->Ty)(r:Nat)(a:Ty):Nat->Ty:=λq=>if q=r then a else v q
theorem Ii(v:Nat->Ty)(n:Nat)(a:Ty):Agree n v (upd v n a):=λr b=>by unfold upd;rw[jA oM]
theorem SS.sat.agree{st:SS}(W:st.Wf f){c:Nat->Ty}(s:st.sat v)(h:Agree st.shs.length v c):st.sat c:=by
 refine⟨s.clash,λr p a=>?_,λr x b=>?_⟩
 ·rw[h r a.lt.1,h p a.lt.2];exact s.root r p a
 ·have a:=(zlE.1 b).1;obtain⟨_,d,e⟩:=W.range r x b
  have:=s.shape r x b;unfold Sh.says at this ⊢;rw[h r a,h _ d,h _ e];exact this
theorem AOk.put{st st':SS}(A:AOk st st' x)(W:st.Wf f)(s:st.sat v){a:Ty}(h:x.says (upd v st.shs.length a) st.shs.length):∃b,Agree st.shs.length v b/\st'.sat b/\b st.shs.length=a:=
 ⟨upd v st.shs.length a,Ii _ _ _,A.sat.2 ⟨s.agree W (Ii _ _ _),h⟩,by simp[upd]⟩
end
section
open Go
variable{run run1 run2:Nat->SS->Option (Nat×SS)}{J J1 J2:TEn->Ty->Prop}{e:En}{k k1 k2:Nat}{bn:List UInt8}
theorem IGood.iff{J':TEn->Ty->Prop}(h:IGood run J e k)(c:∀ ρ a,J ρ a↔J' ρ a):IGood run J' e k:=λn f W d i j=>by
 obtain⟨m,r,o,g,b⟩:=h n f W d i j;exact⟨m,r,o,g,{b with sound:=λs=>⟨(b.sound s).1,(c _ _).1 (b.sound s).2⟩,complete:=λs l=>b.complete s ((c _ _).2 l)}⟩
theorem IGood.shift{a:Nat->SS->Option (Nat×SS)}(h:IGood run J e k)(j:∀n st,a (n+1) st=run n st):IGood a J e k:=λst f W b g i=>by
 obtain⟨l,r,o,c,d⟩:=h st f W b g i;refine⟨l+1,r,o,λn p=>?_,d⟩;obtain⟨m,rfl⟩:∃m,n=m+1:=⟨n-1,oM⟩;rw[j];exact c m oM
theorem Vw(c:Nat)(a:Ty)(g:(c=0/\a=.int)\/(c=1/\a=.bool))(e:En):IGood (λ_ st=>some (c,st)) (λ_ τ=>τ=a) e 0:=λst f W b i j=>by
 have d:∀ {v:Nat->Ty},st.sat v->v c=a:=λs=>by
  have:=b.vals s;rcases g with⟨rfl,rfl⟩|⟨rfl,rfl⟩
  ·exact this.1
  ·exact this.2
 refine⟨0,c,st,λ_ _=>rfl,⟨⟨f,W⟩,by have:=b.len;omega,znL _,znL _,b,id,λh _=>h,λs=>⟨s,d s⟩,λ{v τ} s h=>⟨v,λ_ _=>rfl,s,by rw[h];exact d s⟩⟩⟩
theorem zgr(h1:IGood run1 J1 e k1)(h2:IGood run2 J2 e k2):
  IGood (λn st=>(run1 n st).bind λa=>(run2 n a.2).bind λb=>addS 4 a.1 b.1 b.2) (fun ρ τ=>∃a b,J1 ρ a/\J2 ρ b /\ τ=.pair a b) e (k1+k2+1):=λst f W b hb hl=>by
 obtain⟨n1,r1,st1,g1,I1⟩:=h1 st f W b hb oM;obtain⟨f1,W1⟩:=I1.wf;have l1:=I1.low;have u1:=I1.high;obtain⟨n2,r2,st2,g2,I2⟩:=h2 st1 f1 W1 I1.base (hb.mono l1) oM;obtain⟨f2,W2⟩:=I2.wf;have l2:=I2.low;have u2:=I2.high;have hr1:=I1.lt;have hr2:=I2.lt;obtain⟨st3,g3,A⟩:=Lo W2 (of:=4) (l:=r1) (r:=r2) oM oM oM (λ_ h=>absurd rfl h) oM;refine⟨max n1 n2,st2.shs.length,st3,λn hn=>?_,⟨A.wf,by rw[A.len];omega,by rw[A.len];omega,by rw[A.len];omega,A.base I2.base,λh=>I1.clash (I2.clash (A.clash.symm.trans h)),λc h=>A.closed (I2.closed (I1.closed c (I2.clash (A.clash.symm.trans h))) (A.clash.symm.trans h)),λ{v} s=>?_,λ{v τ} s ⟨a,c,ja,jc,hτ⟩=>?_⟩⟩
 ·show Option.bind _ _=_;rw[g1 n oM];simp only[zbS];rw[g2 n oM];exact g3
 ·obtain⟨s2,hx⟩:=A.sat.1 s;obtain⟨s1,j2⟩:=I2.sound s2;obtain⟨s0,j1⟩:=I1.sound s1;exact⟨s0,_,_,j1,j2,hx.2.2.2 rfl⟩
 ·obtain⟨v1,ag1,s1,e1⟩:=I1.complete s ja;obtain⟨v2,ag2,s2,e2⟩:=I2.complete s1 (a:=c) (by rw[En.val_agree ag1 hb];exact jc);obtain⟨v3,ag3,s3,e3⟩:=A.put W2 s2 (a:=τ) (by
   refine⟨λh=>by simp at h,λh=>by simp at h,λh=>by simp at h,λ_=>?_⟩;simp only[upd,if_true];rw[jA oM,jA oM,ag2 r1 hr1,e1,e2,hτ])
  exact⟨v3,(ag1.trans ag2 l1).trans ag3 oM,s3,e3⟩
theorem zgs(h1:IGood run1 J1 e k1)(h2:IGood run2 J2 e k2):
  IGood (λn st=>(run1 n st).bind λx=>(run2 n x.2).bind λy=>(addS 0 0 0 y.2).bind λto=>(addS 3 y.1 to.1 to.2).bind λM=>(Dk n M.2 x.1 M.1).bind λst'=>some (to.1,st'))
   (fun ρ τ=>∃a,J1 ρ (.fn a τ)/\J2 ρ a) e (k1+k2+2):=λst Y W b s hl=>by
 obtain⟨n1,m,a2,g1,f⟩:=h1 st Y W b s oM;obtain⟨Z,Q⟩:=f.wf;have N:=f.low;have u1:=f.high;obtain⟨n2,v,D,g2,d⟩:=h2 a2 Z Q f.base (s.mono N) oM;obtain⟨f2,F⟩:=d.wf;have l2:=d.low;have u2:=d.high;have a0:=f.lt;have a1:=d.lt;obtain⟨a3,g3,g⟩:=Lo F (of:=0) (l:=0) (r:=0) oM oM oM (λ_ _=>⟨rfl,rfl⟩) oM;obtain⟨f3,G⟩:=g.wf;have e3:=g.len;obtain⟨a4,g4,i⟩:=Lo G (of:=3) (l:=v) (r:=D.shs.length) oM oM oM (λh=>absurd rfl h) oM;obtain⟨f4,R⟩:=i.wf;have e4:=i.len;obtain⟨n5,O,g5,U⟩:=Mh R (a:=m) (b:=a3.shs.length) oM oM;have q:O.clash=false->D.clash=false:=λh=>g.clash.symm.trans (i.clash.symm.trans (U.clash h));refine⟨max (max n1 n2) n5,D.shs.length,O,λn hn=>?_,⟨U.wf,by rw[U.len];omega,by rw[U.len];omega,by rw[U.len];omega,U.base (i.base (g.base d.base)),λh=>f.clash (d.clash (q h)),λc h=>U.closed ((i.closed (g.closed (d.closed (f.closed c (d.clash (q h))) (q h)))).more sM) h,λ{E} w=>?_,λ{E τ} w ⟨a,j,t⟩=>?_⟩⟩
 ·show Option.bind _ _=_;rw[g1 n oM];simp only[zbS];rw[g2 n oM];simp only[zbS];rw[g3];simp only[zbS];rw[g4];simp only[zbS];rw[g5 n oM];rfl
 ·obtain⟨C,hv⟩:=U.sound w;obtain⟨B,hx⟩:=i.sat.1 C;obtain⟨A,_⟩:=g.sat.1 B;obtain⟨z,t⟩:=d.sound A;obtain⟨s0,j⟩:=f.sound z;refine⟨s0,E v,?_,t⟩;rw[hv,hx.2.2.1 rfl]at j;exact j
 ·obtain⟨v1,H,z,V⟩:=f.complete w j;obtain⟨v2,I,A,X⟩:=d.complete z (a:=a) (by rw[En.val_agree H s];exact t);obtain⟨v3,o,B,L⟩:=g.put F A (a:=τ) ⟨λh=>by simp at h,λh=>by simp at h,λh=>by simp at h,λh=>by simp at h⟩;obtain⟨P,p,C,T⟩:=i.put G B (a:=.fn a τ) (by
   refine⟨λh=>by simp at h,λh=>by simp at h,λ_=>?_,λh=>by simp at h⟩;simp only[upd,if_true];rw[jA oM,jA oM,L,o v a1,X])
  have S:Agree st.shs.length E P:=((H.trans I N).trans o oM).trans p oM;refine⟨P,S,U.sat C ?_,by rw[p _ oM,L]⟩;rw[T,p m oM,o m oM,I m a0,V]
theorem za8(Z:IGood run1 J1 e k1)(h2:IGood run2 J2 e k2)(c:Nat)(d:Ty)(hc:(c=0/\d=.int)\/(c=1/\d=.bool)):
  IGood (λn st=>(run1 n st).bind λx=>(Dk n x.2 x.1 0).bind λG=>(run2 n G).bind λy=>(Dk n y.2 y.1 0).bind λt=>some (c,t))
   (fun ρ τ=>J1 ρ .int/\J2 ρ .int /\ τ=d) e (k1+k2):=λst S W b q hl=>by
 obtain⟨n1,r1,G,U,g⟩:=Z st S W b q oM;obtain⟨f1,I⟩:=g.wf;have l1:=g.low;have u1:=g.high;have bl:=b.len;obtain⟨n2,t,V,i⟩:=Mh I (a:=r1) (b:=0) g.lt oM;obtain⟨T,L⟩:=i.wf;have e2:=i.len;have O:=i.base g.base;obtain⟨n3,r3,a3,X,f⟩:=h2 t T L O (q.mono oM) oM;obtain⟨f3,M⟩:=f.wf;have l3:=f.low;have u3:=f.high;obtain⟨n4,H,Y,h⟩:=Mh M (a:=r3) (b:=0) f.lt oM;have z:=h.base f.base;have C:∀ {v:Nat->Ty},H.sat v->v c=d:=λs=>by
  have:=z.vals s;rcases hc with⟨rfl,rfl⟩|⟨rfl,rfl⟩
  ·exact this.1
  ·exact this.2
 refine⟨max (max n1 n2) (max n3 n4),c,H,λn hn=>?_,⟨h.wf,by rw[h.len];omega,by rw[h.len];omega,by rw[h.len];omega,z,λj=>g.clash (i.clash (f.clash (h.clash j))),λP j=>?_,λ{v} s=>?_,λ{v τ} s ⟨l,m,a2⟩=>?_⟩⟩
 ·show Option.bind _ _=_;rw[U n oM];simp only[zbS];rw[V n oM];simp only[zbS];rw[X n oM];simp only[zbS];rw[Y n oM];rfl
 ·have B:=h.clash j;have A:=f.clash B;exact h.closed ((f.closed (i.closed ((g.closed P (i.clash A)).more sM) A) B).more sM) j
 ·obtain⟨p,a1⟩:=h.sound s;obtain⟨r,m⟩:=f.sound p;obtain⟨o,a0⟩:=i.sound r;obtain⟨E,l⟩:=g.sound o;have D:=(b.vals E).1;rw[a0,D]at l;rw[a1,D]at m;exact⟨E,l,m,C s⟩
 ·obtain⟨v1,w,o,Q⟩:=g.complete s l;have r:=i.sat o (by rw[Q,(g.base.vals o).1]);obtain⟨v3,N,p,R⟩:=f.complete r (a:=.int) (by rw[En.val_agree w q];exact m);have F:=h.sat p (by rw[R,(f.base.vals p).1]);exact⟨v3,w.trans N oM,F,by rw[C F,a2]⟩
theorem zgt{run3:Nat->SS->Option (Nat×SS)}{J3:TEn->Ty->Prop}{k3:Nat}(h1:IGood run1 J1 e k1)(h2:IGood run2 J2 e k2)(h3:IGood run3 J3 e k3):
  IGood (λn st=>(run1 n st).bind λx=>(Dk n x.2 x.1 1).bind λst1=>(run2 n st1).bind λy=>(run3 n y.2).bind λz=>(Dk n z.2 y.1 z.1).bind λst2=>some (y.1,st2))
   (fun ρ τ=>J1 ρ .bool/\J2 ρ τ /\ J3 ρ τ) e (k1+k2+k3):=λst f W b hb hl=>by
 obtain⟨n1,r1,st1,g1,I1⟩:=h1 st f W b hb oM;obtain⟨f1,W1⟩:=I1.wf;have l1:=I1.low;have u1:=I1.high;have bl:=b.len;obtain⟨n2,st2,g2,U2⟩:=Mh W1 (a:=r1) (b:=1) I1.lt oM;obtain⟨f2,W2⟩:=U2.wf;have e2:=U2.len;obtain⟨n3,r3,st3,g3,I3⟩:=h2 st2 f2 W2 (U2.base I1.base) (hb.mono oM) oM;obtain⟨f3,W3⟩:=I3.wf;have l3:=I3.low;have u3:=I3.high;have hr3:=I3.lt;obtain⟨n4,r4,st4,g4,I4⟩:=h3 st3 f3 W3 I3.base (hb.mono oM) oM;obtain⟨f4,W4⟩:=I4.wf;have l4:=I4.low;have u4:=I4.high;obtain⟨n5,st5,g5,U5⟩:=Mh W4 (a:=r3) (b:=r4) oM I4.lt;refine⟨max (max n1 n2) (max n3 (max n4 n5)),r3,st5,λn hn=>?_,⟨U5.wf,by rw[U5.len];omega,by rw[U5.len];omega,by rw[U5.len];omega,U5.base I4.base,λh=>I1.clash (U2.clash (I3.clash (I4.clash (U5.clash h)))),λcl h=>?_,λ{v} s=>?_,λ{v τ} s ⟨j1,j2,j3⟩=>?_⟩⟩
 ·show Option.bind _ _=_;rw[g1 n oM];simp only[zbS];rw[g2 n oM];simp only[zbS];rw[g3 n oM];simp only[zbS];rw[g4 n oM];simp only[zbS];rw[g5 n oM];rfl
 ·have c4:=U5.clash h;have c3:=I4.clash c4;have c2:=I3.clash c3;exact U5.closed ((I4.closed (I3.closed (U2.closed ((I1.closed cl (U2.clash c2)).more sM) c2) c3) c4).more sM) h
 ·obtain⟨s4,hv4⟩:=U5.sound s;obtain⟨s3,j3⟩:=I4.sound s4;obtain⟨s2,j2⟩:=I3.sound s3;obtain⟨s1,hv1⟩:=U2.sound s2;obtain⟨s0,j1⟩:=I1.sound s1;rw[hv1,(b.vals s0).2]at j1;rw[<-hv4]at j3;exact⟨s0,j1,j2,j3⟩
 ·obtain⟨v1,ag1,s1,e1⟩:=I1.complete s j1;have s2:=U2.sat s1 (by rw[e1,(I1.base.vals s1).2]);obtain⟨v3,ag3,s3,e3⟩:=I3.complete s2 (a:=τ) (by rw[En.val_agree ag1 hb];exact j2);have ag13:Agree st.shs.length v v3:=ag1.trans ag3 oM;obtain⟨v4,ag4,s4,e4⟩:=I4.complete s3 (a:=τ) (by rw[En.val_agree ag13 hb];exact j3);have e34:v4 r3=τ:=by rw[ag4 r3 hr3,e3]
  exact⟨v4,ag13.trans ag4 oM,U5.sat s4 (by rw[e34,e4]),e34⟩
theorem zk6{run:Nat->Nat->SS->Option (Nat×SS)}(h:∀r,IGood (run r) J (.fix bn r e) k):
  IGood (λn st=>(addS 0 0 0 st).bind λg=>(run g.1 n g.2).bind λto=>addS 3 g.1 to.1 to.2) (fun ρ τ=>∃a c,J (.fix bn a ρ) c /\ τ=.fn a c) e (k+2):=λst U W t x X=>by
 have bl:=t.len;obtain⟨P,E,f⟩:=Lo W (of:=0) (l:=0) (r:=0) oM oM oM (λ_ _=>⟨rfl,rfl⟩) oM;obtain⟨D,z⟩:=f.wf;have T:=f.len;obtain⟨M,y,Q,F,d⟩:=h st.shs.length P D z (f.base t) ⟨oM,x.mono oM⟩ oM;obtain⟨V,o⟩:=d.wf;have Z:=d.low;have u2:=d.high;have Y:=d.lt;obtain⟨R,G,b⟩:=Lo o (of:=3) (l:=st.shs.length) (r:=y) oM oM oM (λh=>absurd rfl h) oM;refine⟨M,Q.shs.length,R,λn H=>?_,⟨b.wf,by rw[b.len];omega,by rw[b.len];omega,by rw[b.len];omega,b.base d.base,λh=>f.clash.symm.trans (d.clash (b.clash.symm.trans h)),λc h=>b.closed (d.closed (f.closed c) (b.clash.symm.trans h)),λ{v} s=>?_,λ{v τ} s ⟨a,c,j,L⟩=>?_⟩⟩
 ·show Option.bind _ _=_;rw[E];simp only[zbS];rw[F n H];exact G
 ·obtain⟨m,I⟩:=b.sat.1 s;obtain⟨i,j⟩:=d.sound m;obtain⟨N,_⟩:=f.sat.1 i;exact⟨N,v st.shs.length,v y,j,I.2.2.1 rfl⟩
 ·obtain⟨v1,p,i,w⟩:=f.put W s (a:=a) ⟨λh=>by simp at h,λh=>by simp at h,λh=>by simp at h,λh=>by simp at h⟩;obtain⟨v2,q,m,B⟩:=d.complete i (a:=c) (by simp only[En.val];rw[w,En.val_agree p x];exact j);obtain⟨S,A,O,C⟩:=b.put o m (a:=τ) (by
   refine⟨λh=>by simp at h,λh=>by simp at h,λ_=>?_,λh=>by simp at h⟩;simp only[upd,if_true];rw[jA oM,jA oM,q _ oM,w,B,L])
  exact⟨S,(p.trans q oM).trans A oM,O,C⟩
theorem za9{run:Nat->Nat->SS->Option (Nat×SS)}(h:∀r,IGood (run r) J (.fix bn r e) k):
  IGood (λn st=>(addS 0 0 0 st).bind λown=>(run own.1 n own.2).bind λx=>(Dk n x.2 own.1 x.1).bind λst'=>some (own.1,st')) (fun ρ τ=>J (.fix bn τ ρ) τ) e (k+1):=λst P W b t R=>by
 have bl:=b.len;obtain⟨L,B,f⟩:=Lo W (of:=0) (l:=0) (r:=0) oM oM oM (λ_ _=>⟨rfl,rfl⟩) oM;obtain⟨A,w⟩:=f.wf;have O:=f.len;obtain⟨F,H,V,C,d⟩:=h st.shs.length L A w (f.base b) ⟨oM,t.mono oM⟩ oM;obtain⟨Q,y⟩:=d.wf;have T:=d.low;have u2:=d.high;obtain⟨G,M,D,U⟩:=Mh y (a:=st.shs.length) (b:=H) oM d.lt;refine⟨max F G,st.shs.length,M,λn S=>?_,⟨U.wf,by rw[U.len];omega,by rw[U.len];omega,by rw[U.len];omega,U.base d.base,λh=>f.clash.symm.trans (d.clash (U.clash h)),λc h=>U.closed ((d.closed (f.closed c) (U.clash h)).more sM) h,λ{N} s=>?_,λ{N τ} s j=>?_⟩⟩
 ·show Option.bind _ _=_;rw[B];simp only[zbS];rw[C n oM];simp only[zbS];rw[D n oM];rfl
 ·obtain⟨i,E⟩:=U.sound s;obtain⟨g,j⟩:=d.sound i;obtain⟨I,_⟩:=f.sat.1 g;refine⟨I,?_⟩;rw[<-E]at j;exact j
 ·obtain⟨X,m,g,p⟩:=f.put W s (a:=τ) ⟨λh=>by simp at h,λh=>by simp at h,λh=>by simp at h,λh=>by simp at h⟩;obtain⟨v,o,i,z⟩:=d.complete g (a:=τ) (by simp only[En.val];rw[p,En.val_agree m t];exact j);have q:v st.shs.length=τ:=by rw[o _ oM,p]
  exact⟨v,m.trans o oM,U.sat i (by rw[q,z]),q⟩
theorem zi1{t:T}(z:IGood run1 J1 e k1)(A:IGood run2 J2 (.dfn bn t e) k2):
  IGood (λn st=>(run1 n st).bind λx=>run2 n x.2) (fun ρ τ=>(∃a,J1 ρ a)/\J2 (.dfn bn t ρ) τ) e (k1+k2):=λst r W p f Q=>by
 obtain⟨F,U,l,w,d⟩:=z st r W p f oM;obtain⟨v,m⟩:=d.wf;have j:=d.low;have u1:=d.high;obtain⟨G,H,M,y,b⟩:=A l v m d.base (show e.upto l.shs.length from f.mono j) oM;have S:=b.low;have u2:=b.high;refine⟨max F G,H,M,λn R=>?_,⟨b.wf,b.lt,oM,oM,b.base,λh=>d.clash (b.clash h),λc h=>b.closed (d.closed c (b.clash h)) h,λ{N} s=>?_,λ{N τ} s ⟨⟨a,E⟩,B⟩=>?_⟩⟩
 ·show Option.bind _ _=_;rw[w n oM];exact y n oM
 ·obtain⟨g,D⟩:=b.sound s;obtain⟨I,C⟩:=d.sound g;exact⟨I,⟨_,C⟩,D⟩
 ·obtain⟨V,i,g,P⟩:=d.complete s E;obtain⟨O,o,L,q⟩:=b.complete g (a:=τ) (by simp only[En.val];rw[En.val_agree i f];exact B);exact⟨O,i.trans o j,L,q⟩
theorem zgu(sec:Bool)(e:En):
  IGood (λ_ st=>(addS 0 0 0 st).bind λa=>(addS 0 0 0 a.2).bind λb=>(addS 4 a.1 b.1 b.2).bind λp=>addS 3 p.1 (if sec then b.1 else a.1) p.2) (λ_ τ=>∃a c,τ=.fn (.pair a c) (if sec then c else a)) e 4:=λst f W b hb hl=>by
 have bl:=b.len;obtain⟨st1,g1,A1⟩:=Lo W (of:=0) (l:=0) (r:=0) oM oM oM (λ_ _=>⟨rfl,rfl⟩) oM;obtain⟨f1,W1⟩:=A1.wf;have e1:=A1.len;obtain⟨st2,g2,A2⟩:=Lo W1 (of:=0) (l:=0) (r:=0) oM oM oM (λ_ _=>⟨rfl,rfl⟩) oM;obtain⟨f2,W2⟩:=A2.wf;have e2:=A2.len;obtain⟨st3,g3,A3⟩:=Lo W2 (of:=4) (l:=st.shs.length) (r:=st1.shs.length) oM oM oM (λ_ h=>absurd rfl h) oM;obtain⟨f3,W3⟩:=A3.wf;have e3:=A3.len;have hsec:(if sec then st1.shs.length else st.shs.length)<st3.shs.length:=by split<;>omega
 obtain⟨st4,g4,A4⟩:=Lo W3 (of:=3) (l:=st2.shs.length) (r:=if sec then st1.shs.length else st.shs.length) oM oM oM (λh=>absurd rfl h) oM;refine⟨0,st3.shs.length,st4,λn _=>?_,⟨A4.wf,by rw[A4.len];omega,by rw[A4.len];omega,by rw[A4.len];omega,A4.base (A3.base (A2.base (A1.base b))),λh=>A1.clash.symm.trans (A2.clash.symm.trans (A3.clash.symm.trans (A4.clash.symm.trans h))),λc _=>A4.closed (A3.closed (A2.closed (A1.closed c))),λ{v} s=>?_,λ{v τ} s ⟨a,c,hτ⟩=>?_⟩⟩
 ·show Option.bind _ _=_;rw[g1];simp only[zbS];rw[g2];simp only[zbS];rw[g3];exact g4
 ·obtain⟨s3,h4⟩:=A4.sat.1 s;obtain⟨s2,h3⟩:=A3.sat.1 s3;obtain⟨s1,_⟩:=A2.sat.1 s2;obtain⟨s0,_⟩:=A1.sat.1 s1;refine⟨s0,v st.shs.length,v st1.shs.length,?_⟩;rw[h4.2.2.1 rfl];simp only;rw[h3.2.2.2 rfl];cases sec<;>rfl
 ·have none4:∀(w:Nat->Ty) (q:Nat),Sh.says ⟨0,0,0,q⟩ w q:=λw q=>⟨λh=>by simp at h,λh=>by simp at h,λh=>by simp at h,λh=>by simp at h⟩;obtain⟨v1,ag1,s1,d1⟩:=A1.put W s (a:=a) (none4 _ _);obtain⟨v2,ag2,s2,d2⟩:=A2.put W1 s1 (a:=c) (none4 _ _);obtain⟨v3,ag3,s3,d3⟩:=A3.put W2 s2 (a:=.pair a c) (by
   refine⟨λh=>by simp at h,λh=>by simp at h,λh=>by simp at h,λ_=>?_⟩;simp only[upd,if_true];rw[jA oM,jA oM,ag2 _ oM,d1,d2])
  obtain⟨v4,ag4,s4,d4⟩:=A4.put W3 s3 (a:=τ) (by
   refine⟨λh=>by simp at h,λh=>by simp at h,λ_=>?_,λh=>by simp at h⟩;simp only[upd,if_true];rw[jA oM,jA oM,d3,hτ];cases sec with
   |true=>simp only[if_true];rw[ag3 _ oM,d2]
   |false=>simp only[xA,if_false];rw[ag3 _ oM,ag2 _ oM,d1])
  exact⟨v4,((ag1.trans ag2 oM).trans ag3 oM).trans ag4 oM,s4,d4⟩
end
end Go.Proofs.YtckhafpejefbbaaGreatDoor.Tw
namespace Go.Proofs.YtckhafpejefbbaaGreatDoor
section
abbrev fD:=@Nat.mul_le_mul_right
end
end Go.Proofs.YtckhafpejefbbaaGreatDoor
namespace Go.Proofs.YtckhafpejefbbaaGreatDoor.Tw
section
open Go
variable{e:En}{x:List UInt8}{fr to r:Nat}
def T.recs:T->Nat
 |.name .. =>0
 |.int .. =>0
 |.truth .. =>0
 |.side .. =>0
 |.bracket _ _ i=>i.recs
 |.pair _ _ l r=>l.recs+r.recs
 |.call _ _ l r=>l.recs+r.recs
 |.binary _ _ _ l r=>l.recs+r.recs
 |.cond _ _ c t f=>c.recs+t.recs+f.recs
 |.fn _ _ _ _ b=>b.recs
 |.lett _ _ rc _ _ d b=>(if rc then 1 else 0)+d.recs+b.recs
def EGood(e:En)(we:WEn)(B:Nat):Prop:=∀(x:List UInt8) (k:Nat),we.look x=some k->1<=k /\
 ((∃r,e.look x=some (.inl r))\/∃t o,e.look x=some (.inr (t,o))/\(k<=2000->IGood (λn a=>defS n t o a) (DTyp t) o (B*k)))
theorem EGood.fix{e:En}{we:WEn}{B:Nat}(h:EGood e we B)(c:List UInt8)(r:Nat):EGood (.fix c r e) (.cons c 1 we) B:=by
 intro x k a;simp only[WEn.look]at a;simp only[En.look];split at a
 ·rename_i b;cases a;exact⟨znL _,.inl ⟨r,by rw[mA b]⟩⟩
 ·rename_i b;simp only[jA b];exact h x k a
theorem EGood.dfn{e:En}{we:WEn}{B b:Nat}(h:EGood e we B)(o:B<=b)(d:List UInt8)(t:T){k:Nat}(m:1<=k)(p:k<=2000->IGood (λn st=>defS n t e st) (DTyp t) e (b*k)):EGood (.dfn d t e) (.cons d k we) b:=by
 intro x q a;simp only[WEn.look]at a;simp only[En.look];split at a
 ·rename_i c;cases a;exact⟨m,.inr ⟨t,e,by rw[mA c],p⟩⟩
 ·rename_i c;simp only[jA c];obtain⟨f,g⟩:=h x q a;refine⟨f,g.imp id ?_⟩;rintro⟨v,s,i,j⟩;exact⟨v,s,i,λl=>(j l).mono (fD _ o)⟩
theorem zba{t:T}{o:En}(b:e.look x=some (.inr (t,o))){k:Nat}(h:IGood (λn st=>defS n t o st) (DTyp t) o k):IGood (λn st=>Ax n (.name fr to x) e st) (Typ (.name fr to x)) e k:=λst f W d i j=>by
 obtain⟨p,r,q,g,a⟩:=h st f W d ((i.look (x:=x)).2 t o b) j;have c:∀v:Nat->Ty,(e.val v).look x=some (.inr (t,o.val v)):=λv=>by rw[En.look_val,b];rfl
 refine⟨p+1,r,q,λn y=>?_,{a with sound:=λ{v} s=>⟨(a.sound s).1,.use (c v) (a.sound s).2⟩,complete:=λ{v w} s l=>a.complete s ?_}⟩
 ·obtain⟨m,rfl⟩:∃m,n=m+1:=⟨n-1,oM⟩;show Ax (m+1) _ _ _=_;rw[Ax,b];exact g m oM
 ·cases l with
  |name h=>rw[c]at h;cases h
  |use h hd=>rw[c]at h;cases h;exact hd
theorem zdi(a:e.look x=some (.inl r)):IGood (λn st=>Ax n (.name fr to x) e st) (Typ (.name fr to x)) e 0:=λst f W c d i=>by
 have b:∀v:Nat->Ty,(e.val v).look x=some (.inl (v r)):=λv=>by rw[En.look_val,a];rfl
 refine⟨1,r,st,λn k=>?_,⟨⟨f,W⟩,(d.look (x:=x)).1 r a,znL _,znL _,c,id,λh _=>h,λ{v} s=>⟨s,.name (b v)⟩,λ{v g} s j=>⟨v,λ_ _=>rfl,s,?_⟩⟩⟩
 ·obtain⟨m,rfl⟩:∃m,n=m+1:=⟨n-1,oM⟩;show Ax (m+1) _ _ _=_;rw[Ax,a]
 ·cases j with
  |name h=>rw[b]at h;cases h;rfl
  |use h hd=>rw[b]at h;cases h
theorem mul3{A a b c:Nat}(h:1<=A):A*a+A*b+c<=A*(c+a+b):=by
 rw[Nat.mul_add,Nat.mul_add];have:c<=A*c:=Nat.le_mul_of_pos_left c h;omega
theorem Co:∀(t:T) (e:En) (we:WEn) (w B:Nat),Ae t we=some w->w<=2000->EGood e we B->4<=B->1<=w/\IGood (λn st=>Ax n t e st) (Typ t) e ((B+t.recs)*w)
 |.name fr to x,e,we,w,B,hw,hl,hE,hB=>by
  simp only[Ae,zbE,zsI]at hw;obtain⟨k,hk,rfl⟩:=hw;have hkk:min k 2001=k:=oM;rw[hkk]at hl ⊢;obtain⟨h1,⟨r,hr⟩|⟨t,o,ht,hg⟩⟩:=hE x k hk
  ·exact⟨h1,(zdi hr).mono oM⟩
  ·exact⟨h1,(zba ht (hg hl)).mono (by simp[T.recs])⟩
 |.int fr to v,e,we,w,B,hw,hl,hE,hB=>by
  simp only[Ae,zsI]at hw;subst hw;exact⟨znL _,(((Vw 0 .int (.inl ⟨rfl,rfl⟩) e).iff (J':=Typ (.int fr to v)) (fun ρ a=>⟨λh=>by subst h;exact .int,λh=>by cases h;rfl⟩)).shift (λ_ _=>rfl)).mono oM⟩
 |.truth fr to v,e,we,w,B,hw,hl,hE,hB=>by
  simp only[Ae,zsI]at hw;subst hw;exact⟨znL _,(((Vw 1 .bool (.inr ⟨rfl,rfl⟩) e).iff (J':=Typ (.truth fr to v)) (fun ρ a=>⟨λh=>by subst h;exact .truth,λh=>by cases h;rfl⟩)).shift (λ_ _=>rfl)).mono oM⟩
 |.side fr to sec,e,we,w,B,hw,hl,hE,hB=>by
  simp only[Ae,zsI]at hw;subst hw;exact⟨znL _,(((zgu sec e).iff (J':=Typ (.side fr to sec)) (fun ρ a=>⟨λ⟨_,_,h⟩=>by subst h;exact .side,λh=>by cases h;exact⟨_,_,rfl⟩⟩)).shift (λ_ _=>rfl)).mono oM⟩
 |.bracket fr to i,e,we,w,B,hw,hl,hE,hB=>by
  simp only[Ae,zbE,zsI]at hw;obtain⟨k,hk,rfl⟩:=hw;obtain⟨h1,h2⟩:=Co i e we k B hk oM hE hB;have hm:min (1+k) 2001=1+k:=oM;rw[hm];refine⟨oM,((h2.iff (J':=Typ (.bracket fr to i)) (fun ρ a=>⟨.bracket,λh=>by cases h;assumption⟩)).shift (λ_ _=>rfl)).mono (Nat.mul_le_mul (by simp[T.recs]) oM)⟩
 |.pair fr to l r,e,we,w,B,hw,hl,hE,hB=>by
  simp only[Ae,zbE,zsI]at hw;obtain⟨k1,hk1,k2,hk2,rfl⟩:=hw;obtain⟨a1,a2⟩:=Co l e we k1 B hk1 oM hE hB;obtain⟨b1,b2⟩:=Co r e we k2 B hk2 oM hE hB;have hm:min (1+k1+k2) 2001=1+k1+k2:=oM;rw[hm];have c1:IGood _ _ e ((B+(T.pair fr to l r).recs)*k1):=a2.mono (fD _ (by simp only[T.recs];omega));have c2:IGood _ _ e ((B+(T.pair fr to l r).recs)*k2):=b2.mono (fD _ (by simp only[T.recs];omega));refine⟨oM,(((zgr c1 c2).iff (J':=Typ (.pair fr to l r)) (fun ρ a=>⟨λ⟨_,_,h1,h2,h3⟩=>by subst h3;exact .pair h1 h2,λh=>by cases h with|pair h1 h2=>exact⟨_,_,h1,h2,rfl⟩⟩)).shift (λ_ _=>by rw[Ax])).mono (mul3 oM)⟩
 |.call fr to l r,e,we,w,B,hw,hl,hE,hB=>by
  simp only[Ae,zbE,zsI]at hw;obtain⟨k1,hk1,k2,hk2,rfl⟩:=hw;obtain⟨a1,a2⟩:=Co l e we k1 B hk1 oM hE hB;obtain⟨b1,b2⟩:=Co r e we k2 B hk2 oM hE hB;have hm:min (1+k1+k2) 2001=1+k1+k2:=oM;rw[hm];have c1:IGood _ _ e ((B+(T.call fr to l r).recs)*k1):=a2.mono (fD _ (by simp only[T.recs];omega));have c2:IGood _ _ e ((B+(T.call fr to l r).recs)*k2):=b2.mono (fD _ (by simp only[T.recs];omega));refine⟨oM,(((zgs c1 c2).iff (J':=Typ (.call fr to l r)) (fun ρ a=>⟨λ⟨_,h1,h2⟩=>.call h1 h2,λh=>by cases h with|call h1 h2=>exact⟨_,h1,h2⟩⟩)).shift (λ_ _=>by rw[Ax])).mono ?_⟩;have:(B+(T.call fr to l r).recs)*(1+k1+k2)=(B+(T.call fr to l r).recs)*1+(B+(T.call fr to l r).recs)*k1+(B+(T.call fr to l r).recs)*k2:=by rw[Nat.mul_add,Nat.mul_add]
  omega
 |.binary fr to sg l r,e,we,w,B,hw,hl,hE,hB=>by
  simp only[Ae,zbE,zsI]at hw;obtain⟨k1,hk1,k2,hk2,rfl⟩:=hw;obtain⟨a1,a2⟩:=Co l e we k1 B hk1 oM hE hB;obtain⟨b1,b2⟩:=Co r e we k2 B hk2 oM hE hB;have hm:min (1+k1+k2) 2001=1+k1+k2:=oM;rw[hm];have c1:IGood _ _ e ((B+(T.binary fr to sg l r).recs)*k1):=a2.mono (fD _ (by simp only[T.recs];omega));have c2:IGood _ _ e ((B+(T.binary fr to sg l r).recs)*k2):=b2.mono (fD _ (by simp only[T.recs];omega));have hc:((if sg=23\/sg=15 then 1 else 0)=0/\(if sg=23\/sg=15 then Ty.bool else .int)=.int)\/((if sg=23\/sg=15 then 1 else 0)=1/\(if sg=23\/sg=15 then Ty.bool else .int)=.bool):=by
   by_cases h:sg=23\/sg=15
   ·simp[h]
   ·simp[h]
  refine⟨oM,(((za8 c1 c2 _ _ hc).iff (J':=Typ (.binary fr to sg l r)) (fun ρ a=>⟨λ⟨h1,h2,h3⟩=>by subst h3;exact .binary h1 h2,λh=>by cases h with|binary h1 h2=>exact⟨h1,h2,rfl⟩⟩)).shift (λ_ _=>by rw[Ax])).mono ?_⟩
  have:=mul3 (A:=B+(T.binary fr to sg l r).recs) (a:=k1) (b:=k2) (c:=1) oM;omega
 |.cond fr to c t f,e,we,w,B,hw,hl,hE,hB=>by
  simp only[Ae,zbE,zsI]at hw;obtain⟨k1,hk1,k2,hk2,k3,hk3,rfl⟩:=hw;obtain⟨a1,a2⟩:=Co c e we k1 B hk1 oM hE hB;obtain⟨b1,b2⟩:=Co t e we k2 B hk2 oM hE hB;obtain⟨d1,d2⟩:=Co f e we k3 B hk3 oM hE hB;have hm:min (1+k1+k2+k3) 2001=1+k1+k2+k3:=oM;rw[hm];have c1:IGood _ _ e ((B+(T.cond fr to c t f).recs)*k1):=a2.mono (fD _ (by simp only[T.recs];omega));have c2:IGood _ _ e ((B+(T.cond fr to c t f).recs)*k2):=b2.mono (fD _ (by simp only[T.recs];omega));have c3:IGood _ _ e ((B+(T.cond fr to c t f).recs)*k3):=d2.mono (fD _ (by simp[T.recs]));refine⟨oM,(((zgt c1 c2 c3).iff (J':=Typ (.cond fr to c t f)) (fun ρ a=>⟨λ⟨h1,h2,h3⟩=>.cond h1 h2 h3,λh=>by cases h with|cond h1 h2 h3=>exact⟨h1,h2,h3⟩⟩)).shift (λ_ _=>by rw[Ax])).mono ?_⟩;have:(B+(T.cond fr to c t f).recs)*(1+k1+k2+k3)=(B+(T.cond fr to c t f).recs)*1+(B+(T.cond fr to c t f).recs)*k1+(B+(T.cond fr to c t f).recs)*k2+(B+(T.cond fr to c t f).recs)*k3:=by rw[Nat.mul_add,Nat.mul_add,Nat.mul_add]
  omega
 |.fn fr to bn bat b,e,we,w,B,hw,hl,hE,hB=>by
  simp only[Ae,zbE,zsI]at hw;obtain⟨k,hk,rfl⟩:=hw;have hm:min (1+k) 2001=1+k:=oM;rw[hm];have h2:∀r,IGood (λn st=>Ax n b (.fix bn r e) st) (Typ b) (.fix bn r e) ((B+(T.fn fr to bn bat b).recs)*k):=λr=>(Co b (.fix bn r e) (.cons bn 1 we) k B hk oM (hE.fix bn r) hB).2;refine⟨oM,(((zk6 h2).iff (J':=Typ (.fn fr to bn bat b)) (fun ρ a=>⟨λ⟨_,_,h,h3⟩=>by subst h3;exact .fn h,λh=>by cases h with|fn h=>exact⟨_,_,h,rfl⟩⟩)).shift (λ_ _=>by rw[Ax])).mono ?_⟩;have:(B+(T.fn fr to bn bat b).recs)*(1+k)=(B+(T.fn fr to bn bat b).recs)*1+(B+(T.fn fr to bn bat b).recs)*k:=by rw[Nat.mul_add]
  omega
 |.lett fr to rc bn bat d b,e,we,w,B,hw,hl,hE,hB=>by
  simp only[Ae,zbE,zsI]at hw;obtain⟨k1,hk1,k2,hk2,rfl⟩:=hw;have hm:min (1+(k1+k2)) 2001=1+(k1+k2):=oM;rw[hm];have h1:1<=k1/\IGood (λn st=>defS n (.lett fr to rc bn bat d b) e st) (DTyp (.lett fr to rc bn bat d b)) e ((B+(if rc then 1 else 0)+d.recs)*k1):=by
   cases rc with
   |false=>
    obtain⟨a1,a2⟩:=Co d e we k1 B hk1 oM hE hB;exact⟨a1,((a2.iff (J':=DTyp (.lett fr to false bn bat d b)) (fun ρ a=>⟨.plain,λh=>by cases h;assumption⟩)).shift (λ_ _=>by rw[defS])).mono sM⟩
   |true=>
    have a2:∀r,1<=k1/\IGood (λn st=>Ax n d (.fix bn r e) st) (Typ d) (.fix bn r e) ((B+d.recs)*k1):=λr=>Co d (.fix bn r e) (.cons bn 1 we) k1 B hk1 oM (hE.fix bn r) hB;refine⟨(a2 0).1,(((za9 (λr=>(a2 r).2)).iff (J':=DTyp (.lett fr to true bn bat d b)) (fun ρ a=>⟨.recu,λh=>by cases h;assumption⟩)).shift (λ_ _=>by rw[defS])).mono ?_⟩
    have:=(a2 0).1;have:(B+1+d.recs)*k1=(B+d.recs)*k1+k1:=(by rw[show B+1+d.recs=B+d.recs+1 by omega,Nat.add_mul,Nat.one_mul]);simp only[if_true];omega
  obtain⟨p1,p2⟩:=h1;have hE2:EGood (.dfn bn (.lett fr to rc bn bat d b) e) (.cons bn k1 we) (B+(if rc then 1 else 0)+d.recs):=hE.dfn oM bn _ p1 (λ_=>p2);obtain⟨q1,q2⟩:=Co b (.dfn bn (.lett fr to rc bn bat d b) e) (.cons bn k1 we) k2 (B+(if rc then 1 else 0)+d.recs) hk2 oM hE2 oM;refine⟨oM,(((zi1 p2 q2).iff (J':=Typ (.lett fr to rc bn bat d b)) (fun ρ a=>⟨λ⟨⟨_,h1⟩,h2⟩=>.lett h1 h2,λh=>by cases h with|lett h1 h2=>exact⟨⟨_,h1⟩,h2⟩⟩)).shift (λ_ _=>by rw[Ax])).mono ?_⟩;have e1:(B+(if rc then 1 else 0)+d.recs)*k1<=(B+(T.lett fr to rc bn bat d b).recs)*k1:=fD _ (by simp[T.recs];omega);have e2:(B+(if rc then 1 else 0)+d.recs+b.recs)*k2=(B+(T.lett fr to rc bn bat d b).recs)*k2:=by simp[T.recs,Nat.add_assoc]
  have e3:(B+(T.lett fr to rc bn bat d b).recs)*(1+(k1+k2))=(B+(T.lett fr to rc bn bat d b).recs)*1+((B+(T.lett fr to rc bn bat d b).recs)*k1+(B+(T.lett fr to rc bn bat d b).recs)*k2):=by rw[Nat.mul_add,Nat.mul_add]
  omega
theorem Cc:∀(t:T) (we:WEn) (w:Nat),Ae t we=some w->w<=2000->t.recs<=w
 |.name ..,_,_,_,_=>by simp[T.recs]
 |.int ..,_,_,_,_=>by simp[T.recs]
 |.truth ..,_,_,_,_=>by simp[T.recs]
 |.side ..,_,_,_,_=>by simp[T.recs]
 |.bracket _ _ i,we,w,h,hl=>by
  simp only[Ae,zbE,zsI]at h;obtain⟨k,n,rfl⟩:=h
  have:=Cc i we k n oM;simp only[T.recs];omega
 |.pair _ _ l r,we,w,h,hl=>by
  simp only[Ae,zbE,zsI]at h;obtain⟨j,a,m,g,rfl⟩:=h
  have:=Cc l we j a oM
  have:=Cc r we m g oM;simp only[T.recs];omega
 |.call _ _ l r,we,w,h,hl=>by
  simp only[Ae,zbE,zsI]at h;obtain⟨j,a,m,g,rfl⟩:=h
  have:=Cc l we j a oM
  have:=Cc r we m g oM;simp only[T.recs];omega
 |.binary _ _ _ l r,we,w,h,hl=>by
  simp only[Ae,zbE,zsI]at h;obtain⟨j,a,m,g,rfl⟩:=h
  have:=Cc l we j a oM
  have:=Cc r we m g oM;simp only[T.recs];omega
 |.cond _ _ c t f,we,w,h,hl=>by
  simp only[Ae,zbE,zsI]at h;obtain⟨j,a,m,g,p,o,rfl⟩:=h
  have:=Cc c we j a oM
  have:=Cc t we m g oM
  have:=Cc f we p o oM;simp only[T.recs];omega
 |.fn _ _ bn _ b,we,w,h,hl=>by
  simp only[Ae,zbE,zsI]at h;obtain⟨k,n,rfl⟩:=h
  have:=Cc b _ k n oM;simp only[T.recs];omega
 |.lett _ _ rc bn _ d b,we,w,h,hl=>by
  simp only[Ae,zbE,zsI]at h;obtain⟨j,a,m,g,rfl⟩:=h
  have:=Cc d _ j a oM
  have:=Cc b _ m g oM;simp only[T.recs];split<;>omega
def ss2:SS:=⟨[⟨1,0,0,0⟩,⟨2,0,0,1⟩],false⟩
theorem Qr{x:Sh}(h:ss2.shs[r]?=some x):(r=0/\x=⟨1,0,0,0⟩)\/(r=1/\x=⟨2,0,0,1⟩):=by
 match r,h with
 |0,h=>simp[ss2]at h;exact .inl ⟨rfl,h.symm⟩
 |1,h=>simp[ss2]at h;exact .inr ⟨rfl,h.symm⟩
 |r+2,h=>simp[ss2]at h
theorem zbb{p:Nat}(h:RootOf ss2 r p):r=p:=by
 cases h with
 |here=>rfl
 |step h hs=>rcases Qr h with⟨rfl,rfl⟩|⟨rfl,rfl⟩<;>exact absurd rfl hs
theorem zmp:ss2.Wf (λ_=>0):=by
 refine⟨λr x h d=>?_,λr x h=>?_,λr x h=>?_,λr x h _ _=>?_,λr p x y b c a _=>?_⟩
 ·rcases Qr h with⟨rfl,rfl⟩|⟨rfl,rfl⟩<;>exact absurd rfl d
 ·rcases Qr h with⟨rfl,rfl⟩|⟨rfl,rfl⟩<;>simp[ss2]
 ·rcases Qr h with⟨rfl,rfl⟩|⟨rfl,rfl⟩<;>simp
 ·rcases Qr h with⟨rfl,rfl⟩|⟨rfl,rfl⟩<;>simp
 ·have:=zbb c;subst this;rw[b]at a;cases a;rfl
theorem zi2:ss2.base:=⟨⟨_,rfl,rfl⟩,_,rfl,rfl⟩
theorem zk7:ss2.sat (λr=>if r=0 then .int else .bool):=by
 refine⟨rfl,λr p h=>by rw[zbb h],λr x h=>?_⟩;rcases Qr h with⟨rfl,rfl⟩|⟨rfl,rfl⟩<;>exact⟨λh=>by simp at h ⊢,λh=>by simp at h ⊢,λh=>by simp at h,λh=>by simp at h⟩
theorem zdj:ss2.Closed []:=by
 intro R _ _ _ r p x y a _ _ b;rcases Qr a with⟨rfl,rfl⟩|⟨rfl,rfl⟩<;>simp at b
theorem zdk{t:T}{w:Nat}(g:Ae t .nil=some w)(c:w<=2000):∃d r st,(∀n,d<=n->Ax n t .nil ss2=some (r,st))/\(∃f,st.Wf f)/\r<st.shs.length/\(st.clash=false->st.Closed []) /\
  (∀ {v:Nat->Ty},st.sat v->Typ t .nil (v r))/\(∀ {a:Ty},Typ t .nil a->∃v,st.sat v/\v r=a)/\st.shs.length<=10000000:=by
 have p:=Cc t .nil w g c;obtain⟨_,h⟩:=Co t .nil .nil w 4 g c (λx k l=>by simp[WEn.look]at l) oM;have o:(4+t.recs)*w<=2004*2000:=Nat.mul_le_mul oM c;obtain⟨d,r,st,i,b⟩:=h ss2 _ zmp zi2 trivial (by simp[ss2];omega);refine⟨d,r,st,i,b.wf,b.lt,λj=>b.closed zdj j,λs=>(b.sound s).2,λ{a} m=>?_,by have:=b.high;simp[ss2]at this;omega⟩;obtain⟨v,_,s,e⟩:=b.complete zk7 (a:=a) m;exact⟨v,s,e⟩
end
end Go.Proofs.YtckhafpejefbbaaGreatDoor.Tw
namespace Go.Proofs.YtckhafpejefbbaaGreatDoor
section
abbrev kD:=@List.getElem?_replicate
abbrev yD:=@Nat.zero_le
end
end Go.Proofs.YtckhafpejefbbaaGreatDoor
namespace Go.Proofs.YtckhafpejefbbaaGreatDoor.Tw
section
open Go
variable{r p:Nat}{mk:List Int}{m:Int}{f:Nat->Nat}
inductive FinT(st:SS):Nat->Ty->Prop
 |var {r p:Nat} {x:Sh} (hr:RootOf st r p) (hx:st.shs[p]?=some x) (hs:x.sort=0):FinT st r (.var p)
 |int {r p:Nat} {x:Sh} (hr:RootOf st r p) (hx:st.shs[p]?=some x) (hs:x.sort=1):FinT st r .int
 |bool {r p:Nat} {x:Sh} (hr:RootOf st r p) (hx:st.shs[p]?=some x) (hs:x.sort=2):FinT st r .bool
 |fn {r p:Nat} {x:Sh} {a b:Ty} (hr:RootOf st r p) (hx:st.shs[p]?=some x) (hs:x.sort=3) (ha:FinT st x.left a) (hb:FinT st x.right b):FinT st r (.fn a b)
 |pair {r p:Nat} {x:Sh} {a b:Ty} (hr:RootOf st r p) (hx:st.shs[p]?=some x) (hs:x.sort=4) (ha:FinT st x.left a) (hb:FinT st x.right b):FinT st r (.pair a b)
theorem FinT.move{st:SS}{q:Nat}{a:Ty}(h:FinT st r a)(k:st.eqv r q):FinT st q a:=by
 obtain⟨p,b,c⟩:=k;cases h with
 |var hr hx hs=>rw[hr.unique b]at hx ⊢;exact .var c hx hs
 |int hr hx hs=>rw[hr.unique b]at hx;exact .int c hx hs
 |bool hr hx hs=>rw[hr.unique b]at hx;exact .bool c hx hs
 |fn hr hx hs ha hb=>rw[hr.unique b]at hx;exact .fn c hx hs ha hb
 |pair hr hx hs ha hb=>rw[hr.unique b]at hx;exact .pair c hx hs ha hb
theorem FinT.sim{st st':SS}(S:st.Sim st'){a:Ty}(h:FinT st r a):FinT st' r a:=by
 induction h with
 |var hr hx hs=>obtain⟨y,c,b,_⟩:=S.shape _ _ hx;exact .var ((S.root _ _).1 hr) c (b.trans hs)
 |int hr hx hs=>obtain⟨y,c,b,_⟩:=S.shape _ _ hx;exact .int ((S.root _ _).1 hr) c (b.trans hs)
 |bool hr hx hs=>obtain⟨y,c,b,_⟩:=S.shape _ _ hx;exact .bool ((S.root _ _).1 hr) c (b.trans hs)
 |fn hr hx hs _ _ ha hb=>obtain⟨y,c,b,d,e⟩:=S.shape _ _ hx;exact .fn ((S.root _ _).1 hr) c (b.trans hs) (by rw[d];exact ha) (by rw[e];exact hb)
 |pair hr hx hs _ _ ha hb=>obtain⟨y,c,b,d,e⟩:=S.shape _ _ hx;exact .pair ((S.root _ _).1 hr) c (b.trans hs) (by rw[d];exact ha) (by rw[e];exact hb)
theorem SS.Sim.symm{a b:SS}(h:a.Sim b):b.Sim a:=⟨h.len.symm,h.clash.symm,λr y i=>by
 obtain⟨x,g,c,d,e⟩:=h.back i
 exact⟨x,g,c.symm,d.symm,e.symm⟩,λr p=>(h.root r p).symm⟩
theorem FinT.unique{st:SS}{a b:Ty}(h:FinT st r a)(k:FinT st r b):a=b:=by
 induction h generalizing b with
 |var hr hx hs=>cases k with
  |var hr' hx' hs'=>rw[hr.unique hr']
  |int hr' hx' hs'=>rw[hr.unique hr',hx']at hx;cases hx;omega
  |bool hr' hx' hs'=>rw[hr.unique hr',hx']at hx;cases hx;omega
  |fn hr' hx' hs'=>rw[hr.unique hr',hx']at hx;cases hx;omega
  |pair hr' hx' hs'=>rw[hr.unique hr',hx']at hx;cases hx;omega
 |int hr hx hs=>cases k with
  |var hr' hx' hs'=>rw[hr.unique hr',hx']at hx;cases hx;omega
  |int=>rfl
  |bool hr' hx' hs'=>rw[hr.unique hr',hx']at hx;cases hx;omega
  |fn hr' hx' hs'=>rw[hr.unique hr',hx']at hx;cases hx;omega
  |pair hr' hx' hs'=>rw[hr.unique hr',hx']at hx;cases hx;omega
 |bool hr hx hs=>cases k with
  |var hr' hx' hs'=>rw[hr.unique hr',hx']at hx;cases hx;omega
  |int hr' hx' hs'=>rw[hr.unique hr',hx']at hx;cases hx;omega
  |bool=>rfl
  |fn hr' hx' hs'=>rw[hr.unique hr',hx']at hx;cases hx;omega
  |pair hr' hx' hs'=>rw[hr.unique hr',hx']at hx;cases hx;omega
 |fn hr hx hs _ _ iha ihb=>cases k with
  |var hr' hx' hs'=>rw[hr.unique hr',hx']at hx;cases hx;omega
  |int hr' hx' hs'=>rw[hr.unique hr',hx']at hx;cases hx;omega
  |bool hr' hx' hs'=>rw[hr.unique hr',hx']at hx;cases hx;omega
  |fn hr' hx' hs' ha' hb'=>rw[hr.unique hr',hx']at hx;cases hx;rw[iha ha',ihb hb']
  |pair hr' hx' hs'=>rw[hr.unique hr',hx']at hx;cases hx;omega
 |pair hr hx hs _ _ iha ihb=>cases k with
  |var hr' hx' hs'=>rw[hr.unique hr',hx']at hx;cases hx;omega
  |int hr' hx' hs'=>rw[hr.unique hr',hx']at hx;cases hx;omega
  |bool hr' hx' hs'=>rw[hr.unique hr',hx']at hx;cases hx;omega
  |fn hr' hx' hs'=>rw[hr.unique hr',hx']at hx;cases hx;omega
  |pair hr' hx' hs' ha' hb'=>rw[hr.unique hr',hx']at hx;cases hx;rw[iha ha',ihb hb']
def Ty.size:Ty->Nat
 |.var _=>1
 |.int=>1
 |.bool=>1
 |.fn a b=>a.size+b.size+1
 |.pair a b=>a.size+b.size+1
structure W9(st:SS)(mk:List Int):Prop where
 len:mk.length=st.shs.length
 val:∀(p:Nat) (m:Int),mk[p]?=some m->m=0\/m=1\/m=2
 done:∀p:Nat,mk[p]?=some 2->∃a,FinT st p a
def Id(mk:List Int):Nat:=mk.countP (· == 0)
theorem Pj(h:mk[p]?=some 0)(b:m≠0):Id (mk.set p m)+1=Id mk:=by
 induction mk generalizing p with
 |nil=>simp at h
 |cons a mk ih=>
  cases p with
  |zero=>
   simp at h;subst h;simp only[zsZ,Id,List.countP_cons];simp[b]
  |succ p=>
   simp only[zsS,Id,List.countP_cons]
   have:=ih (p:=p) (by simpa using h);unfold Id at this;omega
theorem Qs{a:Int}(h:mk[p]?=some a)(c:a≠0)(d:m≠0):Id (mk.set p m)=Id mk:=by
 induction mk generalizing p with
 |nil=>simp at h
 |cons b mk ih=>
  cases p with
  |zero=>
   simp at h;subst h;simp only[zsZ,Id,List.countP_cons];simp[d,c]
  |succ p=>
   simp only[zsS,Id,List.countP_cons]
   have:=ih (p:=p) (by simpa using h);unfold Id at this;omega
theorem E6(a:p<mk.length)(q:Nat):(mk.set p m)[q]?=if q=p then some m else mk[q]? :=by
 by_cases h:q=p
 ·subst h;rw[mA rfl,List.getElem?_set_self a]
 ·rw[jA h,qD (λe=>h e.symm)]
structure HOk(st:SS)(mk:List Int)(r:Nat)(b:Bool)(st':SS)(mk':List Int):Prop where
 sim:st.Sim st'
 yes:b=true->∀v:Nat->Ty,¬st.sat v
 no:b=false->(∃a,FinT st r a)/\W9 st mk'/\(∀p:Nat,mk'[p]?=some 1↔mk[p]?=some 1)/\Id mk'<=Id mk
theorem zbc{st:SS}{x:Sh}{v:Nat->Ty}(s:st.sat v)(b:st.shs[p]?=some x)(a:x.sort=3\/x.sort=4):(v x.left).size<(v p).size/\(v x.right).size<(v p).size:=by
 have:=s.shape p x b;rcases a with h|h
 ·rw[this.2.2.1 h];simp only[Ty.size];omega
 ·rw[this.2.2.2 h];simp only[Ty.size];omega
theorem zdl :∀(z:Nat) {st:SS} {mk:List Int} {r:Nat},st.Wf f->W9 st mk->Id mk<=z->r<st.shs.length->(∀v:Nat->Ty,st.sat v->∀p:Nat,mk[p]?=some 1->(v r).size<(v p).size) ->
  ∃n0 b st' mk',(∀n,n0<=n->Fu n st mk r=some (b,st',mk'))/\st'.Wf f/\HOk st mk r b st' mk':=by
 intro z
 induction z with
 |zero=>
  intro st mk r W M hz hr hS;obtain⟨n1,p,st1,f1,rp,W1,S1⟩:=Iv W hr;have rp1:=(S1.root _ _).1 rp;obtain⟨x,hx,_⟩:=rp1.root;have hpl:=rp.lt.2;have hpm:p<mk.length:=by rw[M.len];exact hpl
  have hm:mk[p]?=some mk[p]:=fA hpm;have h0:mk[p]≠0:=by
   intro e;have:0<Id mk:=List.countP_pos_iff.2 ⟨mk[p],List.getElem_mem _,by simp[e]⟩;omega
  refine⟨n1+1,mk[p]==1,st1,mk,λn hn=>?_,W1,S1,λhb v s=>?_,λhb=>⟨?_,M,λ_=>.rfl,znL _⟩⟩
  ·obtain⟨m,rfl⟩:∃m,n=m+1:=⟨n-1,oM⟩;rw[Fu,f1 m oM];simp only[zbS,hx,hm];rw[jA (λh=>h0 h.1)]
  ·simp only[beq_iff_eq]at hb
   have:=hS v s p (by rw[hm,hb]);rw[s.root r p rp]at this;omega
  ·have h2:mk[p]=2:=by
    rcases M.val p _ hm with h|h|h
    ·exact absurd h h0
    ·rw[h]at hb;simp at hb
    ·exact h
   obtain⟨a,ha⟩:=M.done p (by rw[hm,h2]);exact⟨a,ha.move ⟨p,rp.self,rp⟩⟩
 |succ z ih=>
  intro st mk r W M hz hr hS;obtain⟨n1,p,st1,f1,rp,W1,S1⟩:=Iv W hr;have rp1:=(S1.root _ _).1 rp;obtain⟨x,hx,_⟩:=rp1.root;obtain⟨x0,hx0,e1,e2,e3⟩:=S1.back hx;have hpl:=rp.lt.2;have hpm:p<mk.length:=by rw[M.len];exact hpl
  have hm:mk[p]?=some mk[p]:=fA hpm;by_cases hgo:mk[p]=0/\Mt x=true;rotate_left
  ·refine⟨n1+1,mk[p]==1,st1,mk,λn hn=>?_,W1,S1,λhb v s=>?_,λhb=>⟨?_,M,λ_=>.rfl,znL _⟩⟩
   ·obtain⟨m,rfl⟩:∃m,n=m+1:=⟨n-1,oM⟩;rw[Fu,f1 m oM];simp only[zbS,hx,hm];rw[jA hgo]
   ·simp only[beq_iff_eq]at hb
    have:=hS v s p (by rw[hm,hb]);rw[s.root r p rp]at this;omega
   ·rcases M.val p _ hm with h|h|h
    ·have hnm:Mt x=false:=by
      cases hx':Mt x
      ·rfl
      ·exact absurd ⟨h,hx'⟩ hgo
     have hs:=W.sort p x0 hx0;rw[<-e1]at hs;unfold Mt at hnm;simp only[Bool.or_eq_false_iff,beq_eq_false_iff_ne]at hnm;rcases hs with h'|h'|h'|h'|h'
     ·exact⟨_,.var rp hx0 (e1.symm.trans h')⟩
     ·exact⟨_,.int rp hx0 (e1.symm.trans h')⟩
     ·exact⟨_,.bool rp hx0 (e1.symm.trans h')⟩
     ·exact absurd h' hnm.1
     ·exact absurd h' hnm.2
    ·rw[h]at hb;simp at hb
    ·obtain⟨a,ha⟩:=M.done p (by rw[hm,h]);exact⟨a,ha.move ⟨p,rp.self,rp⟩⟩
  ·obtain⟨hm0,hmade⟩:=hgo;have hmade':x.sort=3\/x.sort=4:=by
    unfold Mt at hmade;simpa using hmade
   have hp0:mk[p]?=some 0:=(by rw[hm,hm0]);have g1:=E6 (mk:=mk) (m:=1) hpm;have M1:W9 st1 (mk.set p 1):=by
    refine⟨by simp[M.len,S1.len],λq m hq=>?_,λq hq=>?_⟩
    ·rw[g1]at hq;split at hq
     ·cases hq;exact .inr (.inl rfl)
     ·exact M.val q m hq
    ·rw[g1]at hq;split at hq
     ·cases hq
     ·obtain⟨a,ha⟩:=M.done q hq;exact⟨a,ha.sim S1⟩
   have z1:Id (mk.set p 1)<=z:=(by have:=Pj (m:=1) hp0 oM;omega);have range:=W1.range p x hx;have below:∀(v:Nat->Ty),st1.sat v->∀q:Nat,(mk.set p 1)[q]?=some 1->(v p).size<=(v q).size:=λv s q hq=>by
    rw[g1]at hq;split at hq
    ·rename_i h;rw[h];exact znL _
    ·have s0:=S1.sat.2 s
     have:=hS v s0 q hq;rw[s0.root r p rp]at this;omega
   obtain⟨n2,b2,st2,mk2,h2,W2,H2⟩:=ih (r:=x.left) W1 M1 z1 range.2.1 (λv s q hq=>by have:=below v s q hq;have:=(zbc s hx hmade').1;omega);have unf:∀m,n1<=m->Fu (m+1) st mk r=(Fu m st1 (mk.set p 1) x.left).bind λa=>if a.1 then some (true,a.2)else(Fu m a.2.1 a.2.2 x.right).bind λb=>if b.1 then some (true,b.2)else some (false,b.2.1,b.2.2.set p 2):=λm hm'=>by
    rw[Fu,f1 m hm'];simp only[zbS,hx,hm];rw[mA ⟨hm0,hmade⟩]
   cases b2 with
   |true=>
    refine⟨max n1 n2+1,true,st2,mk2,λn hn=>?_,W2,S1.trans H2.sim,λ_ v s=>H2.yes rfl v (S1.sat.1 s),λh=>by cases h⟩;obtain⟨m,rfl⟩:∃m,n=m+1:=⟨n-1,oM⟩;rw[unf m oM,h2 m oM];rfl
   |false=>
    obtain⟨⟨a,ha⟩,M2,w2,z2⟩:=H2.no rfl;have M2':W9 st2 mk2:=⟨by rw[M2.len,H2.sim.len],M2.val,λq hq=>by obtain⟨c,hc⟩:=M2.done q hq;exact⟨c,hc.sim H2.sim⟩⟩;obtain⟨x2,hx2,d1,d2,d3⟩:=H2.sim.shape p x hx;have hmade2:x2.sort=3\/x2.sort=4:=(by rw[d1];exact hmade');have range2:=W2.range p x2 hx2;obtain⟨n3,b3,st3,mk3,h3,W3,H3⟩:=ih (st:=st2) (mk:=mk2) (r:=x.right) W2 M2' oM (by rw[<-d3];exact range2.2.2) (λv s q hq=>by
     have s1:=H2.sim.sat.2 s
     have:=below v s1 q ((w2 q).1 hq)
     have:=(zbc s1 hx hmade').2;omega)
    cases b3 with
    |true=>
     refine⟨max n1 (max n2 n3)+1,true,st3,mk3,λn hn=>?_,W3,(S1.trans H2.sim).trans H3.sim,λ_ v s=>H3.yes rfl v (H2.sim.sat.1 (S1.sat.1 s)),λh=>by cases h⟩;obtain⟨m,rfl⟩:∃m,n=m+1:=⟨n-1,oM⟩;rw[unf m oM,h2 m oM];simp only[zbS,xA,if_false];rw[h3 m oM];rfl
    |false=>
     obtain⟨⟨b,hb⟩,M3,w3,z3⟩:=H3.no rfl;have hb1:FinT st1 x.right b:=hb.sim H2.sim.symm;have hpm3:p<mk3.length:=(by rw[M3.len,H2.sim.len,S1.len];exact hpl);have g3:=E6 (mk:=mk3) (m:=2) hpm3;have FP:∃c,FinT st p c:=by
      have hl:FinT st x0.left a:=(by rw[<-e2];exact ha.sim S1.symm);have hr':FinT st x0.right b:=(by rw[<-e3];exact hb1.sim S1.symm);rcases hmade' with h|h
      ·exact⟨_,.fn rp.self hx0 (e1.symm.trans h) hl hr'⟩
      ·exact⟨_,.pair rp.self hx0 (e1.symm.trans h) hl hr'⟩
     have wp:mk3[p]?=some 1:=(w3 p).2 ((w2 p).2 (by rw[g1,mA rfl]));refine⟨max n1 (max n2 n3)+1,false,st3,mk3.set p 2,λn hn=>?_,W3,(S1.trans H2.sim).trans H3.sim,λh=>(by cases h),λ_=>⟨?_,⟨?_,λq m hq=>?_,λq hq=>?_⟩,λq=>?_,?_⟩⟩
     ·obtain⟨m,rfl⟩:∃m,n=m+1:=⟨n-1,oM⟩;rw[unf m oM,h2 m oM];simp only[zbS,xA,if_false];rw[h3 m oM];rfl
     ·obtain⟨c,hc⟩:=FP;exact⟨c,hc.move ⟨p,rp.self,rp⟩⟩
     ·simp[M3.len,H2.sim.len,S1.len]
     ·rw[g3]at hq;split at hq
      ·cases hq;exact .inr (.inr rfl)
      ·exact M3.val q m hq
     ·rw[g3]at hq;split at hq
      ·rename_i h;rw[h];exact FP
      ·obtain⟨c,hc⟩:=M3.done q hq;exact⟨c,(hc.sim H2.sim.symm).sim S1.symm⟩
     ·rw[g3];by_cases hq:q=p
      ·subst hq;simp[hp0]
      ·rw[jA hq,w3 q,w2 q,g1,jA hq]
     ·have:=Qs (m:=2) wp oM oM
      have:=Pj (m:=1) hp0 oM;omega
theorem zgv{N:Nat}:∀(k:Nat) {st:SS} {mk:List Int} {r:Nat},st.Wf f->W9 st mk->(∀p:Nat,mk[p]? ≠ some 1)->N=st.shs.length->r+k=N ->
  ∃O b st',(∀n,O<=n->D7 n (k+1) st mk r N=some (b,st'))/\st'.Wf f/\st.Sim st'/\(b=true->∀v:Nat->Ty,¬st.sat v)/\(b=false->∀q,r<=q->q<N->∃a,FinT st q a):=by
 intro k
 induction k with
 |zero=>
  intro st mk r W M g w L;refine⟨0,false,st,λn _=>?_,W,.refl _,λh=>(by cases h),λ_ q V t=>absurd t oM⟩;rw[D7,jA oM]
 |succ k ih=>
  intro st mk r W M g w L;obtain⟨z,E,l,y,s,o,d⟩:=zdl (Id mk) W M (znL _) (r:=r) oM (λv _ p i=>absurd i (g p));cases E with
  |true=>
   refine⟨z,true,l,λn x=>?_,o,d.sim,λ_=>d.yes rfl,λh=>(by cases h)⟩;rw[D7,mA oM,s n x];rfl
  |false=>
   obtain⟨A,e,T,_⟩:=d.no rfl;have B:W9 l y:=⟨by rw[e.len,d.sim.len],e.val,λq j=>by obtain⟨c,J⟩:=e.done q j;exact⟨c,J.sim d.sim⟩⟩;obtain⟨P,F,S,G,D,C,U,Q⟩:=ih (st:=l) (mk:=y) (r:=r+1) o B (λp i=>g p ((T p).1 i)) (by rw[d.sim.len];exact w) oM;refine⟨max z P,F,S,λn x=>?_,D,d.sim.trans C,λh v R=>U h v (d.sim.sat.1 R),λh q t H=>?_⟩
   ·rw[D7,mA oM,s n oM];simp only[zbS,xA,if_false];exact G n oM
   ·by_cases j:q=r
    ·rw[j];exact A
    ·obtain⟨a,I⟩:=Q h q oM H;exact⟨a,I.sim d.sim.symm⟩
theorem Zq{st:SS}(W:st.Wf f):∃d b st',(∀n,d<=n->Mu n st=some (b,st'))/\st'.Wf f/\st.Sim st'/\(b=true->∀v:Nat->Ty,¬st.sat v)/\(b=false->∀q,q<st.shs.length->∃a,FinT st q a):=by
 have M:W9 st (List.replicate st.shs.length 0):=by
  refine⟨sM,λp m c=>?_,λp c=>?_⟩
  ·rw[kD]at c;split at c<;>cases c;exact .inl rfl
  ·rw[kD]at c;split at c<;>cases c
 obtain⟨d,b,st',g,e,S,y,o⟩:=zgv (N:=st.shs.length) st.shs.length W M (r:=0) (λp c=>by
  rw[kD]at c;split at c<;>cases c) rfl oM
 exact⟨d,b,st',g,e,S,y,λh q i=>o h q (yD _) i⟩
def Ty.sub(s:Nat->Ty):Ty->Ty
 |.var n=>s n
 |.int=>.int
 |.bool=>.bool
 |.fn a b=>.fn (a.sub s) (b.sub s)
 |.pair a b=>.pair (a.sub s) (b.sub s)
theorem FinT.val{st:SS}{v:Nat->Ty}(s:st.sat v){a:Ty}(h:FinT st r a):v r=a.sub v:=by
 induction h with
 |var hr hx hs=>exact s.root _ _ hr
 |int hr hx hs=>rw[s.root _ _ hr];exact(s.shape _ _ hx).1 hs
 |bool hr hx hs=>rw[s.root _ _ hr];exact(s.shape _ _ hx).2.1 hs
 |fn hr hx hs _ _ ha hb=>rw[s.root _ _ hr,(s.shape _ _ hx).2.2.1 hs,ha,hb];rfl
 |pair hr hx hs _ _ ha hb=>rw[s.root _ _ hr,(s.shape _ _ hx).2.2.2 hs,ha,hb];rfl
theorem SS.ze7(st:SS):Rel st.eqv:=⟨λh=>h.symm,λh k=>h.trans k⟩
theorem zdm{st:SS}(W:st.Wf f)(w:st.clash=false)(C:st.Closed [])(F:∀q,q<st.shs.length->∃a,FinT st q a)(s:Nat->Ty):∃v,st.sat v/\∀r a,FinT st r a->v r=a.sub s:=by
 classical
 let v:Nat->Ty:=λr=>if h:r<st.shs.length then(Classical.choose (F r h)).sub s else .int;have c:∀r a,FinT st r a->v r=a.sub s:=by
  intro r a h;have b:r<st.shs.length:=by cases h with
   |var b=>exact b.lt.1
   |int b=>exact b.lt.1
   |bool b=>exact b.lt.1
   |fn b=>exact b.lt.1
   |pair b=>exact b.lt.1
  simp only[v,dif_pos b];rw[(Classical.choose_spec (F r b)).unique h]
 refine⟨v,⟨w,λr p b=>?_,λr x j=>?_⟩,c⟩
 ·obtain⟨a,d⟩:=F r b.lt.1;rw[c r a d,c p a (d.move ⟨p,b,b.self⟩)]
 ·have b:=(zlE.1 j).1;obtain⟨p,e⟩:=W.rooted b;obtain⟨y,g,_⟩:=e.root;have k:=W.like r p x y j e g;have l:=W.range r x j;refine⟨λh=>?_,λh=>?_,λh=>?_,λh=>?_⟩
  ·rw[c r _ (.int e g (by rw[k oM,h]))];rfl
  ·rw[c r _ (.bool e g (by rw[k oM,h]))];rfl
  ·obtain⟨n,o⟩:=C st.eqv st.ze7 (λ_ _ h=>h) sM r p x y j e g (.inl h);obtain⟨a,d⟩:=F x.left l.2.1;obtain⟨t,i⟩:=F x.right l.2.2;rw[c r _ (.fn e g (by rw[k oM,h]) (d.move n) (i.move o)),c _ _ d,c _ _ i];rfl
  ·obtain⟨n,o⟩:=C st.eqv st.ze7 (λ_ _ h=>h) sM r p x y j e g (.inr h);obtain⟨a,d⟩:=F x.left l.2.1;obtain⟨t,i⟩:=F x.right l.2.2;rw[c r _ (.pair e g (by rw[k oM,h]) (d.move n) (i.move o)),c _ _ d,c _ _ i];rfl
def Most(t:T)(a:Ty):Prop:=∀b,Typ t .nil b↔∃s,b=a.sub s
theorem zdn{t:T}{w:Nat}(E:Ae t .nil=some w)(z:w<=2000):∃i r st,(∀n,i<=n->Ax n t .nil ss2=some (r,st)) /\
  ((st.clash=true/\∀a,¬Typ t .nil a)\/(st.clash=false/\∃b st',(∀n,i<=n->Mu n st=some (b,st'))/\((b=true/\∀a,¬Typ t .nil a)\/(b=false/\(∃f,st'.Wf f)/\∃a,FinT st' r a/\Most t a)))):=by
 obtain⟨j,r,st,h,⟨f,W⟩,B,x,C,g,_⟩:=zdk E z;cases e:st.clash with
 |true=>
  refine⟨j,r,st,h,.inl ⟨e,λa d=>?_⟩⟩;obtain⟨v,s,_⟩:=g d;rw[s.clash]at e;cases e
 |false=>
  obtain⟨F,b,st',q,k,S,I,o⟩:=Zq W;refine⟨max j F,r,st,λn A=>h n oM,.inr ⟨e,b,st',λn A=>q n oM,?_⟩⟩;cases b with
  |true=>
   refine .inl ⟨rfl,λa d=>?_⟩;obtain⟨v,s,_⟩:=g d;exact I rfl v s
  |false=>
   obtain⟨a,d⟩:=o rfl r B;refine .inr ⟨rfl,⟨f,k⟩,a,d.sim S,λc=>⟨λy=>?_,λ⟨s,D⟩=>?_⟩⟩
   ·obtain⟨v,s,l⟩:=g y;exact⟨v,by rw[<-l];exact d.val s⟩
   ·obtain⟨v,G,H⟩:=zdm W e (x e) (o rfl) s;rw[D,<-H r a d];exact C G
end
end Go.Proofs.YtckhafpejefbbaaGreatDoor.Tw
namespace Go.Proofs.YtckhafpejefbbaaGreatDoor
section
open Tw Go.Proofs.Tryz
open Go.RowKit
variable{w:World}{e:Tw.WEn}{v:Value}
def WAt(w:World):WEn->Value->Prop
 |.nil,v=>v=.pointer none
 |.cons n k o,v=>∃b a,v=.pointer (some ⟨b,0,none⟩)/\w.heap[b]?=some (.cells #[ug n,.int .i64 k,a] 360 (0,0))/\WAt w o a
theorem WAt.grown{w c:World}(a:w.grownBy c none):∀ {e:WEn} {v:Value},WAt w e v->WAt c e v
 |.nil,_,h=>h
 |.cons ..,_,⟨b,vo,hv,hb,ho⟩=>⟨b,vo,hv,zbG a hb,WAt.grown a ho⟩
theorem WAt.ptr(h:WAt w e v):∃a,v=.pointer a:=by
 cases e with
 |nil=>exact⟨none,h⟩
 |cons=>obtain⟨c,_,b,_⟩:=h;exact⟨_,b⟩
theorem Pk(b:WAt w e v)(n:List UInt8)(k:Nat):
  Calls prog 164 #[v,ug n,vI k] w λr c=>∃a,r=.returned (.pointer a)/\w.grownBy c none/\WAt c (.cons n k e) (.pointer a):=by
 have d:Hid (WAt w e v):=b;obtain⟨a,rfl⟩:=b.ptr
 go_in;go_wp2_with fail;go_ret;exact⟨_,rfl,zwA _ _ none,_,_,rfl,Ac w _,d.o.grown (zwA _ _ none)⟩
theorem zgw(p:WAt w e v)(x:List UInt8){k:Nat}(s:e.look x=some k):
  Calls prog 163 #[v,ug x] w λr B=>r=.returned (.tuple #[vI k,.bool true])/\w=B:=by
 have g:Hid (WAt w e v):=p;have h:Hid (e.look x=some k):=s
 go_in;go_wp2_with fail;go_loopg[0] e.size (λz A wr=>wr=w/\∃b:WEn,z=b.size/\Hid (WAt w b A)/\Hid (b.look x=some k))
 case atStart=>exact⟨rfl,e,rfl,g,h⟩
 case round=>
  obtain⟨y,b,q,HK,c⟩:=hrel;subst y;cases b with
  |nil=>have:=c.o;simp[WEn.look]at this
  |cons n r o=>
   obtain⟨C,G,t,m,f⟩:=HK.o;obtain⟨j,rfl⟩:=f.ptr;subst t;obtain⟨D,E,F,_⟩:=An m;have i:Hid (WAt wr o (.pointer j)):=f;have a:=c.o;simp only[WEn.look]at a;by_cases d:n=x
   ·rw[mA d]at a;simp only[zsI]at a;subst a;have l:(n==x)=true:=(by simp[d]);go_wp2_with fail
    go_ret2;exact⟨rfl,rfl⟩
   ·rw[jA d]at a;have l:(n==x)=false:=(by simp[d]);have c:Hid (o.look x=some k):=a;go_wp2_with fail;go_roundg o.size
    case measure=>simp[WEn.size]at q;omega
    case rel=>exact⟨rfl,o,rfl,i,c⟩
end
section
open Go.Proofs.Tryz
open Go.RowKit
variable{w:World}{b fr to:Nat}{v1 v2:Value}
def Kt(l:List Value):Array Value:=l.toArray
def Dq(w:World)(l:List Value)(e:Ending)(a:World):Prop:=w.grownBy a none /\
 ((l=[]/\e=.returned (.slice none 0 0))\/∃k,e=.returned (.slice (some ⟨k,0,none⟩) l.length l.length)/\a.heap[k]?=some (.cells (Kt l) 68 (0,0)))
theorem Tb(w:World)(b:Nat):
  Calls prog 162 #[.iface 191 (pT b)] w (Dq w []):=by
 have a:=Oh;have c:=Uc;have d:=Ud;have e:=P0;have f:=Yf;have g:=J0;have h:=J5
 go_in;go_wp2_with fail;go_ret;exact⟨Aa _,.inl ⟨rfl,rfl⟩⟩
theorem Ov(w:World)(b:Nat):
  Calls prog 162 #[.iface 195 (pT b)] w (Dq w []):=by
 have a:=Mc;have c:=P9;have d:=Qa;have e:=Nv;have f:=Ue;have g:=Hv;have h:=Hw
 go_in;go_wp2_with fail;go_ret;exact⟨Aa _,.inl ⟨rfl,rfl⟩⟩
theorem Qt(w:World)(b:Nat):
  Calls prog 162 #[.iface 199 (pT b)] w (Dq w []):=by
 have a:=Nw;have c:=Rk;have d:=Rl;have e:=Oi;have f:=Vq;have g:=I6;have h:=I7
 go_in;go_wp2_with fail;go_ret;exact⟨Aa _,.inl ⟨rfl,rfl⟩⟩
theorem Lp(c:∃T n,v1=.iface T (pT n))(d:w.heap[b]?=some (.cells #[vI fr,vI to,v1] 206 (0,0))):
  Calls prog 162 #[.iface 204 (pT b)] w (Dq w [v1]):=by
 obtain⟨a,e,rfl⟩:=c;have f:w.cell? (aD b 2)=some (.iface a (pT e)):=zcR d;have g:=J7;have h:=Nx;have i:=Ny;have j:=La;have k:=Qb;have l:=Gb;have m:=Gc
 go_in;go_wp2_with fail;go_ret;exact⟨zwA _ _ none,.inr ⟨_,rfl,Ac w _⟩⟩
theorem Qu(e:∃T n,v1=.iface T (pT n))(f:∃T n,v2=.iface T (pT n))(a:w.heap[b]?=some (.cells #[vI fr,vI to,v1,v2] 229 (0,0))):
  Calls prog 162 #[.iface 207 (pT b)] w (Dq w [v1,v2]):=by
 obtain⟨c,g,rfl⟩:=e;obtain⟨d,h,rfl⟩:=f;have i:w.cell? (aD b 2)=some (.iface c (pT g)):=zcR a;have j:w.cell? (aD b 3)=some (.iface d (pT h)):=zcR a;have k:=Nz;have l:=Rm;have m:=Ro;have o:=Oj;have p:=Vr;have q:=I8;have r:=I9
 go_in;go_wp2_with fail;go_region;go_wp2_with fail;go_ret;exact⟨Ad (zwA _ _ none),.inr ⟨_,rfl,Ac w _⟩⟩
theorem Qv(e:∃T n,v1=.iface T (pT n))(f:∃T n,v2=.iface T (pT n))(a:w.heap[b]?=some (.cells #[vI fr,vI to,v1,v2] 319 (0,0))):
  Calls prog 162 #[.iface 209 (pT b)] w (Dq w [v1,v2]):=by
 obtain⟨c,g,rfl⟩:=e;obtain⟨d,h,rfl⟩:=f;have i:w.cell? (aD b 2)=some (.iface c (pT g)):=zcR a;have j:w.cell? (aD b 3)=some (.iface d (pT h)):=zcR a;have k:=Oa;have l:=Rp;have m:=Rq;have o:=Ol;have p:=Vs;have q:=Ja;have r:=Jc
 go_in;go_wp2_with fail;go_region;go_wp2_with fail;go_ret;exact⟨Ad (zwA _ _ none),.inr ⟨_,rfl,Ac w _⟩⟩
theorem M8{i:Int}(e:∃T n,v1=.iface T (pT n))(f:∃T n,v2=.iface T (pT n))(a:w.heap[b]?=some (.cells #[vI fr,vI to,vI i,v1,v2] 322 (0,0))):
  Calls prog 162 #[.iface 211 (pT b)] w (Dq w [v1,v2]):=by
 obtain⟨c,g,rfl⟩:=e;obtain⟨d,h,rfl⟩:=f;have j:w.cell? (aD b 3)=some (.iface c (pT g)):=zcR a;have k:w.cell? (aD b 4)=some (.iface d (pT h)):=zcR a;have l:=Lb;have m:=Om;have o:=On;have p:=Md;have q:=Rr;have r:=Gu;have s:=Gv
 go_in;go_wp2_with fail;go_region;go_wp2_with fail;go_ret;exact⟨Ad (zwA _ _ none),.inr ⟨_,rfl,Ac w _⟩⟩
theorem Vx{v3:Value}(f:∃T n,v1=.iface T (pT n))(g:∃T n,v2=.iface T (pT n))(h:∃T n,v3=.iface T (pT n))(a:w.heap[b]?=some (.cells #[vI fr,vI to,v1,v2,v3] 326 (0,0))):
  Calls prog 162 #[.iface 213 (pT b)] w (Dq w [v1,v2,v3]):=by
 obtain⟨c,i,rfl⟩:=f;obtain⟨d,j,rfl⟩:=g;obtain⟨e,k,rfl⟩:=h;have l:w.cell? (aD b 2)=some (.iface c (pT i)):=zcR a;have m:w.cell? (aD b 3)=some (.iface d (pT j)):=zcR a;have o:w.cell? (aD b 4)=some (.iface e (pT k)):=zcR a;have p:=Qc;have q:=Vu;have r:=Vv;have s:=Rs;have t:=za4;have v:=Me;have x:=Mf
 go_in;go_wp2_with fail;go_region;go_wp2_with fail;go_ret;exact⟨Ad (zwA _ _ none),.inr ⟨_,rfl,Ac w _⟩⟩
end
section
abbrev cE:=@List.take_succ_eq_append_getElem
end
section
open Go.Proofs.Tryz
open Go.RowKit
def zft(w:World)(k:Nat)(r:Ending)(a:World):Prop:=r=.returned (.int .i64 k)/\w.grownBy a none
def zfu(w:World)(ev v:Value)(k:Nat):Prop:=∀W:World,w.grownBy W none->Calls prog 87 #[v,ev] W (zft W k)
def Lh(ks:List Nat)(j:Nat):Nat:=(ks.take j).sum
theorem Vy(ks:List Nat)(j:Nat)(h:j<ks.length):Lh ks (j+1)=Lh ks j+ks[j]:=by
 unfold Lh;rw[cE h,List.sum_append];simp
theorem zi3(ks:List Nat)(a:∀k∈ks,k<=2001):∀j,Lh ks j<=j*2001:=by
 intro j
 induction j with
 |zero=>simp[Lh]
 |succ j ih=>
  by_cases h:j<ks.length
  ·rw[Vy ks j h]
   have:=a ks[j] (List.getElem_mem h);omega
  ·have:Lh ks (j+1)=Lh ks j:=by
    unfold Lh;rw[List.take_of_length_le oM,List.take_of_length_le oM]
   omega
theorem Fd{c:TypeId}{w:World}{b:Nat}{ev:Value}{vs:List Value}{ks:List Nat}
  (q0:TaNo c 83)
  (q1:TaNo c 215)
  (q2:TaNo c 136)
  (M:Calls prog 162 #[.iface c (pT b)] w (Dq w vs)) (S:∃a,ev=.pointer a)
  (W:vs.length=ks.length) (a3:ks.length<=3) (hK:∀j (i:j<vs.length) (l:j<ks.length),(∃T n,vs[j]=.iface T (pT n))/\zfu w ev vs[j] ks[j]) (f:∀k∈ks,k<=2001) :
  Calls prog 87 #[.iface c (pT b),ev] w (zft w (min (1+ks.sum) 2001)):=by
 obtain⟨a,rfl⟩:=S;have E:=bV M;have HK:=bV hK;have s:=bV (zi3 ks f);have H:Hid (Lh ks ks.length=ks.sum):=by show _=_;unfold Lh;rw[List.take_length]
 generalize O:min (1+ks.sum) 2001=R;have v:=bV O
 go_in;go_wp2_with fail;refine(uh E).mono ?_;rintro h d ⟨m,Q⟩;have g:Hid (w.grownBy d none):=m;rcases Q with⟨rfl,rfl⟩|⟨k,rfl,U⟩
 ·have V:ks=[]:=by simpa using W.symm
  subst V;go_wp2_with fail;go_loopg[5,18] 0 (λj r p wr=>r=vI 1/\p=vI 0/\wr=d)
  case atStart=>exact⟨rfl,rfl,rfl⟩
  case round=>
   obtain⟨rfl,rfl,rfl⟩:=hrel;go_wp2_with fail
   all_goals
    go_ret;go_light;exact⟨Ej (by have:=uh v;simp at this;omega),g.o⟩
 ·have C:Hid (d.heap[k]?=some (.cells (Kt vs) 68 (0,0))):=U;have a0:prog.cellsOf 68=1:=kR;obtain⟨N,x⟩:∃N,vs.length=N:=⟨_,rfl⟩;rw[x];have I:=bV x;have L:N=ks.length:=oM;have t:=bV L;have a1:N<=3:=oM;go_wp2_with fail;go_loopg[5,18] N (λj r p wr=>∃q:Nat,j+q=N/\q<=N/\r=vI ((1+Lh ks q:Nat):Int)/\p=vI q/\Hid (d.grownBy wr none))
  case atStart=>exact⟨0,oM,oM,by simp[Lh],rfl,Aa _⟩
  case round=>
   obtain⟨q,a2,hq,rfl,rfl,e⟩:=hrel;have hb:=uh s q;by_cases y:q<N
   ·have i:q<vs.length:=(by rw[uh I];exact y);have l:q<ks.length:=(by rw[<-uh t];exact y);obtain⟨⟨T,Y,B⟩,f⟩:=uh HK q i l;rw[B]at f;have hc:wr.cell? (aD k q)=some (.iface T (pT Y)):=by
     rw[mB wr k _ _ _ _ (zbG e.o C.o)];simp[Kt,i,B]
    have a4:(q:Int)<(N:Int):=oM;have J:=bV (f wr (Ab g.o e.o));have A:=bV (Vy ks q l);have P:=uh s (q+1);rw[uh A]at P;generalize ks[q]=kq at *;generalize z:Lh ks q=sq at *;go_wp2_with fail;refine(uh J).mono ?_;rintro e2 Z ⟨rfl,m⟩;have D:Hid (d.grownBy Z none):=Ab e.o m;go_wp2_with fail;go_roundg (gk-1)
    case measure=>omega
    case rel=>exact⟨q+1,oM,oM,Jn (by rw[uh A];omega),by go_num,D⟩
   ·have X:q=N:=oM;generalize z:Lh ks q=sq at *;have G:=bV z;have h:=uh G;rw[X,uh t,H.o]at h;have o:=uh v;rw[h]at o;have F:=bV o;go_wp2_with fail
    all_goals
     go_ret;go_light;refine⟨Ej ?_,Ab g.o e.o⟩;have o:=uh F;omega
end
section
open Tw Go.Proofs.Tryz
open Go.RowKit
variable{fr to bat hi k:Nat}{bn:List UInt8}{t:Tw.T}{w:World}{tv:Value}
theorem Dh:∀ {t:Tw.T} {e:WEn} {k:Nat},Ae t e=some k->k<=2001:=by
 intro t e k h;cases t<;>simp only[Ae,zbE,zsI]at h
 ·obtain⟨_,_,h⟩:=h;omega
 ·omega
 ·omega
 ·omega
 ·obtain⟨_,_,h⟩:=h;omega
 ·obtain⟨_,_,_,_,h⟩:=h;omega
 ·obtain⟨_,_,_,_,h⟩:=h;omega
 ·obtain⟨_,_,_,_,h⟩:=h;omega
 ·obtain⟨_,_,_,_,_,_,h⟩:=h;omega
 ·obtain⟨_,_,h⟩:=h;omega
 ·obtain⟨_,_,_,_,h⟩:=h;omega
def Ux(t:Tw.T):Prop:=∀ {w:World} {hi:Nat} {tv a:Value} {e:WEn} {k:Nat},Rep w 0 hi t tv->WAt w e a->Ae t e=some k->Calls prog 87 #[tv,a] w (zft w k)
theorem zbd(fr to:Nat)(x:List UInt8):Ux (.name fr to x):=by
 intro w hi tv p n k j a b;obtain⟨g,_,_,rfl,h⟩:=j;rw[Ae]at b;obtain⟨q,i,c⟩:=zbE.1 b;simp only[zsI]at c;have f:=bV c;have e:=bV i;have d:=bV a;have m:w.cell? (aD g 2)=some (ug x):=zcR h;obtain⟨l,rfl⟩:=a.ptr;have r:=Mx;have s:=Ky;have v:=Kz
 go_in;go_wp2_with fail;refine(zgw (uh d) x (uh e)).mono ?_;rintro o y ⟨rfl,rfl⟩;go_wp2_with fail
 all_goals
  go_ret;go_light;exact⟨Ej (by have:=uh f;omega),Aa _⟩
theorem zdo{body:Tw.T}(A:Ux body):Ux (.fn fr to bn bat body):=by
  intro w hi tv N M k C h i;obtain⟨Y,⟨c,_,_,rfl,g⟩,n⟩:=C;rw[Ae]at i;obtain⟨R,l,j⟩:=zbE.1 i;simp only[zsI]at j;have s:=bV j;have r:=bV l;have q:=bV h;have x:=bV n;have b:=bV g;have B:=bV (Dh l);obtain⟨y,D,rfl⟩:=n.iface;obtain⟨_,_,H,_,I⟩:=Ev g;obtain⟨G,rfl⟩:=h.ptr;have S:=Oo;have U:=Ke;have V:=Kf;have Q:=uh B
  go_in;go_wp2_with fail;have d:Hid (w.grownBy w.drew none):=Ad (Aa _);go_region_held3 (λW=>W.cell? (aD c 2)=some (ug bn)/\W.cell? (aD c 4)=some (.iface y (pT D))) (go_keep)
    (first
      |(go_at_call 164;refine(Pk ((uh q).grown d.o) bn 1).mono ?_;rintro z E ⟨X,rfl,a,m⟩;have e:Hid (w.grownBy E none):=Ab d.o a;have v:=bV m;have o:=Ev ((Ab d.o a).block c (zgE.1 b.o).1 sM|>.trans b.o);obtain⟨_,_,J,_,L⟩:=o;clear a m)
      |(go_at_call 87;refine(A ((uh x).grown e.o (znL _) (znL _)) (uh v) (uh r)).mono ?_;rintro z F ⟨rfl,a⟩;have f:Hid (w.grownBy F none):=Ab e.o a;have p:=Ev (f.o.block c (zgE.1 b.o).1 sM|>.trans b.o);obtain⟨_,_,O,_,P⟩:=p;clear a))
  go_wp2_with fail
  all_goals
    go_ret;go_light;exact⟨Ej (by have:=uh s;omega),f.o⟩
theorem zdp{rc:Bool}{d x:Tw.T}(hD:Ux d)(hX:Ux x):Ux (.lett fr to rc bn bat d x):=by
  intro w hi tv ev e k hr he hf;obtain⟨v1,v2,⟨b,_,_,rfl,hb⟩,r1,r2⟩:=hr;rw[Ae]at hf;obtain⟨m,hm,hf1⟩:=zbE.1 hf;obtain⟨c,hc,hf2⟩:=zbE.1 hf1;simp only[zsI]at hf2;have HR:=bV hf2;have HC:=bV hc;have HE:=bV he;have R1:=bV r1;have R2:=bV r2;have B0:=bV hb;have hm2:=Dh hm;have hc2:=Dh hc;obtain⟨T0,n0,rfl⟩:=r1.iface;obtain⟨T1,n1,rfl⟩:=r2.iface;obtain⟨c2,c3,c5,c6⟩:=Bg hb;obtain⟨a,rfl⟩:=he.ptr;have q0:=Ot;have q1:=Kg;have q2:=Kh;have tail:∀(W:World),w.grownBy W none->Hid (W.grownBy W.drew none):=λW _=>Ad (Aa _);cases rc
  · simp only[xA,if_false]at hm
    have HM:=bV hm
    go_in;go_wp2_with fail;refine(hD (uh R1) (uh HE) (uh HM)).mono ?_;rintro e1 w1 ⟨rfl,hg⟩;have G1:Hid (w.grownBy w1 none):=hg;obtain⟨_,c3',_,c6'⟩:=Bg (G1.o.block b (zgE.1 B0.o).1 sM|>.trans B0.o);have D1:Hid (w1.grownBy w1.drew none):=Ad (Aa _);go_wp2_with fail;go_region_held3 (λW=>W.cell? (aD b 3)=some (ug bn)/\W.cell? (aD b 6)=some (.iface T1 (pT n1))) (go_keep)
      (first
        |(go_at_call 164;refine(Pk ((uh HE).grown (Ab G1.o D1.o)) bn m).mono ?_;rintro e1 w2 ⟨sa2,rfl,hg,hn⟩;have G2:Hid (w.grownBy w2 none):=Ab (Ab G1.o D1.o) hg;have N2:=bV hn;have B2:=Bg (G2.o.block b (zgE.1 B0.o).1 sM|>.trans B0.o);obtain⟨_,d3,_,d6⟩:=B2;clear hg hn)
        |(go_at_call 87;refine(hX ((uh R2).grown G2.o (znL _) (znL _)) (uh N2) (uh HC)).mono ?_;rintro e1 w3 ⟨rfl,hg⟩;have G3:Hid (w.grownBy w3 none):=Ab G2.o hg;have B3:=Bg (G3.o.block b (zgE.1 B0.o).1 sM|>.trans B0.o);obtain⟨_,g3,_,g6⟩:=B3;clear hg))
    go_wp2_with fail
    all_goals
      go_ret;go_light;exact⟨Ej (by have:=uh HR;omega),G3.o⟩
  · simp only[if_true]at hm
    have HM:=bV hm
    go_in;go_wp2_with fail;refine(Pk (uh HE) bn 1).mono ?_;rintro e1 w0 ⟨sa,rfl,hg,hn⟩;have G0:Hid (w.grownBy w0 none):=hg;have N0:=bV hn;obtain⟨_,u3,u5,u6⟩:=Bg (G0.o.block b (zgE.1 B0.o).1 sM|>.trans B0.o);go_wp2_with fail;refine(hD ((uh R1).grown G0.o (znL _) (znL _)) (uh N0) (uh HM)).mono ?_;rintro e1 w1 ⟨rfl,hg⟩;have G1:Hid (w.grownBy w1 none):=Ab G0.o hg;obtain⟨_,c3',_,c6'⟩:=Bg (G1.o.block b (zgE.1 B0.o).1 sM|>.trans B0.o);have D1:Hid (w1.grownBy w1.drew none):=Ad (Aa _);go_wp2_with fail;go_region_held3 (λW=>W.cell? (aD b 3)=some (ug bn)/\W.cell? (aD b 6)=some (.iface T1 (pT n1))) (go_keep)
      (first
        |(go_at_call 164;refine(Pk ((uh HE).grown (Ab G1.o D1.o)) bn m).mono ?_;rintro e1 w2 ⟨sa2,rfl,hg,hn⟩;have G2:Hid (w.grownBy w2 none):=Ab (Ab G1.o D1.o) hg;have N2:=bV hn;have B2:=Bg (G2.o.block b (zgE.1 B0.o).1 sM|>.trans B0.o);obtain⟨_,d3,_,d6⟩:=B2;clear hg hn)
        |(go_at_call 87;refine(hX ((uh R2).grown G2.o (znL _) (znL _)) (uh N2) (uh HC)).mono ?_;rintro e1 w3 ⟨rfl,hg⟩;have G3:Hid (w.grownBy w3 none):=Ab G2.o hg;have B3:=Bg (G3.o.block b (zgE.1 B0.o).1 sM|>.trans B0.o);obtain⟨_,g3,_,g6⟩:=B3;clear hg))
    go_wp2_with fail
    all_goals
      go_ret;go_light;exact⟨Ej (by have:=uh HR;omega),G3.o⟩
theorem kid(h:Ux t){ev:Value}{e:WEn}(b:Rep w 0 hi t tv)(c:WAt w e ev)(d:Ae t e=some k):(∃T n,tv=.iface T (pT n))/\zfu w ev tv k:=
 ⟨b.iface,λ_ a=>h (b.grown a (znL _) (znL _)) (c.grown a) d⟩
theorem C7:∀t:Tw.T,Ux t
 |.name fr to x=>zbd fr to x
 |.int fr to v=>by
  intro g a e;obtain⟨b,_,_,rfl,n⟩:=g;simp only[Ae,zsI]at e;subst e;exact Fd Og J0 J5 (vs:=[]) (ks:=[]) (Tb _ b) a.ptr rfl sM sM sM
 |.truth fr to v=>by
  intro g a e;obtain⟨b,_,_,rfl,n⟩:=g;simp only[Ae,zsI]at e;subst e;exact Fd Lm Hv Hw (vs:=[]) (ks:=[]) (Ov _ b) a.ptr rfl sM sM sM
 |.side fr to v=>by
  intro g a e;obtain⟨b,_,_,rfl,n⟩:=g;simp only[Ae,zsI]at e;subst e;exact Fd My I6 I7 (vs:=[]) (ks:=[]) (Qt _ b) a.ptr rfl sM sM sM
 |.bracket fr to i=>by
  intro g a e;obtain⟨A,⟨b,_,_,rfl,n⟩,z⟩:=g;simp only[Ae,zbE,zsI]at e;obtain⟨y,j,rfl⟩:=e;have h:=kid (C7 i) z a j
  have:=Fd Jh Gb Gc (vs:=[A]) (ks:=[y]) (Lp h.1 n) a.ptr rfl sM (by
   intro s q E
   match s,q with
   |0,_=>exact h) (by intro k m;simp at m;subst m;exact Dh j)
  simpa using this
 |.fn fr to bn bat b=>zdo (C7 b)
 |.lett fr to rc bn bat d b=>zdp (C7 d) (C7 b)
 |.pair fr to l r=>by
  intro g a e;obtain⟨A,D,⟨b,_,_,rfl,n⟩,z,C⟩:=g;simp only[Ae,zbE,zsI]at e;obtain⟨y,j,B,p,rfl⟩:=e;have h:=kid (C7 l) z a j;have o:=kid (C7 r) C a p
  have:=Fd Mz I8 I9 (vs:=[A,D]) (ks:=[y,B]) (Qu h.1 o.1 n) a.ptr rfl sM (by
   intro s q E
   match s,q with
   |0,_=>exact h
   |1,_=>exact o) (by intro k m;simp at m;rcases m with rfl|rfl<;>first|exact Dh j|exact Dh p)
  simpa[Nat.add_assoc]using this
 |.call fr to l r=>by
  intro g a e;obtain⟨A,D,⟨b,_,_,rfl,n⟩,z,C⟩:=g;simp only[Ae,zbE,zsI]at e;obtain⟨y,j,B,p,rfl⟩:=e;have h:=kid (C7 l) z a j;have o:=kid (C7 r) C a p
  have:=Fd M7 Ja Jc (vs:=[A,D]) (ks:=[y,B]) (Qv h.1 o.1 n) a.ptr rfl sM (by
   intro s q E
   match s,q with
   |0,_=>exact h
   |1,_=>exact o) (by intro k m;simp at m;rcases m with rfl|rfl<;>first|exact Dh j|exact Dh p)
  simpa[Nat.add_assoc]using this
 |.binary fr to sg l r=>by
  intro g a e;obtain⟨A,D,⟨b,_,_,rfl,n⟩,z,C⟩:=g;simp only[Ae,zbE,zsI]at e;obtain⟨y,j,B,p,rfl⟩:=e;have h:=kid (C7 l) z a j;have o:=kid (C7 r) C a p
  have:=Fd Kd Gu Gv (vs:=[A,D]) (ks:=[y,B]) (M8 h.1 o.1 n) a.ptr rfl sM (by
   intro s q E
   match s,q with
   |0,_=>exact h
   |1,_=>exact o) (by intro k m;simp at m;rcases m with rfl|rfl<;>first|exact Dh j|exact Dh p)
  simpa[Nat.add_assoc]using this
 |.cond fr to c t f=>by
  intro g a e;obtain⟨A,D,J,⟨b,_,_,rfl,n⟩,z,C,I⟩:=g;simp only[Ae,zbE,zsI]at e;obtain⟨y,j,B,p,H,G,rfl⟩:=e;have h:=kid (C7 c) z a j;have o:=kid (C7 t) C a p;have F:=kid (C7 f) I a G
  have:=Fd Qq Me Mf (vs:=[A,D,J]) (ks:=[y,B,H]) (Vx h.1 o.1 F.1 n) a.ptr rfl sM (by
   intro s q E
   match s,q with
   |0,_=>exact h
   |1,_=>exact o
   |2,_=>exact F) (by intro k m;simp at m;rcases m with rfl|rfl|rfl<;>first|exact Dh j|exact Dh p|exact Dh G)
  simpa[Nat.add_assoc]using this
theorem zdq(a:Rep w 0 hi t tv)(d:Ae t .nil=some k):Calls prog 49 #[tv] w (zft w k):=by
 have c:=bV a;have b:=bV d;obtain⟨f,h,rfl⟩:=a.iface
 go_in;go_wp2_with fail;refine(C7 t (uh c) (show WAt w .nil (.pointer none)from rfl) (uh b)).mono ?_;rintro g i ⟨rfl,e⟩;have X:=bV e;go_wp2_with fail;go_ret;exact⟨rfl,uh X⟩
end
end Go.Proofs.YtckhafpejefbbaaGreatDoor
namespace Go.Proofs.YtckhafpejefbbaaGreatDoor.Tw
section
open Go
inductive BEn where
 |nil
 |cons (name:List UInt8) (k:Addr) (o:BEn)
def BEn.look:BEn->List UInt8->Option Addr
 |.nil,_=>none
 |.cons n k o,x=>if n=x then some k else o.look x
def BEn.size:BEn->Nat
 |.nil=>0
 |.cons _ _ o=>o.size+1
end
end Go.Proofs.YtckhafpejefbbaaGreatDoor.Tw
namespace Go.Proofs.YtckhafpejefbbaaGreatDoor
section
open Tw Go.Proofs.Tryz
open Go.RowKit
variable{w:World}{e:Tw.BEn}{v:Value}
def BAt(w:World):Tw.BEn->Value->Prop
 |.nil,v=>v=.pointer none
 |.cons n k o,v=>∃b a,v=.pointer (some ⟨b,0,none⟩)/\w.heap[b]?=some (.cells #[ug n,.pointer (some k),a] 302 (0,0))/\BAt w o a
theorem BAt.grown{w c:World}(a:w.grownBy c none):∀ {e:Tw.BEn} {v:Value},BAt w e v->BAt c e v
 |.nil,_,h=>h
 |.cons ..,_,⟨b,vo,hv,hb,ho⟩=>⟨b,vo,hv,zbG a hb,BAt.grown a ho⟩
theorem BAt.ptr(h:BAt w e v):∃a,v=.pointer a:=by
 cases e with
 |nil=>exact⟨none,h⟩
 |cons=>obtain⟨c,_,b,_⟩:=h;exact⟨_,b⟩
theorem Yj(b:BAt w e v)(n:List UInt8)(k:Addr):
  Calls prog 161 #[v,ug n,.pointer (some k)] w λr c=>∃a,r=.returned (.pointer a)/\w.grownBy c none/\BAt c (.cons n k e) (.pointer a):=by
 have d:Hid (BAt w e v):=b;obtain⟨a,rfl⟩:=b.ptr
 go_in;go_wp2_with fail;go_ret;exact⟨_,rfl,zwA _ _ none,_,_,rfl,Ac w _,d.o.grown (zwA _ _ none)⟩
theorem zgx(p:BAt w e v)(x:List UInt8){k:Addr}(s:e.look x=some k):
  Calls prog 86 #[v,ug x] w λr B=>r=.returned (.tuple #[.pointer (some k),.bool true])/\w=B:=by
 have g:Hid (BAt w e v):=p;have h:Hid (e.look x=some k):=s
 go_in;go_wp2_with fail;go_loopg[0] e.size (λz A wr=>wr=w/\∃b:Tw.BEn,z=b.size/\Hid (BAt w b A)/\Hid (b.look x=some k))
 case atStart=>exact⟨rfl,e,rfl,g,h⟩
 case round=>
  obtain⟨y,b,q,HK,c⟩:=hrel;subst y;cases b with
  |nil=>have:=c.o;simp[Tw.BEn.look]at this
  |cons n r o=>
   obtain⟨C,G,t,m,f⟩:=HK.o;obtain⟨j,rfl⟩:=f.ptr;subst t;obtain⟨D,E,F,_⟩:=An m;have i:Hid (BAt wr o (.pointer j)):=f;have a:=c.o;simp only[Tw.BEn.look]at a;by_cases d:n=x
   ·rw[mA d]at a;simp only[zsI]at a;subst a;have l:(n==x)=true:=(by simp[d]);go_wp2_with fail
    go_ret2;exact⟨rfl,rfl⟩
   ·rw[jA d]at a;have l:(n==x)=false:=(by simp[d]);have c:Hid (o.look x=some k):=a;go_wp2_with fail;go_roundg o.size
    case measure=>simp[Tw.BEn.size]at q;omega
    case rel=>exact⟨rfl,o,rfl,i,c⟩
theorem zdr(m:BAt w e v)(x:List UInt8)(q:e.look x=none):
  Calls prog 86 #[v,ug x] w λr z=>r=.returned (.tuple #[.pointer none,.bool false])/\w=z:=by
 have h:Hid (BAt w e v):=m;have i:Hid (e.look x=none):=q
 go_in;go_wp2_with fail;go_loopg[0] e.size (λt y wr=>wr=w/\∃a:Tw.BEn,t=a.size/\Hid (BAt w a y)/\Hid (a.look x=none))
 case atStart=>exact⟨rfl,e,rfl,h,i⟩
 case round=>
  obtain⟨s,a,p,HK,c⟩:=hrel;subst s;cases a with
  |nil=>
   have f:_=Value.pointer none:=HK.o;subst f;go_wp2_with fail
   go_ret2;exact⟨rfl,rfl⟩
  |cons n r o=>
   obtain⟨A,F,f,l,g⟩:=HK.o;obtain⟨k,rfl⟩:=g.ptr;subst f;obtain⟨C,D,E,_⟩:=An l;have j:Hid (BAt wr o (.pointer k)):=g;have b:=c.o;simp only[Tw.BEn.look]at b;by_cases d:n=x
   ·rw[mA d]at b;cases b
   ·rw[jA d]at b;have B:(n==x)=false:=(by simp[d]);have c:Hid (o.look x=none):=b;go_wp2_with fail;go_roundg o.size
    case measure=>simp[Tw.BEn.size]at p;omega
    case rel=>exact⟨rfl,o,rfl,j,c⟩
end
end Go.Proofs.YtckhafpejefbbaaGreatDoor
