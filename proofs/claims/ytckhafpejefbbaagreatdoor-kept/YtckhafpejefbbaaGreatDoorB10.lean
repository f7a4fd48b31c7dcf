/- Texts of the proof, put together: TyThy, TyThy2, TyThy3, TyThy4, TyThy5, TyThy6, Weight, Parts, Weight2, Weight3, NamesTw, Names. -/
import Derived.Test.YtckhafpejefbbaaGreatDoorB09
import Derived.Deep.LoopGhost
import Derived.Deep.RegionHeld3
import Derived.Test.YtckhafpejefbbaaGreatDoorB04

set_option maxRecDepth 100000
set_option maxHeartbeats 4000000
namespace Go.Proofs.YtckhafpejefbbaaGreatDoor.Tw
open Go
inductive Ty where
 | var (n:Nat)
 | int
 | bool
 | fn (a b:Ty)
 | pair (a b:Ty)
 deriving DecidableEq
inductive RootOf (st:SS):Nat->Nat->Prop
 | here {r:Nat} {x:Sh} (h:st.shs[r]? = some x) (hs:x.same=r):RootOf st r r
 | step {r p:Nat} {x:Sh} (h:st.shs[r]? = some x) (hs:x.same≠r) (hr:RootOf st x.same p):RootOf st r p
theorem RootOf.unique {st:SS} {r p q:Nat} (h:RootOf st r p) (k:RootOf st r q):p=q:=by
 induction h with
 | here h hs =>
  cases k with
  | here=>rfl
  | step h' hs'=>rw [h] at h'; cases h'; exact absurd hs hs'
 | step h hs _ ih =>
  cases k with
  | here h' hs'=>rw [h] at h'; cases h'; exact absurd hs' hs
  | step h' hs' hr=>rw [h] at h'; cases h'; exact ih hr
theorem RootOf.root {st:SS} {r p:Nat} (h:RootOf st r p):∃x,st.shs[p]? = some x/\x.same=p:=by
 induction h with
 | here h hs=>exact ⟨_,h,hs⟩
 | step _ _ _ ih=>exact ih
theorem RootOf.self {st:SS} {r p:Nat} (h:RootOf st r p):RootOf st p p:=by
 obtain ⟨x,h1,h2⟩:=h.root
 exact .here h1 h2
theorem RootOf.lt {st:SS} {r p:Nat} (h:RootOf st r p):r<st.shs.length/\p<st.shs.length:=by
 obtain ⟨x,h1,_⟩:=h.root
 refine ⟨?_,(zlE.1 h1).1⟩
 cases h with
 | here h=>exact (zlE.1 h).1
 | step h=>exact (zlE.1 h).1
def SS.eqv (st:SS) (a b:Nat):Prop:=∃p,RootOf st a p/\RootOf st b p
theorem SS.eqv.symm {st:SS} {a b:Nat} (h:st.eqv a b):st.eqv b a:=by obtain ⟨p,x,y⟩:=h; exact ⟨p,y,x⟩
theorem SS.eqv.trans {st:SS} {a b c:Nat} (h:st.eqv a b) (k:st.eqv b c):st.eqv a c:=by
 obtain ⟨p,x,y⟩:=h
 obtain ⟨q,z,u⟩:=k
 have:=y.unique z
 subst this
 exact ⟨p,x,u⟩
structure SS.Wf (st:SS) (f:Nat->Nat):Prop where
 rank:∀(r:Nat) (x:Sh),st.shs[r]? = some x->x.same≠r->f x.same<f r
 range:∀(r:Nat) (x:Sh),st.shs[r]? = some x->x.same<st.shs.length/\x.left<st.shs.length/\x.right<st.shs.length
 sort:∀(r:Nat) (x:Sh),st.shs[r]? = some x->x.sort=0\/x.sort=1\/x.sort=2\/x.sort=3\/x.sort=4
 leaf:∀(r:Nat) (x:Sh),st.shs[r]? = some x->x.sort≠3->x.sort≠4->x.left=0/\x.right=0
 like:∀(r p:Nat) (x y:Sh),st.shs[r]? = some x->RootOf st r p->st.shs[p]? = some y->x.sort≠0->y.sort=x.sort
theorem SS.Wf.rootAt {st:SS} {f:Nat->Nat} (h:st.Wf f):∀(k r:Nat),f r<=k->r<st.shs.length->∃p,RootOf st r p
 | k,r,hk,hr=>by
  have hx:st.shs[r]? = some st.shs[r]:=List.getElem?_eq_getElem hr
  by_cases hs:(st.shs[r]).same=r
  ·exact ⟨r,.here hx hs⟩
  ·have h1:=h.rank r _ hx hs
   obtain ⟨p,hp⟩:∃p,RootOf st (st.shs[r]).same p:=by
    cases k with
    | zero=>omega
    | succ k=>exact h.rootAt k _ (by omega) (h.range r _ hx).1
   exact ⟨p,.step hx hs hp⟩
theorem SS.Wf.rooted {st:SS} {f:Nat->Nat} (h:st.Wf f) {r:Nat} (hr:r<st.shs.length):∃p,RootOf st r p:=h.rootAt (f r) r (znL _) hr
structure SS.Sim (st st':SS):Prop where
 len:st'.shs.length=st.shs.length
 clash:st'.clash=st.clash
 shape:∀(r:Nat) (x:Sh),st.shs[r]? = some x->∃y,st'.shs[r]? = some y/\y.sort=x.sort/\y.left=x.left/\y.right=x.right
 root:∀r p,RootOf st r p↔RootOf st' r p
theorem SS.Sim.refl (st:SS):st.Sim st:=⟨rfl,rfl,fun _ x h=>⟨x,h,rfl,rfl,rfl⟩,fun _ _=>.rfl⟩
theorem SS.Sim.trans {a b c:SS} (h:a.Sim b) (k:b.Sim c):a.Sim c :=
 ⟨k.len.trans h.len,k.clash.trans h.clash,fun r x hx=>by
  obtain ⟨y,hy,a1,a2,a3⟩:=h.shape r x hx
  obtain ⟨z,hz,b1,b2,b3⟩:=k.shape r y hy
  exact ⟨z,hz,b1.trans a1,b2.trans a2,b3.trans a3⟩,fun r p=>(h.root r p).trans (k.root r p)⟩
theorem SS.Sim.eqv {a b:SS} (h:a.Sim b) {x y:Nat}:a.eqv x y↔b.eqv x y :=
 ⟨fun ⟨p,u,v⟩=>⟨p,(h.root _ _).1 u,(h.root _ _).1 v⟩,fun ⟨p,u,v⟩=>⟨p,(h.root _ _).2 u,(h.root _ _).2 v⟩⟩
theorem SS.Sim.back {st st':SS} (h:st.Sim st') {r:Nat} {y:Sh} (hy:st'.shs[r]? = some y):∃x,st.shs[r]? = some x/\y.sort=x.sort/\y.left=x.left/\y.right=x.right:=by
 have hr:=(zlE.1 hy).1
 rw [h.len] at hr
 obtain ⟨y',hy',e⟩:=h.shape r _ (List.getElem?_eq_getElem hr)
 rw [hy] at hy'
 cases hy'
 exact ⟨_,List.getElem?_eq_getElem hr,e⟩
theorem zoz {st:SS} {r:Nat} {x:Sh} (hx:st.shs[r]? = some x) (n q:Nat):(za9 st r x n).shs[q]? = if q=r then some {x with same:=n} else st.shs[q]? := by
 unfold za9
 have hr:=(zlE.1 hx).1
 by_cases h:q=r
 ·subst h
  rw [if_pos rfl,List.getElem?_set_self hr]
 ·rw [if_neg h,List.getElem?_set_ne (fun e=>h e.symm)]
theorem yf2 {st:SS} {f:Nat->Nat} (W:st.Wf f) {r:Nat} {x y:Sh} (hx:st.shs[r]? = some x) (hs:x.same≠r) (hy:st.shs[x.same]? = some y) :
  (za9 st r x y.same).Wf f/\st.Sim (za9 st r x y.same):=by
 have hg:=zoz hx y.same
 have len:(za9 st r x y.same).shs.length=st.shs.length:=by simp [za9]
 have f1:=W.rank r x hx hs
 have f2:y.same≠x.same->f y.same<f x.same:=W.rank _ _ hy
 have ysr:y.same≠r:=by
  intro e
  by_cases h:y.same=x.same
  ·exact hs (h.symm.trans e)
  ·have:=f2 h; rw [e] at this; omega
 have fwd:∀q p,RootOf st q p->RootOf (za9 st r x y.same) q p:=by
  intro q p h
  induction h with
  | @here q z h1 h2 =>
   by_cases hq:q=r
   ·subst hq; rw [hx] at h1; cases h1; exact absurd h2 hs
   ·exact .here (x:=z) (by rw [hg,if_neg hq]; exact h1) h2
  | @step q p z h1 h2 _ ih =>
   by_cases hq:q=r
   ·subst hq
    rw [hx] at h1
    cases h1
    by_cases h:y.same=x.same
    ·exact .step (x := {x with same:=y.same}) (by rw [hg,if_pos rfl]) (by simpa using ysr) (by simpa [h] using ih)
    ·have hsn:x.same≠q:=hs
     cases ih with
     | here h3 h4=>rw [hg,if_neg hsn,hy] at h3; cases h3; exact absurd h4 h
     | step h3 h4 h5 =>
      rw [hg,if_neg hsn,hy] at h3
      cases h3
      exact .step (x := {x with same:=y.same}) (by rw [hg,if_pos rfl]) (by simpa using ysr) h5
   ·exact .step (x:=z) (by rw [hg,if_neg hq]; exact h1) h2 ih
 have shape:∀(q:Nat) (z:Sh),st.shs[q]? = some z->∃u,(za9 st r x y.same).shs[q]? = some u/\u.sort=z.sort/\u.left=z.left/\u.right=z.right:=by
  intro q z hz
  rw [hg]
  by_cases hq:q=r
  ·subst hq; rw [hx] at hz; cases hz; exact ⟨_,if_pos rfl,rfl,rfl,rfl⟩
  ·exact ⟨z,by rw [if_neg hq]; exact hz,rfl,rfl,rfl⟩
 have rank:∀(q:Nat) (z:Sh),(za9 st r x y.same).shs[q]? = some z->z.same≠q->f z.same<f q:=by
  intro q z hz hn
  rw [hg] at hz
  by_cases hq:q=r
  ·subst hq
   rw [if_pos rfl] at hz
   cases hz
   show f y.same<f q
   by_cases h:y.same=x.same
   ·rw [h]; exact f1
   ·exact Nat.lt_trans (f2 h) f1
  ·rw [if_neg hq] at hz; exact W.rank q z hz hn
 have sim:st.Sim (za9 st r x y.same):=by
  refine ⟨len,rfl,shape,fun q p=>⟨fwd q p,fun h => ?_⟩⟩
  have hq:=h.lt.1
  rw [len] at hq
  obtain ⟨p',hp'⟩:=W.rooted hq
  have:=(fwd q p' hp').unique h
  subst this
  exact hp'
 refine ⟨⟨rank,?_,?_,?_,?_⟩,sim⟩
 ·intro q z hz
  rw [len]
  obtain ⟨z',hz',e1,e2,e3⟩:=sim.back hz
  rw [e2,e3]
  refine ⟨?_,(W.range q z' hz').2⟩
  rw [hg] at hz
  by_cases hq:q=r
  ·rw [if_pos hq] at hz; cases hz; exact (W.range _ _ hy).1
  ·rw [if_neg hq] at hz; exact (W.range q z hz).1
 ·intro q z hz
  obtain ⟨z',hz',e1,_⟩:=sim.back hz
  rw [e1]
  exact W.sort q z' hz'
 ·intro q z hz
  obtain ⟨z',hz',e1,e2,e3⟩:=sim.back hz
  rw [e1,e2,e3]
  exact W.leaf q z' hz'
 ·intro q p z u hz hr hu
  obtain ⟨z',hz',e1,_⟩:=sim.back hz
  obtain ⟨u',hu',d1,_⟩:=sim.back hu
  rw [e1,d1]
  exact W.like q p z' u' hz' ((sim.root q p).2 hr) hu'
theorem yae {f:Nat->Nat}:∀(k:Nat) {st:SS} {r:Nat},st.Wf f->f r<=k->r<st.shs.length ->
  ∃p st',(∀n,k<n->zdq n st r=some (p,st'))/\RootOf st r p/\st'.Wf f/\st.Sim st':=by
 intro k
 induction k with
 | zero =>
  intro st r W hk hr
  have hx:st.shs[r]? = some st.shs[r]:=List.getElem?_eq_getElem hr
  have hs:(st.shs[r]).same=r:=by
   by_cases hs:(st.shs[r]).same=r
   ·exact hs
   ·have:=W.rank r _ hx hs; omega
  refine ⟨r,st,fun n hn => ?_,.here hx hs,W,.refl _⟩
  obtain ⟨m,rfl⟩:∃m,n=m+1:=⟨n-1,by omega⟩
  rw [zdq,hx]
  simp [hs]
 | succ k ih =>
  intro st r W hk hr
  have hx:st.shs[r]? = some st.shs[r]:=List.getElem?_eq_getElem hr
  by_cases hs:(st.shs[r]).same=r
  ·refine ⟨r,st,fun n hn => ?_,.here hx hs,W,.refl _⟩
   obtain ⟨m,rfl⟩:∃m,n=m+1:=⟨n-1,by omega⟩
   rw [zdq,hx]
   simp [hs]
  ·have h1:=W.rank r _ hx hs
   have hsl:=(W.range r _ hx).1
   have hy:st.shs[(st.shs[r]).same]? = some st.shs[(st.shs[r]).same]:=List.getElem?_eq_getElem hsl
   obtain ⟨W',S'⟩:=yf2 W hx hs hy
   obtain ⟨p,st',h2,h3,h4,h5⟩:=ih (st:=za9 st r st.shs[r] (st.shs[(st.shs[r]).same]).same) (r:=(st.shs[r]).same) W' (by omega) (by rw [S'.len]; exact hsl)
   refine ⟨p,st',fun n hn => ?_,.step hx hs ((S'.root _ _).2 h3),h4,S'.trans h5⟩
   obtain ⟨m,rfl⟩:∃m,n=m+1:=⟨n-1,by omega⟩
   rw [zdq,hx]
   simp only [hs,if_false]
   rw [hy]
   exact h2 m (by omega)
theorem zgb {f:Nat->Nat} {st:SS} {r:Nat} (W:st.Wf f) (hr:r<st.shs.length):∃n0 p st',(∀n,n0<=n->zdq n st r=some (p,st'))/\RootOf st r p/\st'.Wf f/\st.Sim st':=by
 obtain ⟨p,st',h1,h2⟩:=yae (f r) W (znL _) hr
 exact ⟨f r+1,p,st',fun n hn=>h1 n (by omega),h2⟩
open Go
def Sh.says (x:Sh) (v:Nat->Ty) (r:Nat):Prop:=(x.sort=1->v r = .int)/\(x.sort=2->v r = .bool)/\(x.sort=3->v r = .fn (v x.left) (v x.right))/\(x.sort=4->v r = .pair (v x.left) (v x.right))
structure SS.sat (st:SS) (v:Nat->Ty):Prop where
 clash:st.clash=false
 root:∀r p,RootOf st r p->v r=v p
 shape:∀(r:Nat) (x:Sh),st.shs[r]? = some x->x.says v r
theorem Sh.zpq {x y:Sh} (h1:y.sort=x.sort) (h2:y.left=x.left) (h3:y.right=x.right) {v:Nat->Ty} {r:Nat} (h:x.says v r):y.says v r:=by
 unfold Sh.says at h ⊢
 rw [h1,h2,h3]
 exact h
theorem SS.Sim.sat {st st':SS} (h:st.Sim st') {v:Nat->Ty}:st.sat v↔st'.sat v:=by
 constructor
 ·intro s
  refine ⟨h.clash.trans s.clash,fun r p hr=>s.root r p ((h.root r p).2 hr),fun r y hy => ?_⟩
  obtain ⟨x,hx,e1,e2,e3⟩:=h.back hy
  exact Sh.zpq e1 e2 e3 (s.shape r x hx)
 ·intro s
  refine ⟨h.clash.symm.trans s.clash,fun r p hr=>s.root r p ((h.root r p).1 hr),fun r x hx => ?_⟩
  obtain ⟨y,hy,e1,e2,e3⟩:=h.shape r x hx
  exact Sh.zpq e1.symm e2.symm e3.symm (s.shape r y hy)
structure Rel (R:Nat->Nat->Prop):Prop where
 symm:∀ {a b},R a b->R b a
 trans:∀ {a b c},R a b->R b c->R a c
def SS.Closed (st:SS) (P:List (Nat×Nat)):Prop:=∀R:Nat->Nat->Prop,Rel R->(∀a b,st.eqv a b->R a b)->(∀q∈P,R q.1 q.2) ->
 ∀(r p:Nat) (x y:Sh),st.shs[r]? = some x->RootOf st r p->st.shs[p]? = some y->x.sort=3\/x.sort=4->R x.left y.left/\R x.right y.right
theorem SS.Sim.closed {st st':SS} (h:st.Sim st') {P:List (Nat×Nat)} (c:st.Closed P):st'.Closed P:=by
 intro R hR he hP r p x y hx hr hy hs
 obtain ⟨x',hx',e1,e2,e3⟩:=h.back hx
 obtain ⟨y',hy',d1,d2,d3⟩:=h.back hy
 rw [e2,e3,d2,d3]
 exact c R hR (fun a b hab=>he a b (h.eqv.1 hab)) hP r p x' y' hx' ((h.root r p).2 hr) hy' (by rw [<-e1]; exact hs)
structure SS.Joins (st st':SS) (a b:Nat):Prop where
 len:st'.shs.length=st.shs.length
 clash:st'.clash=st.clash
 shape:∀(r:Nat) (x:Sh),st.shs[r]? = some x->∃y,st'.shs[r]? = some y/\y.sort=x.sort/\y.left=x.left/\y.right=x.right
 root:∀q p,RootOf st' q p↔(RootOf st q a/\p=b)\/(RootOf st q p/\p≠a)
theorem join {st:SS} {f:Nat->Nat} (W:st.Wf f) {a b:Nat} {x:Sh} (hx:st.shs[a]? = some x) (ha:x.same=a) (hb:RootOf st b b) (hab:a≠b) (hl:∀y,st.shs[b]? = some y->x.sort=0\/y.sort=x.sort) :
  (∃f',(za9 st a x b).Wf f')/\st.Joins (za9 st a x b) a b:=by
 have hg:=zoz hx b
 have len:(za9 st a x b).shs.length=st.shs.length:=by simp [za9]
 have haa:RootOf st a a:=.here hx ha
 obtain ⟨yb,hyb,hyb2⟩:=hb.root
 have fwd:∀q p,RootOf st q p->(p≠a->RootOf (za9 st a x b) q p)/\(p=a->RootOf (za9 st a x b) q b):=by
  intro q p h
  induction h with
  | @here q z h1 h2 =>
   refine ⟨fun hq=>.here (x:=z) (by rw [hg,if_neg hq]; exact h1) h2,fun hq => ?_⟩
   subst hq
   exact .step (x := {x with same:=b}) (by rw [hg,if_pos rfl]) (by simpa using hab.symm) (.here (x:=yb) (by rw [hg,if_neg hab.symm]; exact hyb) hyb2)
  | @step q p z h1 h2 _ ih =>
   have hq:q≠a:=by intro e; subst e; rw [hx] at h1; cases h1; exact h2 ha
   exact ⟨fun hp=>.step (x:=z) (by rw [hg,if_neg hq]; exact h1) h2 (ih.1 hp),fun hp=>.step (x:=z) (by rw [hg,if_neg hq]; exact h1) h2 (ih.2 hp)⟩
 have shape:∀(q:Nat) (z:Sh),st.shs[q]? = some z->∃u,(za9 st a x b).shs[q]? = some u/\u.sort=z.sort/\u.left=z.left/\u.right=z.right:=by
  intro q z hz
  rw [hg]
  by_cases hq:q=a
  ·subst hq; rw [hx] at hz; cases hz; exact ⟨_,if_pos rfl,rfl,rfl,rfl⟩
  ·exact ⟨z,by rw [if_neg hq]; exact hz,rfl,rfl,rfl⟩
 have back:∀(q:Nat) (z:Sh),(za9 st a x b).shs[q]? = some z->∃u,st.shs[q]? = some u/\z.sort=u.sort/\z.left=u.left/\z.right=u.right/\(q≠a->z=u)/\(q=a->z.same=b):=by
  intro q z hz
  rw [hg] at hz
  by_cases hq:q=a
  ·subst hq; rw [if_pos rfl] at hz; cases hz; exact ⟨x,hx,rfl,rfl,rfl,fun h=>absurd rfl h,fun _=>rfl⟩
  ·rw [if_neg hq] at hz; exact ⟨z,hz,rfl,rfl,rfl,fun _=>rfl,fun h=>absurd h hq⟩
 have root:∀q p,RootOf (za9 st a x b) q p↔(RootOf st q a/\p=b)\/(RootOf st q p/\p≠a):=by
  intro q p
  constructor
  ·intro h
   have hq:=h.lt.1
   rw [len] at hq
   obtain ⟨p',hp'⟩:=W.rooted hq
   by_cases hpa:p'=a
   ·subst hpa
    exact .inl ⟨hp',h.unique ((fwd q _ hp').2 rfl)⟩
   ·have:=((fwd q p' hp').1 hpa).unique h
    subst this
    exact .inr ⟨hp',hpa⟩
  ·rintro (⟨h,rfl⟩ | ⟨h,hp⟩)
   ·exact (fwd q a h).2 rfl
   ·exact (fwd q p h).1 hp
 classical
 refine ⟨⟨fun q=>if RootOf st q a then f q+f b+1 else f q,?_,?_,?_,?_,?_⟩,len,rfl,shape,root⟩
 ·intro q z hz hn
  obtain ⟨u,hu,_,_,_,h1,h2⟩:=back q z hz
  have nb:¬RootOf st b a:=fun h=>hab (h.unique hb)
  by_cases hq:q=a
  ·subst hq
   rw [h2 rfl]
   simp only [if_neg nb,if_pos haa]
   omega
  ·have:=h1 hq
   subst this
   have:=W.rank q z hu hn
   have e:RootOf st q a↔RootOf st z.same a:=by
    constructor
    ·intro h
     cases h with
     | here=>exact absurd rfl hq
     | step h3 _ h4=>rw [hu] at h3; cases h3; exact h4
    ·exact fun h=>.step hu hn h
   simp only [e]
   split <;> omega
 ·intro q z hz
  obtain ⟨u,hu,_,e2,e3,h1,h2⟩:=back q z hz
  rw [len,e2,e3]
  refine ⟨?_,(W.range q u hu).2⟩
  by_cases hq:q=a
  ·rw [h2 hq]; exact hb.lt.1
  ·rw [h1 hq]; exact (W.range q u hu).1
 ·intro q z hz
  obtain ⟨u,hu,e1,_⟩:=back q z hz
  rw [e1]; exact W.sort q u hu
 ·intro q z hz
  obtain ⟨u,hu,e1,e2,e3,_⟩:=back q z hz
  rw [e1,e2,e3]; exact W.leaf q u hu
 ·intro q p z y hz hr hy hs
  obtain ⟨u,hu,e1,_⟩:=back q z hz
  obtain ⟨y',hy',d1,_⟩:=back p y hy
  rw [e1] at hs ⊢
  rw [d1]
  rcases (root q p).1 hr with ⟨h1,rfl⟩ | ⟨h1,_⟩
  ·have hxs:=W.like q a u x hu h1 hx hs
   rcases hl y' hy' with h0 | h0
   ·rw [<-hxs] at hs; exact absurd h0 hs
   ·rw [h0,hxs]
  ·exact W.like q p u y' hu h1 hy' hs
theorem SS.Joins.back {st st':SS} {a b:Nat} (h:st.Joins st' a b) {r:Nat} {y:Sh} (hy:st'.shs[r]? = some y):∃x,st.shs[r]? = some x/\y.sort=x.sort/\y.left=x.left/\y.right=x.right:=by
 have hr:=(zlE.1 hy).1
 rw [h.len] at hr
 obtain ⟨y',hy',e⟩:=h.shape r _ (List.getElem?_eq_getElem hr)
 rw [hy] at hy'
 cases hy'
 exact ⟨_,List.getElem?_eq_getElem hr,e⟩
theorem SS.Joins.eqv {st st':SS} {a b:Nat} (h:st.Joins st' a b) {x y:Nat} (k:st.eqv x y):st'.eqv x y:=by
 obtain ⟨p,h1,h2⟩:=k
 by_cases hp:p=a
 ·subst hp; exact ⟨b,(h.root _ _).2 (.inl ⟨h1,rfl⟩),(h.root _ _).2 (.inl ⟨h2,rfl⟩)⟩
 ·exact ⟨p,(h.root _ _).2 (.inr ⟨h1,hp⟩),(h.root _ _).2 (.inr ⟨h2,hp⟩)⟩
theorem SS.Joins.one {st st':SS} {a b:Nat} (h:st.Joins st' a b) (ha:RootOf st a a) (hb:RootOf st b b) (hab:a≠b):st'.eqv a b :=
 ⟨b,(h.root _ _).2 (.inl ⟨ha,rfl⟩),(h.root _ _).2 (.inr ⟨hb,hab.symm⟩)⟩
theorem SS.Joins.sat {st st':SS} {a b:Nat} (h:st.Joins st' a b) {v:Nat->Ty} (s:st.sat v) (hv:v a=v b):st'.sat v:=by
 refine ⟨h.clash.trans s.clash,fun r p hr => ?_,fun r y hy => ?_⟩
 ·rcases (h.root r p).1 hr with ⟨h1,rfl⟩ | ⟨h1,_⟩
  ·rw [s.root r a h1,hv]
  ·exact s.root r p h1
 ·obtain ⟨x,hx,e1,e2,e3⟩:=h.back hy
  exact Sh.zpq e1 e2 e3 (s.shape r x hx)
structure UOk (st st':SS) (a b:Nat):Prop where
 wf:∃f,st'.Wf f
 len:st'.shs.length=st.shs.length
 clash:st'.clash=false->st.clash=false
 shape:∀(r:Nat) (x:Sh),st.shs[r]? = some x->∃y,st'.shs[r]? = some y/\y.sort=x.sort/\y.left=x.left/\y.right=x.right
 eqv:∀ {x y},st.eqv x y->st'.eqv x y
 one:st'.clash=false->st'.eqv a b
 sat:∀ {v:Nat->Ty},st.sat v->v a=v b->st'.sat v
 closed:∀ {P},st.Closed ((a,b)::P)->st'.clash=false->st'.Closed P
def SS.few (st:SS) (k:Nat):Prop:=∃L:List Nat,L.length<=k/\∀r,RootOf st r r->r∈L
theorem yaf {x y:Sh} {v:Nat->Ty} {p q:Nat} (hx:x.says v p) (hy:y.says v q) (hs:x.sort=y.sort) (hv:v p=v q) (hr:x.sort=3\/x.sort=4):v x.left=v y.left/\v x.right=v y.right:=by
 rcases hr with h | h
 ·have a:=hx.2.2.1 h
  have b:=hy.2.2.1 (by rw [<-hs]; exact h)
  rw [a,b] at hv
  injection hv with h1 h2
  exact ⟨h1,h2⟩
 ·have a:=hx.2.2.2 h
  have b:=hy.2.2.2 (by rw [<-hs]; exact h)
  rw [a,b] at hv
  injection hv with h1 h2
  exact ⟨h1,h2⟩
theorem zwz {x y:Sh} {v:Nat->Ty} {p q:Nat} (hx:x.says v p) (hy:y.says v q) (sx:x.sort=0\/x.sort=1\/x.sort=2\/x.sort=3\/x.sort=4) (sy:y.sort=0\/y.sort=1\/y.sort=2\/y.sort=3\/y.sort=4) (h0:x.sort≠0) (h1:y.sort≠0) (hs:x.sort≠y.sort):v p≠v q:=by
 obtain ⟨a1,a2,a3,a4⟩:=hx
 obtain ⟨b1,b2,b3,b4⟩:=hy
 intro hv
 rcases sx with h | h | h | h | h <;> rcases sy with k | k | k | k | k <;> first | omega | (first | rw [a1 h] at hv | rw [a2 h] at hv | rw [a3 h] at hv | rw [a4 h] at hv) <;> (first | rw [b1 k] at hv | rw [b2 k] at hv | rw [b3 k] at hv | rw [b4 k] at hv) <;> cases hv
theorem zw0:∀(k:Nat) {st:SS} {f:Nat->Nat} {a b:Nat},st.Wf f->st.few k->a<st.shs.length->b<st.shs.length ->
  ∃n0 st',(∀n,n0<=n->zcp n st a b=some st')/\UOk st st' a b/\st'.few k:=by
 intro k
 induction k with
 | zero =>
  intro st f a b W hF ha hb
  obtain ⟨L,hL,hL2⟩:=hF
  obtain ⟨p,hp⟩:=W.rooted ha
  have:=hL2 p hp.self
  rw [List.length_eq_zero_iff.1 (Nat.le_zero.1 hL)] at this
  simp at this
 | succ k ih =>
  intro st f a b W hF ha hb
  obtain ⟨n1,p,st1,f1,ra,W1,S1⟩:=zgb W ha
  obtain ⟨n2,q,st2,f2,rb,W2,S2⟩:=zgb W1 (r:=b) (by rw [S1.len]; exact hb)
  have S:=S1.trans S2
  have ra2:RootOf st2 a p:=(S.root _ _).1 ra
  have rb2:RootOf st2 b q:=(S2.root _ _).1 rb
  obtain ⟨x,hx,hxs⟩:=ra2.root
  obtain ⟨y,hy,hys⟩:=rb2.root
  have hF2:st2.few (k+1):=by
   obtain ⟨L,h1,h2⟩:=hF
   exact ⟨L,h1,fun r hr=>h2 r ((S.root _ _).2 hr)⟩
  have unf:∀n,max n1 n2+1<=n->zcp n st a b=(if p=q then some st2 else if x.sort=0 then some (za9 st2 p x q) else if y.sort=0 then some (za9 st2 q y p)
    else if x.sort=y.sort then (zcp (n-1) (za9 st2 p x q) x.left y.left).bind fun st'=>zcp (n-1) st' x.right y.right else some {st2 with clash:=true}):=by
   intro n hn
   obtain ⟨m,rfl⟩:∃m,n=m+1:=⟨n-1,by omega⟩
   rw [zcp,f1 m (by omega)]
   simp only [zbS]
   rw [f2 m (by omega)]
   simp only [zbS,hx,hy,Nat.add_sub_cancel]
  -- what the first two finds have kept
  have simU:∀ {st':SS},UOk st2 st' p q->UOk st st' a b:=by
   intro st' U
   refine ⟨U.wf,U.len.trans S.len,fun h=>S.clash.symm.trans (U.clash h),fun r z hz => ?_,fun h=>U.eqv (S.eqv.1 h),fun h => ?_,fun {v} s hv => ?_,fun {P} c h => ?_⟩
   ·obtain ⟨z1,hz1,a1,a2,a3⟩:=S.shape r z hz
    obtain ⟨z2,hz2,b1,b2,b3⟩:=U.shape r z1 hz1
    exact ⟨z2,hz2,b1.trans a1,b2.trans a2,b3.trans a3⟩
   ·exact ((U.eqv ⟨p,ra2,ra2.self⟩).trans (U.one h)).trans (U.eqv ⟨q,rb2.self,rb2⟩)
   ·have s2:=S.sat.1 s
    exact U.sat s2 (by rw [<-s2.root a p ra2,<-s2.root b q rb2]; exact hv)
   ·refine U.closed ?_ h
    intro R hR he hP r p' x' y' hx' hr' hy' hs'
    refine (S.closed c) R hR he (fun w hw => ?_) r p' x' y' hx' hr' hy' hs'
    simp only [zmC] at hw
    rcases hw with rfl | hw
    ·exact hR.trans (he _ _ ⟨p,ra2,ra2.self⟩) (hR.trans (hP (p,q) (by simp)) (he _ _ ⟨q,rb2.self,rb2⟩))
    ·exact hP w (by simp [hw])
  by_cases hpq:p=q
  ·refine ⟨max n1 n2+1,st2,fun n hn=>by rw [unf n hn,if_pos hpq],simU ⟨⟨f,W2⟩,rfl,id,fun r z hz=>⟨z,hz,rfl,rfl,rfl⟩,id,fun _=>⟨p,ra2.self,by rw [<-hpq]; exact ra2.self⟩,fun s _=>s,fun {P} c _ => ?_⟩,hF2⟩
   intro R hR he hP r p' x' y' hx' hr' hy' hs'
   refine c R hR he (fun w hw => ?_) r p' x' y' hx' hr' hy' hs'
   simp only [zmC] at hw
   rcases hw with rfl | hw
   ·exact he _ _ ⟨p,ra2.self,by rw [<-hpq]; exact ra2.self⟩
   ·exact hP w hw
  -- a variable is put
  have putOne:∀ {c d:Nat} {z:Sh},st2.shs[c]? = some z->z.same=c->RootOf st2 d d->c≠d->z.sort=0->(∀v:Nat->Ty,v p=v q->v c=v d)->(∀R:Nat->Nat->Prop,Rel R->R c d->R p q)->(∀s':SS,s'.eqv c d->s'.eqv p q)->UOk st2 (za9 st2 c z d) p q/\(za9 st2 c z d).few (k+1):=by
   intro c d z hz hzs hd hcd h0 hv hRc hEq
   obtain ⟨Wj,J⟩:=join W2 hz hzs hd hcd (fun _ _=>.inl h0)
   have hcc:RootOf st2 c c:=.here hz hzs
   refine ⟨⟨Wj,J.len,fun h=>J.clash.symm.trans h,J.shape,J.eqv,fun _=>hEq _ (J.one hcc hd hcd),fun {v} s h=>J.sat s (hv v h),fun {P} cl _ => ?_⟩,?_⟩
   ·intro R hR he hP r p' x' y' hx' hr' hy' hs'
    obtain ⟨x2,hx2,e1,e2,e3⟩:=J.back hx'
    obtain ⟨y2,hy2,d1,d2,d3⟩:=J.back hy'
    rw [e2,e3,d2,d3]
    rcases (J.root r p').1 hr' with ⟨h1,rfl⟩ | ⟨h1,_⟩
    ·have:=W2.like r c x2 z hx2 h1 hz (by rw [<-e1]; omega)
     rw [h0] at this
     rw [e1] at hs'
     omega
    ·refine cl R hR (fun u w h=>he u w (J.eqv h)) (fun w hw => ?_) r p' x2 y2 hx2 h1 hy2 (by rw [<-e1]; exact hs')
     simp only [zmC] at hw
     rcases hw with rfl | hw
     ·exact hRc R hR (he _ _ (J.one hcc hd hcd))
     ·exact hP w hw
   ·obtain ⟨L,h1,h2⟩:=hF2
    refine ⟨L,h1,fun r hr => ?_⟩
    rcases (J.root r r).1 hr with ⟨h3,rfl⟩ | ⟨h3,_⟩
    ·exact h2 _ hd
    ·exact h2 r h3
  by_cases hx0:x.sort=0
  ·obtain ⟨U,F⟩:=putOne hx hxs rb2.self hpq hx0 (fun _ h=>h) (fun _ _ h=>h) (fun _ h=>h)
   exact ⟨max n1 n2+1,_,fun n hn=>by rw [unf n hn,if_neg hpq,if_pos hx0],simU U,F⟩
  by_cases hy0:y.sort=0
  ·obtain ⟨U,F⟩:=putOne hy hys ra2.self (Ne.symm hpq) hy0 (fun _ h=>h.symm) (fun _ hR h=>hR.symm h) (fun _ h=>h.symm)
   exact ⟨max n1 n2+1,_,fun n hn=>by rw [unf n hn,if_neg hpq,if_neg hx0,if_pos hy0],simU U,F⟩
  by_cases hxy:x.sort=y.sort
  rotate_left
  ·refine ⟨max n1 n2+1,_,fun n hn=>by rw [unf n hn,if_neg hpq,if_neg hx0,if_neg hy0,if_neg hxy],simU ?_,?_⟩
   ·have rt:∀r p',RootOf st2 r p'↔RootOf {st2 with clash:=true} r p':=by
     intro r p'
     constructor <;> (intro h; induction h with | here a b=>exact .here a b | step a b _ c=>exact .step a b c)
    refine ⟨⟨f,W2.rank,W2.range,W2.sort,W2.leaf,fun r p' z u hz hr=>W2.like r p' z u hz ((rt _ _).2 hr)⟩,rfl,fun h=>by simp at h,fun r z hz=>⟨z,hz,rfl,rfl,rfl⟩,fun ⟨c,h1,h2⟩=>⟨c,(rt _ _).1 h1,(rt _ _).1 h2⟩,fun h=>by simp at h,fun {v} s hv => ?_,fun {P} _ h=>by simp at h⟩
    exact absurd hv (zwz (s.shape p x hx) (s.shape q y hy) (W2.sort p x hx) (W2.sort q y hy) hx0 hy0 hxy)
   ·obtain ⟨L,h1,h2⟩:=hF2
    refine ⟨L,h1,fun r hr=>h2 r ?_⟩
    obtain ⟨z,h3,h4⟩:=hr.root
    exact .here h3 h4
  -- both are made
  obtain ⟨⟨fj,Wj⟩,J⟩:=join W2 hx hxs rb2.self hpq (fun y' hy'=>by rw [hy] at hy'; cases hy'; exact .inr hxy.symm)
  have one:=J.one ra2.self rb2.self hpq
  have Fj:(za9 st2 p x q).few k:=by
   obtain ⟨L,h1,h2⟩:=hF2
   refine ⟨L.erase p,?_,fun r hr => ?_⟩
   ·rw [List.length_erase_of_mem (h2 p ra2.self)]; omega
   ·rcases (J.root r r).1 hr with ⟨h3,rfl⟩ | ⟨h3,h4⟩
    ·exact (List.mem_erase_of_ne (Ne.symm hpq)).2 (h2 _ rb2.self)
    ·exact (List.mem_erase_of_ne h4).2 (h2 r h3)
  have rx:=W2.range p x hx
  have ry:=W2.range q y hy
  obtain ⟨n3,st3,h3,U3,F3⟩:=ih (a:=x.left) (b:=y.left) Wj Fj (by rw [J.len]; exact rx.2.1) (by rw [J.len]; exact ry.2.1)
  obtain ⟨f3,W3⟩:=U3.wf
  obtain ⟨n4,st4,h4,U4,F4⟩:=ih (a:=x.right) (b:=y.right) W3 F3 (by rw [U3.len,J.len]; exact rx.2.2) (by rw [U3.len,J.len]; exact ry.2.2)
  refine ⟨max (max n1 n2) (max n3 n4)+1,st4,fun n hn => ?_,simU ?_,?_⟩
  ·rw [unf n (by omega),if_neg hpq,if_neg hx0,if_neg hy0,if_pos hxy,h3 (n-1) (by omega)]
   exact h4 (n-1) (by omega)
  ·refine ⟨U4.wf,by rw [U4.len,U3.len,J.len],fun h=>J.clash.symm.trans (U3.clash (U4.clash h)),fun r z hz => ?_,fun h=>U4.eqv (U3.eqv (J.eqv h)),fun _=>U4.eqv (U3.eqv one),fun {v} s hv => ?_,fun {P} c h => ?_⟩
   ·obtain ⟨z1,hz1,a1,a2,a3⟩:=J.shape r z hz
    obtain ⟨z2,hz2,b1,b2,b3⟩:=U3.shape r z1 hz1
    obtain ⟨z3,hz3,c1,c2,c3⟩:=U4.shape r z2 hz2
    exact ⟨z3,hz3,c1.trans (b1.trans a1),c2.trans (b2.trans a2),c3.trans (b3.trans a3)⟩
   ·have hlr:v x.left=v y.left/\v x.right=v y.right:=by
     by_cases hm:x.sort=3\/x.sort=4
     ·exact yaf (s.shape p x hx) (s.shape q y hy) hxy hv hm
     ·have lx:=W2.leaf p x hx (fun h=>hm (.inl h)) (fun h=>hm (.inr h))
      have ly:=W2.leaf q y hy (fun h=>hm (.inl (hxy.trans h))) (fun h=>hm (.inr (hxy.trans h)))
      rw [lx.1,lx.2,ly.1,ly.2]
      exact ⟨rfl,rfl⟩
    exact U4.sat (U3.sat (J.sat s hv) hlr.1) hlr.2
   ·refine U4.closed (U3.closed ?_ (U4.clash h)) h
    intro R hR he hP r p' x' y' hx' hr' hy' hs'
    obtain ⟨x2,hx2,e1,e2,e3⟩:=J.back hx'
    obtain ⟨y2,hy2,d1,d2,d3⟩:=J.back hy'
    rw [e2,e3,d2,d3]
    have hRl:R x.left y.left:=hP (x.left,y.left) (by simp)
    have hRr:R x.right y.right:=hP (x.right,y.right) (by simp)
    have key:∀p'' y'',RootOf st2 r p''->st2.shs[p'']? = some y''->R x2.left y''.left/\R x2.right y''.right:=fun p'' y'' h1 h2=>by
     refine c R hR (fun u w h=>he u w (J.eqv h)) (fun w hw => ?_) r p'' x2 y'' hx2 h1 h2 (by rw [<-e1]; exact hs')
     simp only [zmC] at hw
     rcases hw with rfl | hw
     ·exact he _ _ one
     ·exact hP w (by simp [hw])
    rcases (J.root r p').1 hr' with ⟨h1,rfl⟩ | ⟨h1,_⟩
    ·rw [hy] at hy2
     cases hy2
     obtain ⟨k1,k2⟩:=key p x h1 hx
     exact ⟨hR.trans k1 hRl,hR.trans k2 hRr⟩
    ·exact key p' y2 h1 hy2
  ·obtain ⟨L,h1,h2⟩:=F4
   exact ⟨L,by omega,h2⟩
theorem SS.yee {st:SS}:st.few st.shs.length:=⟨List.range st.shs.length,by simp,fun r hr=>List.mem_range.2 hr.lt.1⟩
theorem zit {st:SS} {f:Nat->Nat} {a b:Nat} (W:st.Wf f) (ha:a<st.shs.length) (hb:b<st.shs.length):∃n0 st',(∀n,n0<=n->zcp n st a b=some st')/\UOk st st' a b:=by
 obtain ⟨n0,st',h1,h2,_⟩:=zw0 st.shs.length W SS.yee ha hb
 exact ⟨n0,st',h1,h2⟩
theorem UOk.sound {st st':SS} {a b:Nat} (U:UOk st st' a b) {v:Nat->Ty} (s:st'.sat v):st.sat v/\v a=v b:=by
 have eq:∀ {x y},st'.eqv x y->v x=v y:=fun ⟨p,h1,h2⟩=>(s.root _ _ h1).trans (s.root _ _ h2).symm
 refine ⟨⟨U.clash s.clash,fun r p hr=>eq (U.eqv ⟨p,hr,hr.self⟩),fun r x hx => ?_⟩,eq (U.one s.clash)⟩
 obtain ⟨y,hy,e1,e2,e3⟩:=U.shape r x hx
 exact Sh.zpq e1.symm e2.symm e3.symm (s.shape r y hy)
open Go
structure AOk (st st':SS) (x:Sh):Prop where
 wf:∃f,st'.Wf f
 len:st'.shs.length=st.shs.length+1
 clash:st'.clash=st.clash
 old:∀(r:Nat) (y:Sh),st.shs[r]? = some y->st'.shs[r]? = some y
 sat:∀ {v:Nat->Ty},st'.sat v↔st.sat v/\x.says v st.shs.length
 closed:∀ {P},st.Closed P->st'.Closed P
theorem zih {st:SS} {f:Nat->Nat} (W:st.Wf f) {of:Int} {l r:Nat} (hs:of=0\/of=1\/of=2\/of=3\/of=4) (hl:l<st.shs.length+1) (hr':r<st.shs.length+1) (h0:of≠3->of≠4->l=0/\r=0) (hn:st.shs.length<=10000000) :
  ∃st',addS of l r st=some (st.shs.length,st')/\AOk st st' ⟨of,l,r,st.shs.length⟩:=by
 refine ⟨_,by rw [addS,if_pos hn],?_⟩
 have old:∀(q:Nat) (y:Sh),st.shs[q]? = some y->(st.shs ++ [(⟨of,l,r,st.shs.length⟩:Sh)])[q]? = some y:=fun q y h=>by
  rw [List.getElem?_append_left (zlE.1 h).1]; exact h
 have new:∀(q:Nat) (y:Sh),(st.shs ++ [(⟨of,l,r,st.shs.length⟩:Sh)])[q]? = some y->st.shs[q]? = some y\/(q=st.shs.length/\y=⟨of,l,r,st.shs.length⟩):=fun q y h=>by
  rcases Nat.lt_or_ge q st.shs.length with hq | hq
  ·rw [List.getElem?_append_left hq] at h; exact .inl h
  ·rw [List.getElem?_append_right hq] at h
   have h2:=(zlE.1 h).1
   simp at h2
   have:q=st.shs.length:=by omega
   subst this
   simp at h
   exact .inr ⟨rfl,h.symm⟩
 have at_:(st.shs ++ [(⟨of,l,r,st.shs.length⟩:Sh)])[st.shs.length]? = some ⟨of,l,r,st.shs.length⟩:=by simp
 have fwd:∀q p,RootOf st q p->RootOf {st with shs:=st.shs ++ [(⟨of,l,r,st.shs.length⟩:Sh)]} q p:=by
  intro q p h
  induction h with
  | here h1 h2=>exact .here (old _ _ h1) h2
  | step h1 h2 _ ih=>exact .step (old _ _ h1) h2 ih
 have root:∀q p,RootOf {st with shs:=st.shs ++ [(⟨of,l,r,st.shs.length⟩:Sh)]} q p->RootOf st q p\/(q=st.shs.length/\p=st.shs.length):=by
  intro q p h
  have hq:=h.lt.1
  simp at hq
  rcases Nat.lt_or_ge q st.shs.length with h1 | h1
  ·obtain ⟨p',hp'⟩:=W.rooted h1
   have:=(fwd q p' hp').unique h
   subst this
   exact .inl hp'
  ·have:q=st.shs.length:=by omega
   subst this
   exact .inr ⟨rfl,(RootOf.here (x:=⟨of,l,r,st.shs.length⟩) at_ rfl).unique h |>.symm⟩
 refine ⟨⟨f,?_,?_,?_,?_,?_⟩,by simp,rfl,old,fun {v}=>⟨fun s=>⟨⟨s.clash,fun q p h=>s.root q p (fwd q p h),fun q y h=>s.shape q y (old q y h)⟩,s.shape _ _ at_⟩,fun ⟨s,h⟩=>⟨s.clash,fun q p hq => ?_,fun q y hy => ?_⟩⟩,fun {P} c => ?_⟩
 ·intro q y hy hn
  rcases new q y hy with h | ⟨h,rfl⟩
  ·exact W.rank q y h hn
  ·exact absurd h.symm hn
 ·intro q y hy
  simp only [List.length_append,List.length_singleton]
  rcases new q y hy with h | ⟨h,rfl⟩
  ·have:=W.range q y h; omega
  ·exact ⟨by simp,hl,hr'⟩
 ·intro q y hy
  rcases new q y hy with h | ⟨h,rfl⟩
  ·exact W.sort q y h
  ·exact hs
 ·intro q y hy
  rcases new q y hy with h | ⟨h,rfl⟩
  ·exact W.leaf q y h
  ·exact h0
 ·intro q p y z hy hr hz hne
  rcases root q p hr with h | ⟨h1,h2⟩
  ·have hq:=h.lt
   rcases new q y hy with h3 | ⟨h3,_⟩
   ·rcases new p z hz with h4 | ⟨h4,_⟩
    ·exact W.like q p y z h3 h h4 hne
    ·omega
   ·omega
  ·subst h1; subst h2
   have:=at_.symm.trans hy
   have h3:=at_.symm.trans hz
   cases this
   cases h3
   rfl
 ·rcases root q p hq with h1 | ⟨h1,h2⟩
  ·exact s.root q p h1
  ·rw [h1,h2]
 ·rcases new q y hy with h1 | ⟨h1,rfl⟩
  ·exact s.shape q y h1
  ·rw [h1]; exact h
 ·intro R hR he hP q p y z hy hr hz hs'
  rcases root q p hr with h | ⟨h1,h2⟩
  ·have hq:=h.lt
   rcases new q y hy with h3 | ⟨h3,_⟩
   ·rcases new p z hz with h4 | ⟨h4,_⟩
    ·exact c R hR (fun a b ⟨u,h5,h6⟩=>he a b ⟨u,fwd _ _ h5,fwd _ _ h6⟩) hP q p y z h3 h h4 hs'
    ·omega
   ·omega
  ·subst h1; subst h2
   have h3:=at_.symm.trans hy
   have h4:=at_.symm.trans hz
   cases h3
   cases h4
   have rooted:∀u,u<st.shs.length+1->∃p,RootOf {st with shs:=st.shs ++ [(⟨of,l,r,st.shs.length⟩:Sh)]} u p:=fun u hu=>by
    rcases Nat.lt_or_ge u st.shs.length with h1 | h1
    ·obtain ⟨p,hp⟩:=W.rooted h1
     exact ⟨p,fwd _ _ hp⟩
    ·have:u=st.shs.length:=by omega
     subst this
     exact ⟨_,.here at_ rfl⟩
   obtain ⟨pl,hpl⟩:=rooted l hl
   obtain ⟨pr,hpr⟩:=rooted r hr'
   exact ⟨he _ _ ⟨pl,hpl,hpl⟩,he _ _ ⟨pr,hpr,hpr⟩⟩
inductive TEn where
 | nil
 | fix (name:List UInt8) (a:Ty) (o:TEn)
 | dfn (name:List UInt8) (t:T) (o:TEn)
def TEn.look:TEn->List UInt8->Option (Ty ⊕ (T×TEn))
 | .nil,_=>none
 | .fix n a o,x=>if n=x then some (.inl a) else o.look x
 | .dfn n t o,x=>if n=x then some (.inr (t,o)) else o.look x
mutual
inductive Typ:T->TEn->Ty->Prop
 | name {fr to:Nat} {x:List UInt8} {e:TEn} {a:Ty} (h:e.look x=some (.inl a)):Typ (.name fr to x) e a
 | use {fr to:Nat} {x:List UInt8} {e o:TEn} {t:T} {a:Ty} (h:e.look x=some (.inr (t,o))) (hd:DTyp t o a):Typ (.name fr to x) e a
 | int {fr to:Nat} {v:Int} {e:TEn}:Typ (.int fr to v) e .int
 | truth {fr to:Nat} {b:Bool} {e:TEn}:Typ (.truth fr to b) e .bool
 | side {fr to:Nat} {b:Bool} {e:TEn} {a c:Ty}:Typ (.side fr to b) e (.fn (.pair a c) (if b then c else a))
 | bracket {fr to:Nat} {i:T} {e:TEn} {a:Ty} (h:Typ i e a):Typ (.bracket fr to i) e a
 | pair {fr to:Nat} {l r:T} {e:TEn} {a b:Ty} (hl:Typ l e a) (hr:Typ r e b):Typ (.pair fr to l r) e (.pair a b)
 | call {fr to:Nat} {f x:T} {e:TEn} {a b:Ty} (hf:Typ f e (.fn a b)) (hx:Typ x e a):Typ (.call fr to f x) e b
 | binary {fr to:Nat} {s:Int} {l r:T} {e:TEn} (hl:Typ l e .int) (hr:Typ r e .int):Typ (.binary fr to s l r) e (if s=23\/s=15 then .bool else .int)
 | cond {fr to:Nat} {c t f:T} {e:TEn} {a:Ty} (hc:Typ c e .bool) (ht:Typ t e a) (hf:Typ f e a):Typ (.cond fr to c t f) e a
 | fn {fr to bat:Nat} {bn:List UInt8} {b:T} {e:TEn} {a c:Ty} (h:Typ b (.fix bn a e) c):Typ (.fn fr to bn bat b) e (.fn a c)
 | lett {fr to bat:Nat} {rc:Bool} {bn:List UInt8} {d b:T} {e:TEn} {a c:Ty} (hd:DTyp (.lett fr to rc bn bat d b) e a) (hb:Typ b (.dfn bn (.lett fr to rc bn bat d b) e) c):Typ (.lett fr to rc bn bat d b) e c
inductive DTyp:T->TEn->Ty->Prop
 | plain {fr to bat:Nat} {bn:List UInt8} {d b:T} {e:TEn} {a:Ty} (h:Typ d e a):DTyp (.lett fr to false bn bat d b) e a
 | recu {fr to bat:Nat} {bn:List UInt8} {d b:T} {e:TEn} {a:Ty} (h:Typ d (.fix bn a e) a):DTyp (.lett fr to true bn bat d b) e a
end
def En.val (v:Nat->Ty):En->TEn
 | .nil=>.nil
 | .fix n r o=>.fix n (v r) (o.val v)
 | .dfn n t o=>.dfn n t (o.val v)
theorem En.zmy (v:Nat->Ty) (x:List UInt8):∀e:En,(e.val v).look x=(e.look x).map fun | .inl r=>.inl (v r) | .inr (t,o)=>.inr (t,o.val v)
 | .nil=>rfl
 | .fix n r o=>by
  simp only [En.val,TEn.look,En.look]
  split
  ·rfl
  ·exact En.zmy v x o
 | .dfn n t o=>by
  simp only [En.val,TEn.look,En.look]
  split
  ·rfl
  ·exact En.zmy v x o
def En.upto (n:Nat):En->Prop
 | .nil=>True
 | .fix _ r o=>r<n/\o.upto n
 | .dfn _ _ o=>o.upto n
theorem En.upto.mono {n m:Nat} (h:n<=m):∀ {e:En},e.upto n->e.upto m
 | .nil,_=>trivial
 | .fix ..,k=>⟨by have:=k.1; omega,En.upto.mono h k.2⟩
 | .dfn _ _ o,k=>En.upto.mono (e:=o) h k
theorem En.upto.look {n:Nat} {x:List UInt8}:∀ {e:En},e.upto n->(∀r,e.look x=some (.inl r)->r<n)/\∀t o,e.look x=some (.inr (t,o))->o.upto n
 | .nil,_=>⟨fun _ h=>by simp [En.look] at h,fun _ _ h=>by simp [En.look] at h⟩
 | .fix nm r o,k=>by
  have ih:=En.upto.look (x:=x) k.2
  simp only [En.look]
  split
  ·exact ⟨fun _ h=>(by cases h; exact k.1),fun _ _ h=>(by cases h)⟩
  ·exact ih
 | .dfn nm t o,k=>by
  have ih:=En.upto.look (x:=x) (e:=o) k
  simp only [En.look]
  split
  ·exact ⟨fun _ h=>(by cases h),fun _ _ h=>(by cases h; exact k)⟩
  ·exact ih
def Agree (n:Nat) (v v':Nat->Ty):Prop:=∀r,r<n->v' r=v r
theorem En.zd9 {n:Nat} {v v':Nat->Ty} (h:Agree n v v'):∀ {e:En},e.upto n->e.val v'=e.val v
 | .nil,_=>rfl
 | .fix ..,k=>by simp only [En.val]; rw [h _ k.1,En.zd9 h k.2]
 | .dfn _ _ o,k=>by simp only [En.val]; rw [En.zd9 (e:=o) h k]
theorem Agree.trans {n m:Nat} {a b c:Nat->Ty} (h:Agree n a b) (k:Agree m b c) (hn:n<=m):Agree n a c:=fun r hr=>(k r (by omega)).trans (h r hr)
def SS.base (st:SS):Prop:=(∃x,st.shs[0]? = some x/\x.sort=1)/\∃x,st.shs[1]? = some x/\x.sort=2
theorem SS.base.len {st:SS} (h:st.base):2<=st.shs.length:=by
 obtain ⟨_,x,h1,_⟩:=h
 have:=(zlE.1 h1).1
 omega
theorem SS.base.vals {st:SS} (h:st.base) {v:Nat->Ty} (s:st.sat v):v 0 = .int/\v 1 = .bool:=by
 obtain ⟨⟨x,h1,h2⟩,y,h3,h4⟩:=h
 exact ⟨(s.shape 0 x h1).1 h2,(s.shape 1 y h3).2.1 h4⟩
structure IOk (J:TEn->Ty->Prop) (e:En) (st st':SS) (r k:Nat):Prop where
 wf:∃f,st'.Wf f
 lt:r<st'.shs.length
 low:st.shs.length<=st'.shs.length
 high:st'.shs.length<=st.shs.length+k
 base:st'.base
 clash:st'.clash=false->st.clash=false
 closed:st.Closed []->st'.clash=false->st'.Closed []
 sound:∀ {v:Nat->Ty},st'.sat v->st.sat v/\J (e.val v) (v r)
 complete:∀ {v:Nat->Ty} {a:Ty},st.sat v->J (e.val v) a->∃v',Agree st.shs.length v v'/\st'.sat v'/\v' r=a
def IGood (run:Nat->SS->Option (Nat×SS)) (J:TEn->Ty->Prop) (e:En) (k:Nat):Prop :=
 ∀(st:SS) (f:Nat->Nat),st.Wf f->st.base->e.upto st.shs.length->st.shs.length+k<=10000000->∃n0 r st',(∀n,n0<=n->run n st=some (r,st'))/\IOk J e st st' r k
theorem IGood.mono {run:Nat->SS->Option (Nat×SS)} {J:TEn->Ty->Prop} {e:En} {k k':Nat} (h:IGood run J e k) (hk:k<=k'):IGood run J e k':=fun st f W b hb hl=>by
 obtain ⟨n0,r,st',h1,h2⟩:=h st f W b hb (by omega)
 exact ⟨n0,r,st',h1,{h2 with high:=by have:=h2.high; omega}⟩
theorem AOk.base {st st':SS} {x:Sh} (h:AOk st st' x) (b:st.base):st'.base:=by
 obtain ⟨⟨x,h1,h2⟩,y,h3,h4⟩:=b
 exact ⟨⟨x,h.old _ _ h1,h2⟩,y,h.old _ _ h3,h4⟩
theorem UOk.base {st st':SS} {a b:Nat} (h:UOk st st' a b) (k:st.base):st'.base:=by
 obtain ⟨⟨x,h1,h2⟩,y,h3,h4⟩:=k
 obtain ⟨x',g1,g2,_⟩:=h.shape _ _ h1
 obtain ⟨y',g3,g4,_⟩:=h.shape _ _ h3
 exact ⟨⟨x',g1,g2.trans h2⟩,y',g3,g4.trans h4⟩
theorem SS.Closed.more {st:SS} {P Q:List (Nat×Nat)} (h:st.Closed P) (hs:∀q∈P,q∈Q):st.Closed Q:=fun R hR he hP=>h R hR he (fun q hq=>hP q (hs q hq))
def upd (v:Nat->Ty) (r:Nat) (a:Ty):Nat->Ty:=fun q=>if q=r then a else v q
theorem zr8 (v:Nat->Ty) (n:Nat) (a:Ty):Agree n v (upd v n a):=fun r hr=>by unfold upd; rw [if_neg (by omega)]
theorem SS.sat.agree {st:SS} {f:Nat->Nat} (W:st.Wf f) {v v':Nat->Ty} (s:st.sat v) (h:Agree st.shs.length v v'):st.sat v':=by
 refine ⟨s.clash,fun r p hr => ?_,fun r x hx => ?_⟩
 ·rw [h r hr.lt.1,h p hr.lt.2]; exact s.root r p hr
 ·have hr:=(zlE.1 hx).1
  obtain ⟨_,h1,h2⟩:=W.range r x hx
  have:=s.shape r x hx
  unfold Sh.says at this ⊢
  rw [h r hr,h _ h1,h _ h2]
  exact this
theorem AOk.put {st st':SS} {x:Sh} {f:Nat->Nat} (A:AOk st st' x) (W:st.Wf f) {v:Nat->Ty} (s:st.sat v) {a:Ty} (h:x.says (upd v st.shs.length a) st.shs.length):∃v',Agree st.shs.length v v'/\st'.sat v'/\v' st.shs.length=a :=
 ⟨upd v st.shs.length a,zr8 _ _ _,A.sat.2 ⟨s.agree W (zr8 _ _ _),h⟩,by simp [upd]⟩
open Go
theorem IGood.iff {run:Nat->SS->Option (Nat×SS)} {J J':TEn->Ty->Prop} {e:En} {k:Nat} (h:IGood run J e k) (hJ:∀ ρ a,J ρ a↔J' ρ a):IGood run J' e k:=fun st f W b hb hl=>by
 obtain ⟨n0,r,st',h1,h2⟩:=h st f W b hb hl
 exact ⟨n0,r,st',h1,{h2 with sound:=fun s=>⟨(h2.sound s).1,(hJ _ _).1 (h2.sound s).2⟩,complete:=fun s j=>h2.complete s ((hJ _ _).2 j)}⟩
theorem IGood.shift {run run':Nat->SS->Option (Nat×SS)} {J:TEn->Ty->Prop} {e:En} {k:Nat} (h:IGood run J e k) (hr:∀n st,run' (n+1) st=run n st):IGood run' J e k:=fun st f W b hb hl=>by
 obtain ⟨n0,r,st',h1,h2⟩:=h st f W b hb hl
 refine ⟨n0+1,r,st',fun n hn => ?_,h2⟩
 obtain ⟨m,rfl⟩:∃m,n=m+1:=⟨n-1,by omega⟩
 rw [hr]
 exact h1 m (by omega)
theorem zp9 (c:Nat) (a:Ty) (hc:(c=0/\a = .int)\/(c=1/\a = .bool)) (e:En):IGood (fun _ st=>some (c,st)) (fun _ τ => τ = a) e 0:=fun st f W b hb hl=>by
 have hv:∀ {v:Nat->Ty},st.sat v->v c=a:=fun s=>by
  have:=b.vals s
  rcases hc with ⟨rfl,rfl⟩ | ⟨rfl,rfl⟩
  ·exact this.1
  ·exact this.2
 refine ⟨0,c,st,fun _ _=>rfl,⟨⟨f,W⟩,by have:=b.len; omega,znL _,znL _,b,id,fun h _=>h,fun s=>⟨s,hv s⟩,fun {v τ} s h=>⟨v,fun _ _=>rfl,s,by rw [h]; exact hv s⟩⟩⟩
theorem yag {run1 run2:Nat->SS->Option (Nat×SS)} {J1 J2:TEn->Ty->Prop} {e:En} {k1 k2:Nat} (h1:IGood run1 J1 e k1) (h2:IGood run2 J2 e k2) :
  IGood (fun n st=>(run1 n st).bind fun a=>(run2 n a.2).bind fun b=>addS 4 a.1 b.1 b.2) (fun ρ τ => ∃a b,J1 ρ a/\J2 ρ b /\ τ = .pair a b) e (k1+k2+1):=fun st f W b hb hl=>by
 obtain ⟨n1,r1,st1,g1,I1⟩:=h1 st f W b hb (by omega)
 obtain ⟨f1,W1⟩:=I1.wf
 have l1:=I1.low
 have u1:=I1.high
 obtain ⟨n2,r2,st2,g2,I2⟩:=h2 st1 f1 W1 I1.base (hb.mono l1) (by omega)
 obtain ⟨f2,W2⟩:=I2.wf
 have l2:=I2.low
 have u2:=I2.high
 have hr1:=I1.lt
 have hr2:=I2.lt
 obtain ⟨st3,g3,A⟩:=zih W2 (of:=4) (l:=r1) (r:=r2) (by omega) (by omega) (by omega) (fun _ h=>absurd rfl h) (by omega)
 refine ⟨max n1 n2,st2.shs.length,st3,fun n hn => ?_,⟨A.wf,by rw [A.len]; omega,by rw [A.len]; omega,by rw [A.len]; omega,A.base I2.base,fun h=>I1.clash (I2.clash (A.clash.symm.trans h)),fun c h=>A.closed (I2.closed (I1.closed c (I2.clash (A.clash.symm.trans h))) (A.clash.symm.trans h)),fun {v} s => ?_,fun {v τ} s ⟨a,c,ja,jc,hτ⟩ => ?_⟩⟩
 ·show Option.bind _ _=_
  rw [g1 n (by omega)]
  simp only [zbS]
  rw [g2 n (by omega)]
  exact g3
 ·obtain ⟨s2,hx⟩:=A.sat.1 s
  obtain ⟨s1,j2⟩:=I2.sound s2
  obtain ⟨s0,j1⟩:=I1.sound s1
  exact ⟨s0,_,_,j1,j2,hx.2.2.2 rfl⟩
 ·obtain ⟨v1,ag1,s1,e1⟩:=I1.complete s ja
  obtain ⟨v2,ag2,s2,e2⟩:=I2.complete s1 (a:=c) (by rw [En.zd9 ag1 hb]; exact jc)
  obtain ⟨v3,ag3,s3,e3⟩:=A.put W2 s2 (a := τ) (by
   refine ⟨fun h=>by simp at h,fun h=>by simp at h,fun h=>by simp at h,fun _ => ?_⟩
   simp only [upd,if_true]
   rw [if_neg (by omega),if_neg (by omega),ag2 r1 hr1,e1,e2,hτ])
  exact ⟨v3,(ag1.trans ag2 l1).trans ag3 (by omega),s3,e3⟩
theorem yah {run1 run2:Nat->SS->Option (Nat×SS)} {J1 J2:TEn->Ty->Prop} {e:En} {k1 k2:Nat} (h1:IGood run1 J1 e k1) (h2:IGood run2 J2 e k2) :
  IGood (fun n st=>(run1 n st).bind fun x=>(run2 n x.2).bind fun y=>(addS 0 0 0 y.2).bind fun to=>(addS 3 y.1 to.1 to.2).bind fun fa=>(zcp n fa.2 x.1 fa.1).bind fun st'=>some (to.1,st'))
   (fun ρ τ => ∃a,J1 ρ (.fn a τ)/\J2 ρ a) e (k1+k2+2):=fun st f W b hb hl=>by
 obtain ⟨n1,r1,st1,g1,I1⟩:=h1 st f W b hb (by omega)
 obtain ⟨f1,W1⟩:=I1.wf
 have l1:=I1.low
 have u1:=I1.high
 obtain ⟨n2,r2,st2,g2,I2⟩:=h2 st1 f1 W1 I1.base (hb.mono l1) (by omega)
 obtain ⟨f2,W2⟩:=I2.wf
 have l2:=I2.low
 have u2:=I2.high
 have hr1:=I1.lt
 have hr2:=I2.lt
 obtain ⟨st3,g3,A3⟩:=zih W2 (of:=0) (l:=0) (r:=0) (by omega) (by omega) (by omega) (fun _ _=>⟨rfl,rfl⟩) (by omega)
 obtain ⟨f3,W3⟩:=A3.wf
 have e3:=A3.len
 obtain ⟨st4,g4,A4⟩:=zih W3 (of:=3) (l:=r2) (r:=st2.shs.length) (by omega) (by omega) (by omega) (fun h=>absurd rfl h) (by omega)
 obtain ⟨f4,W4⟩:=A4.wf
 have e4:=A4.len
 obtain ⟨n5,st5,g5,U⟩:=zit W4 (a:=r1) (b:=st3.shs.length) (by omega) (by omega)
 have cl:st5.clash=false->st2.clash=false:=fun h=>A3.clash.symm.trans (A4.clash.symm.trans (U.clash h))
 refine ⟨max (max n1 n2) n5,st2.shs.length,st5,fun n hn => ?_,⟨U.wf,by rw [U.len]; omega,by rw [U.len]; omega,by rw [U.len]; omega,U.base (A4.base (A3.base I2.base)),fun h=>I1.clash (I2.clash (cl h)),fun c h=>U.closed ((A4.closed (A3.closed (I2.closed (I1.closed c (I2.clash (cl h))) (cl h)))).more (by simp)) h,fun {v} s => ?_,fun {v τ} s ⟨a,j1,j2⟩ => ?_⟩⟩
 ·show Option.bind _ _=_
  rw [g1 n (by omega)]
  simp only [zbS]
  rw [g2 n (by omega)]
  simp only [zbS]
  rw [g3]
  simp only [zbS]
  rw [g4]
  simp only [zbS]
  rw [g5 n (by omega)]
  rfl
 ·obtain ⟨s4,hv⟩:=U.sound s
  obtain ⟨s3,hx⟩:=A4.sat.1 s4
  obtain ⟨s2,_⟩:=A3.sat.1 s3
  obtain ⟨s1,j2⟩:=I2.sound s2
  obtain ⟨s0,j1⟩:=I1.sound s1
  refine ⟨s0,v r2,?_,j2⟩
  rw [hv,hx.2.2.1 rfl] at j1
  exact j1
 ·obtain ⟨v1,ag1,s1,e1⟩:=I1.complete s j1
  obtain ⟨v2,ag2,s2,e2⟩:=I2.complete s1 (a:=a) (by rw [En.zd9 ag1 hb]; exact j2)
  obtain ⟨v3,ag3,s3,d3⟩:=A3.put W2 s2 (a := τ) ⟨fun h=>by simp at h,fun h=>by simp at h,fun h=>by simp at h,fun h=>by simp at h⟩
  obtain ⟨v4,ag4,s4,d4⟩:=A4.put W3 s3 (a:=.fn a τ) (by
   refine ⟨fun h=>by simp at h,fun h=>by simp at h,fun _ => ?_,fun h=>by simp at h⟩
   simp only [upd,if_true]
   rw [if_neg (by omega),if_neg (by omega),d3,ag3 r2 hr2,e2])
  have ag:Agree st.shs.length v v4:=((ag1.trans ag2 l1).trans ag3 (by omega)).trans ag4 (by omega)
  refine ⟨v4,ag,U.sat s4 ?_,by rw [ag4 _ (by omega),d3]⟩
  rw [d4,ag4 r1 (by omega),ag3 r1 (by omega),ag2 r1 hr1,e1]
theorem zug {run1 run2:Nat->SS->Option (Nat×SS)} {J1 J2:TEn->Ty->Prop} {e:En} {k1 k2:Nat} (h1:IGood run1 J1 e k1) (h2:IGood run2 J2 e k2) (c:Nat) (d:Ty) (hc:(c=0/\d = .int)\/(c=1/\d = .bool)) :
  IGood (fun n st=>(run1 n st).bind fun x=>(zcp n x.2 x.1 0).bind fun st1=>(run2 n st1).bind fun y=>(zcp n y.2 y.1 0).bind fun st2=>some (c,st2))
   (fun ρ τ => J1 ρ .int/\J2 ρ .int /\ τ = d) e (k1+k2):=fun st f W b hb hl=>by
 obtain ⟨n1,r1,st1,g1,I1⟩:=h1 st f W b hb (by omega)
 obtain ⟨f1,W1⟩:=I1.wf
 have l1:=I1.low
 have u1:=I1.high
 have bl:=b.len
 obtain ⟨n2,st2,g2,U2⟩:=zit W1 (a:=r1) (b:=0) I1.lt (by omega)
 obtain ⟨f2,W2⟩:=U2.wf
 have e2:=U2.len
 have b2:=U2.base I1.base
 obtain ⟨n3,r3,st3,g3,I3⟩:=h2 st2 f2 W2 b2 (hb.mono (by omega)) (by omega)
 obtain ⟨f3,W3⟩:=I3.wf
 have l3:=I3.low
 have u3:=I3.high
 obtain ⟨n4,st4,g4,U4⟩:=zit W3 (a:=r3) (b:=0) I3.lt (by omega)
 have b4:=U4.base I3.base
 have hd:∀ {v:Nat->Ty},st4.sat v->v c=d:=fun s=>by
  have:=b4.vals s
  rcases hc with ⟨rfl,rfl⟩ | ⟨rfl,rfl⟩
  ·exact this.1
  ·exact this.2
 refine ⟨max (max n1 n2) (max n3 n4),c,st4,fun n hn => ?_,⟨U4.wf,by rw [U4.len]; omega,by rw [U4.len]; omega,by rw [U4.len]; omega,b4,fun h=>I1.clash (U2.clash (I3.clash (U4.clash h))),fun cl h => ?_,fun {v} s => ?_,fun {v τ} s ⟨j1,j2,hτ⟩ => ?_⟩⟩
 ·show Option.bind _ _=_
  rw [g1 n (by omega)]
  simp only [zbS]
  rw [g2 n (by omega)]
  simp only [zbS]
  rw [g3 n (by omega)]
  simp only [zbS]
  rw [g4 n (by omega)]
  rfl
 ·have c3:=U4.clash h
  have c2:=I3.clash c3
  exact U4.closed ((I3.closed (U2.closed ((I1.closed cl (U2.clash c2)).more (by simp)) c2) c3).more (by simp)) h
 ·obtain ⟨s3,hv3⟩:=U4.sound s
  obtain ⟨s2,j2⟩:=I3.sound s3
  obtain ⟨s1,hv1⟩:=U2.sound s2
  obtain ⟨s0,j1⟩:=I1.sound s1
  have hi:=(b.vals s0).1
  rw [hv1,hi] at j1
  rw [hv3,hi] at j2
  exact ⟨s0,j1,j2,hd s⟩
 ·obtain ⟨v1,ag1,s1,e1⟩:=I1.complete s j1
  have s2:=U2.sat s1 (by rw [e1,(I1.base.vals s1).1])
  obtain ⟨v3,ag3,s3,e3⟩:=I3.complete s2 (a:=.int) (by rw [En.zd9 ag1 hb]; exact j2)
  have s4:=U4.sat s3 (by rw [e3,(I3.base.vals s3).1])
  exact ⟨v3,ag1.trans ag3 (by omega),s4,by rw [hd s4,hτ]⟩
theorem yai {run1 run2 run3:Nat->SS->Option (Nat×SS)} {J1 J2 J3:TEn->Ty->Prop} {e:En} {k1 k2 k3:Nat} (h1:IGood run1 J1 e k1) (h2:IGood run2 J2 e k2) (h3:IGood run3 J3 e k3) :
  IGood (fun n st=>(run1 n st).bind fun x=>(zcp n x.2 x.1 1).bind fun st1=>(run2 n st1).bind fun y=>(run3 n y.2).bind fun z=>(zcp n z.2 y.1 z.1).bind fun st2=>some (y.1,st2))
   (fun ρ τ => J1 ρ .bool/\J2 ρ τ /\ J3 ρ τ) e (k1+k2+k3):=fun st f W b hb hl=>by
 obtain ⟨n1,r1,st1,g1,I1⟩:=h1 st f W b hb (by omega)
 obtain ⟨f1,W1⟩:=I1.wf
 have l1:=I1.low
 have u1:=I1.high
 have bl:=b.len
 obtain ⟨n2,st2,g2,U2⟩:=zit W1 (a:=r1) (b:=1) I1.lt (by omega)
 obtain ⟨f2,W2⟩:=U2.wf
 have e2:=U2.len
 obtain ⟨n3,r3,st3,g3,I3⟩:=h2 st2 f2 W2 (U2.base I1.base) (hb.mono (by omega)) (by omega)
 obtain ⟨f3,W3⟩:=I3.wf
 have l3:=I3.low
 have u3:=I3.high
 have hr3:=I3.lt
 obtain ⟨n4,r4,st4,g4,I4⟩:=h3 st3 f3 W3 I3.base (hb.mono (by omega)) (by omega)
 obtain ⟨f4,W4⟩:=I4.wf
 have l4:=I4.low
 have u4:=I4.high
 obtain ⟨n5,st5,g5,U5⟩:=zit W4 (a:=r3) (b:=r4) (by omega) I4.lt
 refine ⟨max (max n1 n2) (max n3 (max n4 n5)),r3,st5,fun n hn => ?_,⟨U5.wf,by rw [U5.len]; omega,by rw [U5.len]; omega,by rw [U5.len]; omega,U5.base I4.base,fun h=>I1.clash (U2.clash (I3.clash (I4.clash (U5.clash h)))),fun cl h => ?_,fun {v} s => ?_,fun {v τ} s ⟨j1,j2,j3⟩ => ?_⟩⟩
 ·show Option.bind _ _=_
  rw [g1 n (by omega)]
  simp only [zbS]
  rw [g2 n (by omega)]
  simp only [zbS]
  rw [g3 n (by omega)]
  simp only [zbS]
  rw [g4 n (by omega)]
  simp only [zbS]
  rw [g5 n (by omega)]
  rfl
 ·have c4:=U5.clash h
  have c3:=I4.clash c4
  have c2:=I3.clash c3
  exact U5.closed ((I4.closed (I3.closed (U2.closed ((I1.closed cl (U2.clash c2)).more (by simp)) c2) c3) c4).more (by simp)) h
 ·obtain ⟨s4,hv4⟩:=U5.sound s
  obtain ⟨s3,j3⟩:=I4.sound s4
  obtain ⟨s2,j2⟩:=I3.sound s3
  obtain ⟨s1,hv1⟩:=U2.sound s2
  obtain ⟨s0,j1⟩:=I1.sound s1
  rw [hv1,(b.vals s0).2] at j1
  rw [<-hv4] at j3
  exact ⟨s0,j1,j2,j3⟩
 ·obtain ⟨v1,ag1,s1,e1⟩:=I1.complete s j1
  have s2:=U2.sat s1 (by rw [e1,(I1.base.vals s1).2])
  obtain ⟨v3,ag3,s3,e3⟩:=I3.complete s2 (a := τ) (by rw [En.zd9 ag1 hb]; exact j2)
  have ag13:Agree st.shs.length v v3:=ag1.trans ag3 (by omega)
  obtain ⟨v4,ag4,s4,e4⟩:=I4.complete s3 (a := τ) (by rw [En.zd9 ag13 hb]; exact j3)
  have e34:v4 r3 = τ := by rw [ag4 r3 hr3,e3]
  exact ⟨v4,ag13.trans ag4 (by omega),U5.sat s4 (by rw [e34,e4]),e34⟩
theorem yef {run:Nat->Nat->SS->Option (Nat×SS)} {J:TEn->Ty->Prop} {e:En} {bn:List UInt8} {k:Nat} (h:∀r,IGood (run r) J (.fix bn r e) k) :
  IGood (fun n st=>(addS 0 0 0 st).bind fun from_=>(run from_.1 n from_.2).bind fun to=>addS 3 from_.1 to.1 to.2) (fun ρ τ => ∃a c,J (.fix bn a ρ) c /\ τ = .fn a c) e (k+2):=fun st f W b hb hl=>by
 have bl:=b.len
 obtain ⟨st1,g1,A1⟩:=zih W (of:=0) (l:=0) (r:=0) (by omega) (by omega) (by omega) (fun _ _=>⟨rfl,rfl⟩) (by omega)
 obtain ⟨f1,W1⟩:=A1.wf
 have e1:=A1.len
 obtain ⟨n2,r2,st2,g2,I2⟩:=h st.shs.length st1 f1 W1 (A1.base b) ⟨by omega,hb.mono (by omega)⟩ (by omega)
 obtain ⟨f2,W2⟩:=I2.wf
 have l2:=I2.low
 have u2:=I2.high
 have hr2:=I2.lt
 obtain ⟨st3,g3,A3⟩:=zih W2 (of:=3) (l:=st.shs.length) (r:=r2) (by omega) (by omega) (by omega) (fun h=>absurd rfl h) (by omega)
 refine ⟨n2,st2.shs.length,st3,fun n hn => ?_,⟨A3.wf,by rw [A3.len]; omega,by rw [A3.len]; omega,by rw [A3.len]; omega,A3.base I2.base,fun h=>A1.clash.symm.trans (I2.clash (A3.clash.symm.trans h)),fun c h=>A3.closed (I2.closed (A1.closed c) (A3.clash.symm.trans h)),fun {v} s => ?_,fun {v τ} s ⟨a,c,j,hτ⟩ => ?_⟩⟩
 ·show Option.bind _ _=_
  rw [g1]
  simp only [zbS]
  rw [g2 n hn]
  exact g3
 ·obtain ⟨s2,hx⟩:=A3.sat.1 s
  obtain ⟨s1,j⟩:=I2.sound s2
  obtain ⟨s0,_⟩:=A1.sat.1 s1
  exact ⟨s0,v st.shs.length,v r2,j,hx.2.2.1 rfl⟩
 ·obtain ⟨v1,ag1,s1,d1⟩:=A1.put W s (a:=a) ⟨fun h=>by simp at h,fun h=>by simp at h,fun h=>by simp at h,fun h=>by simp at h⟩
  obtain ⟨v2,ag2,s2,d2⟩:=I2.complete s1 (a:=c) (by simp only [En.val]; rw [d1,En.zd9 ag1 hb]; exact j)
  obtain ⟨v3,ag3,s3,d3⟩:=A3.put W2 s2 (a := τ) (by
   refine ⟨fun h=>by simp at h,fun h=>by simp at h,fun _ => ?_,fun h=>by simp at h⟩
   simp only [upd,if_true]
   rw [if_neg (by omega),if_neg (by omega),ag2 _ (by omega),d1,d2,hτ])
  exact ⟨v3,(ag1.trans ag2 (by omega)).trans ag3 (by omega),s3,d3⟩
theorem zuh {run:Nat->Nat->SS->Option (Nat×SS)} {J:TEn->Ty->Prop} {e:En} {bn:List UInt8} {k:Nat} (h:∀r,IGood (run r) J (.fix bn r e) k) :
  IGood (fun n st=>(addS 0 0 0 st).bind fun own=>(run own.1 n own.2).bind fun x=>(zcp n x.2 own.1 x.1).bind fun st'=>some (own.1,st')) (fun ρ τ => J (.fix bn τ ρ) τ) e (k+1):=fun st f W b hb hl=>by
 have bl:=b.len
 obtain ⟨st1,g1,A1⟩:=zih W (of:=0) (l:=0) (r:=0) (by omega) (by omega) (by omega) (fun _ _=>⟨rfl,rfl⟩) (by omega)
 obtain ⟨f1,W1⟩:=A1.wf
 have e1:=A1.len
 obtain ⟨n2,r2,st2,g2,I2⟩:=h st.shs.length st1 f1 W1 (A1.base b) ⟨by omega,hb.mono (by omega)⟩ (by omega)
 obtain ⟨f2,W2⟩:=I2.wf
 have l2:=I2.low
 have u2:=I2.high
 obtain ⟨n3,st3,g3,U⟩:=zit W2 (a:=st.shs.length) (b:=r2) (by omega) I2.lt
 refine ⟨max n2 n3,st.shs.length,st3,fun n hn => ?_,⟨U.wf,by rw [U.len]; omega,by rw [U.len]; omega,by rw [U.len]; omega,U.base I2.base,fun h=>A1.clash.symm.trans (I2.clash (U.clash h)),fun c h=>U.closed ((I2.closed (A1.closed c) (U.clash h)).more (by simp)) h,fun {v} s => ?_,fun {v τ} s j => ?_⟩⟩
 ·show Option.bind _ _=_
  rw [g1]
  simp only [zbS]
  rw [g2 n (by omega)]
  simp only [zbS]
  rw [g3 n (by omega)]
  rfl
 ·obtain ⟨s2,hv⟩:=U.sound s
  obtain ⟨s1,j⟩:=I2.sound s2
  obtain ⟨s0,_⟩:=A1.sat.1 s1
  refine ⟨s0,?_⟩
  rw [<-hv] at j
  exact j
 ·obtain ⟨v1,ag1,s1,d1⟩:=A1.put W s (a := τ) ⟨fun h=>by simp at h,fun h=>by simp at h,fun h=>by simp at h,fun h=>by simp at h⟩
  obtain ⟨v2,ag2,s2,d2⟩:=I2.complete s1 (a := τ) (by simp only [En.val]; rw [d1,En.zd9 ag1 hb]; exact j)
  have d3:v2 st.shs.length = τ := by rw [ag2 _ (by omega),d1]
  exact ⟨v2,ag1.trans ag2 (by omega),U.sat s2 (by rw [d3,d2]),d3⟩
theorem yci {run1 run2:Nat->SS->Option (Nat×SS)} {J1 J2:TEn->Ty->Prop} {e:En} {bn:List UInt8} {t:T} {k1 k2:Nat} (h1:IGood run1 J1 e k1) (h2:IGood run2 J2 (.dfn bn t e) k2) :
  IGood (fun n st=>(run1 n st).bind fun x=>run2 n x.2) (fun ρ τ => (∃a,J1 ρ a)/\J2 (.dfn bn t ρ) τ) e (k1+k2):=fun st f W b hb hl=>by
 obtain ⟨n1,r1,st1,g1,I1⟩:=h1 st f W b hb (by omega)
 obtain ⟨f1,W1⟩:=I1.wf
 have l1:=I1.low
 have u1:=I1.high
 obtain ⟨n2,r2,st2,g2,I2⟩:=h2 st1 f1 W1 I1.base (show e.upto st1.shs.length from hb.mono l1) (by omega)
 have l2:=I2.low
 have u2:=I2.high
 refine ⟨max n1 n2,r2,st2,fun n hn => ?_,⟨I2.wf,I2.lt,by omega,by omega,I2.base,fun h=>I1.clash (I2.clash h),fun c h=>I2.closed (I1.closed c (I2.clash h)) h,fun {v} s => ?_,fun {v τ} s ⟨⟨a,ja⟩,j⟩ => ?_⟩⟩
 ·show Option.bind _ _=_
  rw [g1 n (by omega)]
  exact g2 n (by omega)
 ·obtain ⟨s1,j2⟩:=I2.sound s
  obtain ⟨s0,j1⟩:=I1.sound s1
  exact ⟨s0,⟨_,j1⟩,j2⟩
 ·obtain ⟨v1,ag1,s1,e1⟩:=I1.complete s ja
  obtain ⟨v2,ag2,s2,e2⟩:=I2.complete s1 (a := τ) (by simp only [En.val]; rw [En.zd9 ag1 hb]; exact j)
  exact ⟨v2,ag1.trans ag2 l1,s2,e2⟩
theorem yaj (sec:Bool) (e:En) :
  IGood (fun _ st=>(addS 0 0 0 st).bind fun a=>(addS 0 0 0 a.2).bind fun b=>(addS 4 a.1 b.1 b.2).bind fun p=>addS 3 p.1 (if sec then b.1 else a.1) p.2) (fun _ τ => ∃a c,τ = .fn (.pair a c) (if sec then c else a)) e 4:=fun st f W b hb hl=>by
 have bl:=b.len
 obtain ⟨st1,g1,A1⟩:=zih W (of:=0) (l:=0) (r:=0) (by omega) (by omega) (by omega) (fun _ _=>⟨rfl,rfl⟩) (by omega)
 obtain ⟨f1,W1⟩:=A1.wf
 have e1:=A1.len
 obtain ⟨st2,g2,A2⟩:=zih W1 (of:=0) (l:=0) (r:=0) (by omega) (by omega) (by omega) (fun _ _=>⟨rfl,rfl⟩) (by omega)
 obtain ⟨f2,W2⟩:=A2.wf
 have e2:=A2.len
 obtain ⟨st3,g3,A3⟩:=zih W2 (of:=4) (l:=st.shs.length) (r:=st1.shs.length) (by omega) (by omega) (by omega) (fun _ h=>absurd rfl h) (by omega)
 obtain ⟨f3,W3⟩:=A3.wf
 have e3:=A3.len
 have hsec:(if sec then st1.shs.length else st.shs.length)<st3.shs.length:=by split <;> omega
 obtain ⟨st4,g4,A4⟩:=zih W3 (of:=3) (l:=st2.shs.length) (r:=if sec then st1.shs.length else st.shs.length) (by omega) (by omega) (by omega) (fun h=>absurd rfl h) (by omega)
 refine ⟨0,st3.shs.length,st4,fun n _ => ?_,⟨A4.wf,by rw [A4.len]; omega,by rw [A4.len]; omega,by rw [A4.len]; omega,A4.base (A3.base (A2.base (A1.base b))),fun h=>A1.clash.symm.trans (A2.clash.symm.trans (A3.clash.symm.trans (A4.clash.symm.trans h))),fun c _=>A4.closed (A3.closed (A2.closed (A1.closed c))),fun {v} s => ?_,fun {v τ} s ⟨a,c,hτ⟩ => ?_⟩⟩
 ·show Option.bind _ _=_
  rw [g1]
  simp only [zbS]
  rw [g2]
  simp only [zbS]
  rw [g3]
  exact g4
 ·obtain ⟨s3,h4⟩:=A4.sat.1 s
  obtain ⟨s2,h3⟩:=A3.sat.1 s3
  obtain ⟨s1,_⟩:=A2.sat.1 s2
  obtain ⟨s0,_⟩:=A1.sat.1 s1
  refine ⟨s0,v st.shs.length,v st1.shs.length,?_⟩
  rw [h4.2.2.1 rfl]
  simp only
  rw [h3.2.2.2 rfl]
  cases sec <;> rfl
 ·have none4:∀(w:Nat->Ty) (q:Nat),Sh.says ⟨0,0,0,q⟩ w q:=fun w q=>⟨fun h=>by simp at h,fun h=>by simp at h,fun h=>by simp at h,fun h=>by simp at h⟩
  obtain ⟨v1,ag1,s1,d1⟩:=A1.put W s (a:=a) (none4 _ _)
  obtain ⟨v2,ag2,s2,d2⟩:=A2.put W1 s1 (a:=c) (none4 _ _)
  obtain ⟨v3,ag3,s3,d3⟩:=A3.put W2 s2 (a:=.pair a c) (by
   refine ⟨fun h=>by simp at h,fun h=>by simp at h,fun h=>by simp at h,fun _ => ?_⟩
   simp only [upd,if_true]
   rw [if_neg (by omega),if_neg (by omega),ag2 _ (by omega),d1,d2])
  obtain ⟨v4,ag4,s4,d4⟩:=A4.put W3 s3 (a := τ) (by
   refine ⟨fun h=>by simp at h,fun h=>by simp at h,fun _ => ?_,fun h=>by simp at h⟩
   simp only [upd,if_true]
   rw [if_neg (by omega),if_neg (by omega),d3,hτ]
   cases sec with
   | true=>simp only [if_true]; rw [ag3 _ (by omega),d2]
   | false=>simp only [Bool.false_eq_true,if_false]; rw [ag3 _ (by omega),ag2 _ (by omega),d1])
  exact ⟨v4,((ag1.trans ag2 (by omega)).trans ag3 (by omega)).trans ag4 (by omega),s4,d4⟩
open Go
def T.recs:T->Nat
 | .name .. => 0
 | .int .. => 0
 | .truth .. => 0
 | .side .. => 0
 | .bracket _ _ i=>i.recs
 | .pair _ _ l r=>l.recs+r.recs
 | .call _ _ l r=>l.recs+r.recs
 | .binary _ _ _ l r=>l.recs+r.recs
 | .cond _ _ c t f=>c.recs+t.recs+f.recs
 | .fn _ _ _ _ b=>b.recs
 | .lett _ _ rc _ _ d b=>(if rc then 1 else 0)+d.recs+b.recs
def EGood (e:En) (we:WEn) (B:Nat):Prop:=∀(x:List UInt8) (k:Nat),we.look x=some k->1<=k /\
 ((∃r,e.look x=some (.inl r))\/∃t o,e.look x=some (.inr (t,o))/\(k<=2000->IGood (fun n st=>defS n t o st) (DTyp t) o (B * k)))
theorem EGood.fix {e:En} {we:WEn} {B:Nat} (h:EGood e we B) (bn:List UInt8) (r:Nat):EGood (.fix bn r e) (.cons bn 1 we) B:=by
 intro x k hk
 simp only [WEn.look] at hk
 simp only [En.look]
 split at hk
 ·rename_i hx
  cases hk
  exact ⟨znL _,.inl ⟨r,by rw [if_pos hx]⟩⟩
 ·rename_i hx
  simp only [if_neg hx]
  exact h x k hk
theorem EGood.dfn {e:En} {we:WEn} {B B':Nat} (h:EGood e we B) (hB:B<=B') (bn:List UInt8) (t:T) {k:Nat} (h1:1<=k) (hk:k<=2000->IGood (fun n st=>defS n t e st) (DTyp t) e (B' * k)):EGood (.dfn bn t e) (.cons bn k we) B':=by
 intro x k' hk'
 simp only [WEn.look] at hk'
 simp only [En.look]
 split at hk'
 ·rename_i hx
  cases hk'
  exact ⟨h1,.inr ⟨t,e,by rw [if_pos hx],hk⟩⟩
 ·rename_i hx
  simp only [if_neg hx]
  obtain ⟨a,b⟩:=h x k' hk'
  refine ⟨a,b.imp id ?_⟩
  rintro ⟨t',o,g1,g2⟩
  exact ⟨t',o,g1,fun g3=>(g2 g3).mono (Nat.mul_le_mul_right _ hB)⟩
theorem zui {e:En} {t:T} {o:En} {x:List UInt8} {fr to:Nat} (hl:e.look x=some (.inr (t,o))) {k:Nat} (h:IGood (fun n st=>defS n t o st) (DTyp t) o k):IGood (fun n st=>zav n (.name fr to x) e st) (Typ (.name fr to x)) e k:=fun st f W b hb hlen=>by
 obtain ⟨n0,r,st',h1,h2⟩:=h st f W b ((hb.look (x:=x)).2 t o hl) hlen
 have hv:∀v:Nat->Ty,(e.val v).look x=some (.inr (t,o.val v)):=fun v=>by rw [En.zmy,hl]; rfl
 refine ⟨n0+1,r,st',fun n hn => ?_,{h2 with sound:=fun {v} s=>⟨(h2.sound s).1,.use (hv v) (h2.sound s).2⟩,complete:=fun {v a} s j=>h2.complete s ?_}⟩
 ·obtain ⟨m,rfl⟩:∃m,n=m+1:=⟨n-1,by omega⟩
  show zav (m+1) _ _ _=_
  rw [zav,hl]
  exact h1 m (by omega)
 ·cases j with
  | name h=>rw [hv] at h; cases h
  | use h hd=>rw [hv] at h; cases h; exact hd
theorem zw1 {e:En} {x:List UInt8} {fr to r:Nat} (hl:e.look x=some (.inl r)):IGood (fun n st=>zav n (.name fr to x) e st) (Typ (.name fr to x)) e 0:=fun st f W b hb hlen=>by
 have hv:∀v:Nat->Ty,(e.val v).look x=some (.inl (v r)):=fun v=>by rw [En.zmy,hl]; rfl
 refine ⟨1,r,st,fun n hn => ?_,⟨⟨f,W⟩,(hb.look (x:=x)).1 r hl,znL _,znL _,b,id,fun h _=>h,fun {v} s=>⟨s,.name (hv v)⟩,fun {v a} s j=>⟨v,fun _ _=>rfl,s,?_⟩⟩⟩
 ·obtain ⟨m,rfl⟩:∃m,n=m+1:=⟨n-1,by omega⟩
  show zav (m+1) _ _ _=_
  rw [zav,hl]
 ·cases j with
  | name h=>rw [hv] at h; cases h; rfl
  | use h hd=>rw [hv] at h; cases h
theorem mul3 {A a b c:Nat} (h:1<=A):A * a+A * b+c<=A * (c+a+b):=by
 rw [Nat.mul_add,Nat.mul_add]
 have:c<=A * c:=Nat.le_mul_of_pos_left c h
 omega
theorem zby:∀(t:T) (e:En) (we:WEn) (w B:Nat),zaj t we=some w->w<=2000->EGood e we B->4<=B->1<=w/\IGood (fun n st=>zav n t e st) (Typ t) e ((B+t.recs) * w)
 | .name fr to x,e,we,w,B,hw,hl,hE,hB=>by
  simp only [zaj,zbE,zsI] at hw
  obtain ⟨k,hk,rfl⟩:=hw
  have hkk:min k 2001=k:=by omega
  rw [hkk] at hl ⊢
  obtain ⟨h1,⟨r,hr⟩ | ⟨t,o,ht,hg⟩⟩:=hE x k hk
  ·exact ⟨h1,(zw1 hr).mono (by omega)⟩
  ·exact ⟨h1,(zui ht (hg hl)).mono (by simp [T.recs])⟩
 | .int fr to v,e,we,w,B,hw,hl,hE,hB=>by
  simp only [zaj,zsI] at hw
  subst hw
  exact ⟨znL _,(((zp9 0 .int (.inl ⟨rfl,rfl⟩) e).iff (J':=Typ (.int fr to v)) (fun ρ a=>⟨fun h=>by subst h; exact .int,fun h=>by cases h; rfl⟩)).shift (fun _ _=>rfl)).mono (by omega)⟩
 | .truth fr to v,e,we,w,B,hw,hl,hE,hB=>by
  simp only [zaj,zsI] at hw
  subst hw
  exact ⟨znL _,(((zp9 1 .bool (.inr ⟨rfl,rfl⟩) e).iff (J':=Typ (.truth fr to v)) (fun ρ a=>⟨fun h=>by subst h; exact .truth,fun h=>by cases h; rfl⟩)).shift (fun _ _=>rfl)).mono (by omega)⟩
 | .side fr to sec,e,we,w,B,hw,hl,hE,hB=>by
  simp only [zaj,zsI] at hw
  subst hw
  exact ⟨znL _,(((yaj sec e).iff (J':=Typ (.side fr to sec)) (fun ρ a=>⟨fun ⟨_,_,h⟩=>by subst h; exact .side,fun h=>by cases h; exact ⟨_,_,rfl⟩⟩)).shift (fun _ _=>rfl)).mono (by omega)⟩
 | .bracket fr to i,e,we,w,B,hw,hl,hE,hB=>by
  simp only [zaj,zbE,zsI] at hw
  obtain ⟨k,hk,rfl⟩:=hw
  obtain ⟨h1,h2⟩:=zby i e we k B hk (by omega) hE hB
  have hm:min (1+k) 2001=1+k:=by omega
  rw [hm]
  refine ⟨by omega,((h2.iff (J':=Typ (.bracket fr to i)) (fun ρ a=>⟨.bracket,fun h=>by cases h; assumption⟩)).shift (fun _ _=>rfl)).mono (Nat.mul_le_mul (by simp [T.recs]) (by omega))⟩
 | .pair fr to l r,e,we,w,B,hw,hl,hE,hB=>by
  simp only [zaj,zbE,zsI] at hw
  obtain ⟨k1,hk1,k2,hk2,rfl⟩:=hw
  obtain ⟨a1,a2⟩:=zby l e we k1 B hk1 (by omega) hE hB
  obtain ⟨b1,b2⟩:=zby r e we k2 B hk2 (by omega) hE hB
  have hm:min (1+k1+k2) 2001=1+k1+k2:=by omega
  rw [hm]
  have c1:IGood _ _ e ((B+(T.pair fr to l r).recs) * k1):=a2.mono (Nat.mul_le_mul_right _ (by simp only [T.recs]; omega))
  have c2:IGood _ _ e ((B+(T.pair fr to l r).recs) * k2):=b2.mono (Nat.mul_le_mul_right _ (by simp only [T.recs]; omega))
  refine ⟨by omega,(((yag c1 c2).iff (J':=Typ (.pair fr to l r)) (fun ρ a=>⟨fun ⟨_,_,h1,h2,h3⟩=>by subst h3; exact .pair h1 h2,fun h=>by cases h with | pair h1 h2=>exact ⟨_,_,h1,h2,rfl⟩⟩)).shift (fun _ _=>by rw [zav])).mono (mul3 (by omega))⟩
 | .call fr to l r,e,we,w,B,hw,hl,hE,hB=>by
  simp only [zaj,zbE,zsI] at hw
  obtain ⟨k1,hk1,k2,hk2,rfl⟩:=hw
  obtain ⟨a1,a2⟩:=zby l e we k1 B hk1 (by omega) hE hB
  obtain ⟨b1,b2⟩:=zby r e we k2 B hk2 (by omega) hE hB
  have hm:min (1+k1+k2) 2001=1+k1+k2:=by omega
  rw [hm]
  have c1:IGood _ _ e ((B+(T.call fr to l r).recs) * k1):=a2.mono (Nat.mul_le_mul_right _ (by simp only [T.recs]; omega))
  have c2:IGood _ _ e ((B+(T.call fr to l r).recs) * k2):=b2.mono (Nat.mul_le_mul_right _ (by simp only [T.recs]; omega))
  refine ⟨by omega,(((yah c1 c2).iff (J':=Typ (.call fr to l r)) (fun ρ a=>⟨fun ⟨_,h1,h2⟩=>.call h1 h2,fun h=>by cases h with | call h1 h2=>exact ⟨_,h1,h2⟩⟩)).shift (fun _ _=>by rw [zav])).mono ?_⟩
  have:(B+(T.call fr to l r).recs) * (1+k1+k2)=(B+(T.call fr to l r).recs) * 1+(B+(T.call fr to l r).recs) * k1+(B+(T.call fr to l r).recs) * k2:=by rw [Nat.mul_add,Nat.mul_add]
  omega
 | .binary fr to sg l r,e,we,w,B,hw,hl,hE,hB=>by
  simp only [zaj,zbE,zsI] at hw
  obtain ⟨k1,hk1,k2,hk2,rfl⟩:=hw
  obtain ⟨a1,a2⟩:=zby l e we k1 B hk1 (by omega) hE hB
  obtain ⟨b1,b2⟩:=zby r e we k2 B hk2 (by omega) hE hB
  have hm:min (1+k1+k2) 2001=1+k1+k2:=by omega
  rw [hm]
  have c1:IGood _ _ e ((B+(T.binary fr to sg l r).recs) * k1):=a2.mono (Nat.mul_le_mul_right _ (by simp only [T.recs]; omega))
  have c2:IGood _ _ e ((B+(T.binary fr to sg l r).recs) * k2):=b2.mono (Nat.mul_le_mul_right _ (by simp only [T.recs]; omega))
  have hc:((if sg=23\/sg=15 then 1 else 0)=0/\(if sg=23\/sg=15 then Ty.bool else .int) = .int)\/((if sg=23\/sg=15 then 1 else 0)=1/\(if sg=23\/sg=15 then Ty.bool else .int) = .bool):=by
   by_cases h:sg=23\/sg=15
   ·simp [h]
   ·simp [h]
  refine ⟨by omega,(((zug c1 c2 _ _ hc).iff (J':=Typ (.binary fr to sg l r)) (fun ρ a=>⟨fun ⟨h1,h2,h3⟩=>by subst h3; exact .binary h1 h2,fun h=>by cases h with | binary h1 h2=>exact ⟨h1,h2,rfl⟩⟩)).shift (fun _ _=>by rw [zav])).mono ?_⟩
  have:=mul3 (A:=B+(T.binary fr to sg l r).recs) (a:=k1) (b:=k2) (c:=1) (by omega)
  omega
 | .cond fr to c t f,e,we,w,B,hw,hl,hE,hB=>by
  simp only [zaj,zbE,zsI] at hw
  obtain ⟨k1,hk1,k2,hk2,k3,hk3,rfl⟩:=hw
  obtain ⟨a1,a2⟩:=zby c e we k1 B hk1 (by omega) hE hB
  obtain ⟨b1,b2⟩:=zby t e we k2 B hk2 (by omega) hE hB
  obtain ⟨d1,d2⟩:=zby f e we k3 B hk3 (by omega) hE hB
  have hm:min (1+k1+k2+k3) 2001=1+k1+k2+k3:=by omega
  rw [hm]
  have c1:IGood _ _ e ((B+(T.cond fr to c t f).recs) * k1):=a2.mono (Nat.mul_le_mul_right _ (by simp only [T.recs]; omega))
  have c2:IGood _ _ e ((B+(T.cond fr to c t f).recs) * k2):=b2.mono (Nat.mul_le_mul_right _ (by simp only [T.recs]; omega))
  have c3:IGood _ _ e ((B+(T.cond fr to c t f).recs) * k3):=d2.mono (Nat.mul_le_mul_right _ (by simp [T.recs]))
  refine ⟨by omega,(((yai c1 c2 c3).iff (J':=Typ (.cond fr to c t f)) (fun ρ a=>⟨fun ⟨h1,h2,h3⟩=>.cond h1 h2 h3,fun h=>by cases h with | cond h1 h2 h3=>exact ⟨h1,h2,h3⟩⟩)).shift (fun _ _=>by rw [zav])).mono ?_⟩
  have:(B+(T.cond fr to c t f).recs) * (1+k1+k2+k3)=(B+(T.cond fr to c t f).recs) * 1+(B+(T.cond fr to c t f).recs) * k1+(B+(T.cond fr to c t f).recs) * k2+(B+(T.cond fr to c t f).recs) * k3:=by rw [Nat.mul_add,Nat.mul_add,Nat.mul_add]
  omega
 | .fn fr to bn bat b,e,we,w,B,hw,hl,hE,hB=>by
  simp only [zaj,zbE,zsI] at hw
  obtain ⟨k,hk,rfl⟩:=hw
  have hm:min (1+k) 2001=1+k:=by omega
  rw [hm]
  have h2:∀r,IGood (fun n st=>zav n b (.fix bn r e) st) (Typ b) (.fix bn r e) ((B+(T.fn fr to bn bat b).recs) * k):=fun r=>(zby b (.fix bn r e) (.cons bn 1 we) k B hk (by omega) (hE.fix bn r) hB).2
  refine ⟨by omega,(((yef h2).iff (J':=Typ (.fn fr to bn bat b)) (fun ρ a=>⟨fun ⟨_,_,h,h3⟩=>by subst h3; exact .fn h,fun h=>by cases h with | fn h=>exact ⟨_,_,h,rfl⟩⟩)).shift (fun _ _=>by rw [zav])).mono ?_⟩
  have:(B+(T.fn fr to bn bat b).recs) * (1+k)=(B+(T.fn fr to bn bat b).recs) * 1+(B+(T.fn fr to bn bat b).recs) * k:=by rw [Nat.mul_add]
  omega
 | .lett fr to rc bn bat d b,e,we,w,B,hw,hl,hE,hB=>by
  simp only [zaj,zbE,zsI] at hw
  obtain ⟨k1,hk1,k2,hk2,rfl⟩:=hw
  have hm:min (1+(k1+k2)) 2001=1+(k1+k2):=by omega
  rw [hm]
  have h1:1<=k1/\IGood (fun n st=>defS n (.lett fr to rc bn bat d b) e st) (DTyp (.lett fr to rc bn bat d b)) e ((B+(if rc then 1 else 0)+d.recs) * k1):=by
   cases rc with
   | false =>
    obtain ⟨a1,a2⟩:=zby d e we k1 B hk1 (by omega) hE hB
    exact ⟨a1,((a2.iff (J':=DTyp (.lett fr to false bn bat d b)) (fun ρ a=>⟨.plain,fun h=>by cases h; assumption⟩)).shift (fun _ _=>by rw [defS])).mono (by simp)⟩
   | true =>
    have a2:∀r,1<=k1/\IGood (fun n st=>zav n d (.fix bn r e) st) (Typ d) (.fix bn r e) ((B+d.recs) * k1):=fun r=>zby d (.fix bn r e) (.cons bn 1 we) k1 B hk1 (by omega) (hE.fix bn r) hB
    refine ⟨(a2 0).1,(((zuh (fun r=>(a2 r).2)).iff (J':=DTyp (.lett fr to true bn bat d b)) (fun ρ a=>⟨.recu,fun h=>by cases h; assumption⟩)).shift (fun _ _=>by rw [defS])).mono ?_⟩
    have:=(a2 0).1
    have:(B+1+d.recs) * k1=(B+d.recs) * k1+k1:=by rw [show B+1+d.recs=B+d.recs+1 by omega,Nat.add_mul,Nat.one_mul]
    simp only [if_true]
    omega
  obtain ⟨p1,p2⟩:=h1
  have hE2:EGood (.dfn bn (.lett fr to rc bn bat d b) e) (.cons bn k1 we) (B+(if rc then 1 else 0)+d.recs):=hE.dfn (by omega) bn _ p1 (fun _=>p2)
  obtain ⟨q1,q2⟩:=zby b (.dfn bn (.lett fr to rc bn bat d b) e) (.cons bn k1 we) k2 (B+(if rc then 1 else 0)+d.recs) hk2 (by omega) hE2 (by omega)
  refine ⟨by omega,(((yci p2 q2).iff (J':=Typ (.lett fr to rc bn bat d b)) (fun ρ a=>⟨fun ⟨⟨_,h1⟩,h2⟩=>.lett h1 h2,fun h=>by cases h with | lett h1 h2=>exact ⟨⟨_,h1⟩,h2⟩⟩)).shift (fun _ _=>by rw [zav])).mono ?_⟩
  have e1:(B+(if rc then 1 else 0)+d.recs) * k1<=(B+(T.lett fr to rc bn bat d b).recs) * k1:=Nat.mul_le_mul_right _ (by simp [T.recs]; omega)
  have e2:(B+(if rc then 1 else 0)+d.recs+b.recs) * k2=(B+(T.lett fr to rc bn bat d b).recs) * k2:=by simp [T.recs,Nat.add_assoc]
  have e3:(B+(T.lett fr to rc bn bat d b).recs) * (1+(k1+k2))=(B+(T.lett fr to rc bn bat d b).recs) * 1+((B+(T.lett fr to rc bn bat d b).recs) * k1+(B+(T.lett fr to rc bn bat d b).recs) * k2):=by rw [Nat.mul_add,Nat.mul_add]
  omega
theorem zbu:∀(t:T) (we:WEn) (w:Nat),zaj t we=some w->w<=2000->t.recs<=w
 | .name ..,_,_,_,_=>by simp [T.recs]
 | .int ..,_,_,_,_=>by simp [T.recs]
 | .truth ..,_,_,_,_=>by simp [T.recs]
 | .side ..,_,_,_,_=>by simp [T.recs]
 | .bracket _ _ i,we,w,h,hl=>by
  simp only [zaj,zbE,zsI] at h
  obtain ⟨k,hk,rfl⟩:=h
  have:=zbu i we k hk (by omega)
  simp only [T.recs]; omega
 | .pair _ _ l r,we,w,h,hl=>by
  simp only [zaj,zbE,zsI] at h
  obtain ⟨k1,hk1,k2,hk2,rfl⟩:=h
  have:=zbu l we k1 hk1 (by omega)
  have:=zbu r we k2 hk2 (by omega)
  simp only [T.recs]; omega
 | .call _ _ l r,we,w,h,hl=>by
  simp only [zaj,zbE,zsI] at h
  obtain ⟨k1,hk1,k2,hk2,rfl⟩:=h
  have:=zbu l we k1 hk1 (by omega)
  have:=zbu r we k2 hk2 (by omega)
  simp only [T.recs]; omega
 | .binary _ _ _ l r,we,w,h,hl=>by
  simp only [zaj,zbE,zsI] at h
  obtain ⟨k1,hk1,k2,hk2,rfl⟩:=h
  have:=zbu l we k1 hk1 (by omega)
  have:=zbu r we k2 hk2 (by omega)
  simp only [T.recs]; omega
 | .cond _ _ c t f,we,w,h,hl=>by
  simp only [zaj,zbE,zsI] at h
  obtain ⟨k1,hk1,k2,hk2,k3,hk3,rfl⟩:=h
  have:=zbu c we k1 hk1 (by omega)
  have:=zbu t we k2 hk2 (by omega)
  have:=zbu f we k3 hk3 (by omega)
  simp only [T.recs]; omega
 | .fn _ _ bn _ b,we,w,h,hl=>by
  simp only [zaj,zbE,zsI] at h
  obtain ⟨k,hk,rfl⟩:=h
  have:=zbu b _ k hk (by omega)
  simp only [T.recs]; omega
 | .lett _ _ rc bn _ d b,we,w,h,hl=>by
  simp only [zaj,zbE,zsI] at h
  obtain ⟨k1,hk1,k2,hk2,rfl⟩:=h
  have:=zbu d _ k1 hk1 (by omega)
  have:=zbu b _ k2 hk2 (by omega)
  simp only [T.recs]
  split <;> omega
def ss2:SS:=⟨[⟨1,0,0,0⟩,⟨2,0,0,1⟩],false⟩
theorem zl6 {r:Nat} {x:Sh} (h:ss2.shs[r]? = some x):(r=0/\x=⟨1,0,0,0⟩)\/(r=1/\x=⟨2,0,0,1⟩):=by
 match r,h with
 | 0,h=>simp [ss2] at h; exact .inl ⟨rfl,h.symm⟩
 | 1,h=>simp [ss2] at h; exact .inr ⟨rfl,h.symm⟩
 | r+2,h=>simp [ss2] at h
theorem zuj {r p:Nat} (h:RootOf ss2 r p):r=p:=by
 cases h with
 | here=>rfl
 | step h hs=>rcases zl6 h with ⟨rfl,rfl⟩ | ⟨rfl,rfl⟩ <;> exact absurd rfl hs
theorem yfh:ss2.Wf (fun _=>0):=by
 refine ⟨fun r x h hs => ?_,fun r x h => ?_,fun r x h => ?_,fun r x h _ _ => ?_,fun r p x y h1 h2 h3 _ => ?_⟩
 ·rcases zl6 h with ⟨rfl,rfl⟩ | ⟨rfl,rfl⟩ <;> exact absurd rfl hs
 ·rcases zl6 h with ⟨rfl,rfl⟩ | ⟨rfl,rfl⟩ <;> simp [ss2]
 ·rcases zl6 h with ⟨rfl,rfl⟩ | ⟨rfl,rfl⟩ <;> simp
 ·rcases zl6 h with ⟨rfl,rfl⟩ | ⟨rfl,rfl⟩ <;> simp
 ·have:=zuj h2
  subst this
  rw [h1] at h3
  cases h3
  rfl
theorem ycj:ss2.base:=⟨⟨_,rfl,rfl⟩,_,rfl,rfl⟩
theorem yeg:ss2.sat (fun r=>if r=0 then .int else .bool):=by
 refine ⟨rfl,fun r p h=>by rw [zuj h],fun r x h => ?_⟩
 rcases zl6 h with ⟨rfl,rfl⟩ | ⟨rfl,rfl⟩ <;> exact ⟨fun h=>by simp at h ⊢,fun h=>by simp at h ⊢,fun h=>by simp at h,fun h=>by simp at h⟩
theorem zw2:ss2.Closed []:=by
 intro R _ _ _ r p x y h1 _ _ hs
 rcases zl6 h1 with ⟨rfl,rfl⟩ | ⟨rfl,rfl⟩ <;> simp at hs
theorem zw3 {t:T} {w:Nat} (hw:zaj t .nil=some w) (hl:w<=2000):∃n0 r st,(∀n,n0<=n->zav n t .nil ss2=some (r,st))/\(∃f,st.Wf f)/\r<st.shs.length/\(st.clash=false->st.Closed []) /\
  (∀ {v:Nat->Ty},st.sat v->Typ t .nil (v r))/\(∀ {a:Ty},Typ t .nil a->∃v,st.sat v/\v r=a)/\st.shs.length<=10000000:=by
 have hr:=zbu t .nil w hw hl
 obtain ⟨_,h⟩:=zby t .nil .nil w 4 hw hl (fun x k hk=>by simp [WEn.look] at hk) (by omega)
 have hb:(4+t.recs) * w<=2004 * 2000:=Nat.mul_le_mul (by omega) hl
 obtain ⟨n0,r,st,h1,h2⟩:=h ss2 _ yfh ycj trivial (by simp [ss2]; omega)
 refine ⟨n0,r,st,h1,h2.wf,h2.lt,fun hc=>h2.closed zw2 hc,fun s=>(h2.sound s).2,fun {a} j => ?_,by have:=h2.high; simp [ss2] at this; omega⟩
 obtain ⟨v,_,s,e⟩:=h2.complete yeg (a:=a) j
 exact ⟨v,s,e⟩
open Go
inductive FinT (st:SS):Nat->Ty->Prop
 | var {r p:Nat} {x:Sh} (hr:RootOf st r p) (hx:st.shs[p]? = some x) (hs:x.sort=0):FinT st r (.var p)
 | int {r p:Nat} {x:Sh} (hr:RootOf st r p) (hx:st.shs[p]? = some x) (hs:x.sort=1):FinT st r .int
 | bool {r p:Nat} {x:Sh} (hr:RootOf st r p) (hx:st.shs[p]? = some x) (hs:x.sort=2):FinT st r .bool
 | fn {r p:Nat} {x:Sh} {a b:Ty} (hr:RootOf st r p) (hx:st.shs[p]? = some x) (hs:x.sort=3) (ha:FinT st x.left a) (hb:FinT st x.right b):FinT st r (.fn a b)
 | pair {r p:Nat} {x:Sh} {a b:Ty} (hr:RootOf st r p) (hx:st.shs[p]? = some x) (hs:x.sort=4) (ha:FinT st x.left a) (hb:FinT st x.right b):FinT st r (.pair a b)
theorem FinT.move {st:SS} {r q:Nat} {a:Ty} (h:FinT st r a) (k:st.eqv r q):FinT st q a:=by
 obtain ⟨p,h1,h2⟩:=k
 cases h with
 | var hr hx hs=>rw [hr.unique h1] at hx ⊢; exact .var h2 hx hs
 | int hr hx hs=>rw [hr.unique h1] at hx; exact .int h2 hx hs
 | bool hr hx hs=>rw [hr.unique h1] at hx; exact .bool h2 hx hs
 | fn hr hx hs ha hb=>rw [hr.unique h1] at hx; exact .fn h2 hx hs ha hb
 | pair hr hx hs ha hb=>rw [hr.unique h1] at hx; exact .pair h2 hx hs ha hb
theorem FinT.sim {st st':SS} (S:st.Sim st') {r:Nat} {a:Ty} (h:FinT st r a):FinT st' r a:=by
 induction h with
 | var hr hx hs=>obtain ⟨y,hy,e1,_⟩:=S.shape _ _ hx; exact .var ((S.root _ _).1 hr) hy (e1.trans hs)
 | int hr hx hs=>obtain ⟨y,hy,e1,_⟩:=S.shape _ _ hx; exact .int ((S.root _ _).1 hr) hy (e1.trans hs)
 | bool hr hx hs=>obtain ⟨y,hy,e1,_⟩:=S.shape _ _ hx; exact .bool ((S.root _ _).1 hr) hy (e1.trans hs)
 | fn hr hx hs _ _ ha hb=>obtain ⟨y,hy,e1,e2,e3⟩:=S.shape _ _ hx; exact .fn ((S.root _ _).1 hr) hy (e1.trans hs) (by rw [e2]; exact ha) (by rw [e3]; exact hb)
 | pair hr hx hs _ _ ha hb=>obtain ⟨y,hy,e1,e2,e3⟩:=S.shape _ _ hx; exact .pair ((S.root _ _).1 hr) hy (e1.trans hs) (by rw [e2]; exact ha) (by rw [e3]; exact hb)
theorem SS.Sim.symm {a b:SS} (h:a.Sim b):b.Sim a:=⟨h.len.symm,h.clash.symm,fun r y hy=>by
 obtain ⟨x,hx,e1,e2,e3⟩:=h.back hy
 exact ⟨x,hx,e1.symm,e2.symm,e3.symm⟩,fun r p=>(h.root r p).symm⟩
theorem FinT.unique {st:SS} {r:Nat} {a b:Ty} (h:FinT st r a) (k:FinT st r b):a=b:=by
 induction h generalizing b with
 | var hr hx hs=>cases k with
  | var hr' hx' hs'=>rw [hr.unique hr']
  | int hr' hx' hs'=>rw [hr.unique hr',hx'] at hx; cases hx; omega
  | bool hr' hx' hs'=>rw [hr.unique hr',hx'] at hx; cases hx; omega
  | fn hr' hx' hs'=>rw [hr.unique hr',hx'] at hx; cases hx; omega
  | pair hr' hx' hs'=>rw [hr.unique hr',hx'] at hx; cases hx; omega
 | int hr hx hs=>cases k with
  | var hr' hx' hs'=>rw [hr.unique hr',hx'] at hx; cases hx; omega
  | int=>rfl
  | bool hr' hx' hs'=>rw [hr.unique hr',hx'] at hx; cases hx; omega
  | fn hr' hx' hs'=>rw [hr.unique hr',hx'] at hx; cases hx; omega
  | pair hr' hx' hs'=>rw [hr.unique hr',hx'] at hx; cases hx; omega
 | bool hr hx hs=>cases k with
  | var hr' hx' hs'=>rw [hr.unique hr',hx'] at hx; cases hx; omega
  | int hr' hx' hs'=>rw [hr.unique hr',hx'] at hx; cases hx; omega
  | bool=>rfl
  | fn hr' hx' hs'=>rw [hr.unique hr',hx'] at hx; cases hx; omega
  | pair hr' hx' hs'=>rw [hr.unique hr',hx'] at hx; cases hx; omega
 | fn hr hx hs _ _ iha ihb=>cases k with
  | var hr' hx' hs'=>rw [hr.unique hr',hx'] at hx; cases hx; omega
  | int hr' hx' hs'=>rw [hr.unique hr',hx'] at hx; cases hx; omega
  | bool hr' hx' hs'=>rw [hr.unique hr',hx'] at hx; cases hx; omega
  | fn hr' hx' hs' ha' hb'=>rw [hr.unique hr',hx'] at hx; cases hx; rw [iha ha',ihb hb']
  | pair hr' hx' hs'=>rw [hr.unique hr',hx'] at hx; cases hx; omega
 | pair hr hx hs _ _ iha ihb=>cases k with
  | var hr' hx' hs'=>rw [hr.unique hr',hx'] at hx; cases hx; omega
  | int hr' hx' hs'=>rw [hr.unique hr',hx'] at hx; cases hx; omega
  | bool hr' hx' hs'=>rw [hr.unique hr',hx'] at hx; cases hx; omega
  | fn hr' hx' hs'=>rw [hr.unique hr',hx'] at hx; cases hx; omega
  | pair hr' hx' hs' ha' hb'=>rw [hr.unique hr',hx'] at hx; cases hx; rw [iha ha',ihb hb']
def Ty.size:Ty->Nat
 | .var _=>1
 | .int=>1
 | .bool=>1
 | .fn a b=>a.size+b.size+1
 | .pair a b=>a.size+b.size+1
structure zrg (st:SS) (mk:List Int):Prop where
 len:mk.length=st.shs.length
 val:∀(p:Nat) (m:Int),mk[p]? = some m->m=0\/m=1\/m=2
 done:∀p:Nat,mk[p]? = some 2->∃a,FinT st p a
def zgt (mk:List Int):Nat:=mk.countP (· == 0)
theorem zr9 {mk:List Int} {p:Nat} {m:Int} (h:mk[p]? = some 0) (hm:m≠0):zgt (mk.set p m)+1=zgt mk:=by
 induction mk generalizing p with
 | nil=>simp at h
 | cons a mk ih =>
  cases p with
  | zero =>
   simp at h
   subst h
   simp only [zsZ,zgt,List.countP_cons]
   simp [hm]
  | succ p =>
   simp only [zsS,zgt,List.countP_cons]
   have:=ih (p:=p) (by simpa using h)
   unfold zgt at this
   omega
theorem zw4 {mk:List Int} {p:Nat} {m a:Int} (h:mk[p]? = some a) (ha:a≠0) (hm:m≠0):zgt (mk.set p m)=zgt mk:=by
 induction mk generalizing p with
 | nil=>simp at h
 | cons b mk ih =>
  cases p with
  | zero =>
   simp at h
   subst h
   simp only [zsZ,zgt,List.countP_cons]
   simp [hm,ha]
  | succ p =>
   simp only [zsS,zgt,List.countP_cons]
   have:=ih (p:=p) (by simpa using h)
   unfold zgt at this
   omega
theorem zyw {mk:List Int} {p:Nat} {m:Int} (hp:p<mk.length) (q:Nat):(mk.set p m)[q]? = if q=p then some m else mk[q]? := by
 by_cases h:q=p
 ·subst h; rw [if_pos rfl,List.getElem?_set_self hp]
 ·rw [if_neg h,List.getElem?_set_ne (fun e=>h e.symm)]
structure HOk (st:SS) (mk:List Int) (r:Nat) (b:Bool) (st':SS) (mk':List Int):Prop where
 sim:st.Sim st'
 yes:b=true->∀v:Nat->Ty,¬st.sat v
 no:b=false->(∃a,FinT st r a)/\zrg st mk'/\(∀p:Nat,mk'[p]? = some 1↔mk[p]? = some 1)/\zgt mk'<=zgt mk
theorem zuk {st:SS} {p:Nat} {x:Sh} {v:Nat->Ty} (s:st.sat v) (hx:st.shs[p]? = some x) (hs:x.sort=3\/x.sort=4):(v x.left).size<(v p).size/\(v x.right).size<(v p).size:=by
 have:=s.shape p x hx
 rcases hs with h | h
 ·rw [this.2.2.1 h]; simp only [Ty.size]; omega
 ·rw [this.2.2.2 h]; simp only [Ty.size]; omega
theorem zw5 {f:Nat->Nat}:∀(z:Nat) {st:SS} {mk:List Int} {r:Nat},st.Wf f->zrg st mk->zgt mk<=z->r<st.shs.length->(∀v:Nat->Ty,st.sat v->∀p:Nat,mk[p]? = some 1->(v r).size<(v p).size) ->
  ∃n0 b st' mk',(∀n,n0<=n->zeb n st mk r=some (b,st',mk'))/\st'.Wf f/\HOk st mk r b st' mk':=by
 intro z
 induction z with
 | zero =>
  intro st mk r W M hz hr hS
  obtain ⟨n1,p,st1,f1,rp,W1,S1⟩:=zgb W hr
  have rp1:=(S1.root _ _).1 rp
  obtain ⟨x,hx,_⟩:=rp1.root
  have hpl:=rp.lt.2
  have hpm:p<mk.length:=by rw [M.len]; exact hpl
  have hm:mk[p]? = some mk[p]:=List.getElem?_eq_getElem hpm
  have h0:mk[p]≠0:=by
   intro e
   have:0<zgt mk:=List.countP_pos_iff.2 ⟨mk[p],List.getElem_mem _,by simp [e]⟩
   omega
  refine ⟨n1+1,mk[p]==1,st1,mk,fun n hn => ?_,W1,S1,fun hb v s => ?_,fun hb=>⟨?_,M,fun _=>.rfl,znL _⟩⟩
  ·obtain ⟨m,rfl⟩:∃m,n=m+1:=⟨n-1,by omega⟩
   rw [zeb,f1 m (by omega)]
   simp only [zbS,hx,hm]
   rw [if_neg (fun h=>h0 h.1)]
  ·simp only [beq_iff_eq] at hb
   have:=hS v s p (by rw [hm,hb])
   rw [s.root r p rp] at this
   omega
  ·have h2:mk[p]=2:=by
    rcases M.val p _ hm with h | h | h
    ·exact absurd h h0
    ·rw [h] at hb; simp at hb
    ·exact h
   obtain ⟨a,ha⟩:=M.done p (by rw [hm,h2])
   exact ⟨a,ha.move ⟨p,rp.self,rp⟩⟩
 | succ z ih =>
  intro st mk r W M hz hr hS
  obtain ⟨n1,p,st1,f1,rp,W1,S1⟩:=zgb W hr
  have rp1:=(S1.root _ _).1 rp
  obtain ⟨x,hx,_⟩:=rp1.root
  obtain ⟨x0,hx0,e1,e2,e3⟩:=S1.back hx
  have hpl:=rp.lt.2
  have hpm:p<mk.length:=by rw [M.len]; exact hpl
  have hm:mk[p]? = some mk[p]:=List.getElem?_eq_getElem hpm
  by_cases hgo:mk[p]=0/\zi1 x=true
  rotate_left
  ·refine ⟨n1+1,mk[p]==1,st1,mk,fun n hn => ?_,W1,S1,fun hb v s => ?_,fun hb=>⟨?_,M,fun _=>.rfl,znL _⟩⟩
   ·obtain ⟨m,rfl⟩:∃m,n=m+1:=⟨n-1,by omega⟩
    rw [zeb,f1 m (by omega)]
    simp only [zbS,hx,hm]
    rw [if_neg hgo]
   ·simp only [beq_iff_eq] at hb
    have:=hS v s p (by rw [hm,hb])
    rw [s.root r p rp] at this
    omega
   ·rcases M.val p _ hm with h | h | h
    ·have hnm:zi1 x=false:=by
      cases hx':zi1 x
      ·rfl
      ·exact absurd ⟨h,hx'⟩ hgo
     have hs:=W.sort p x0 hx0
     rw [<-e1] at hs
     unfold zi1 at hnm
     simp only [Bool.or_eq_false_iff,beq_eq_false_iff_ne] at hnm
     rcases hs with h' | h' | h' | h' | h'
     ·exact ⟨_,.var rp hx0 (e1.symm.trans h')⟩
     ·exact ⟨_,.int rp hx0 (e1.symm.trans h')⟩
     ·exact ⟨_,.bool rp hx0 (e1.symm.trans h')⟩
     ·exact absurd h' hnm.1
     ·exact absurd h' hnm.2
    ·rw [h] at hb; simp at hb
    ·obtain ⟨a,ha⟩:=M.done p (by rw [hm,h])
     exact ⟨a,ha.move ⟨p,rp.self,rp⟩⟩
  ·obtain ⟨hm0,hmade⟩:=hgo
   have hmade':x.sort=3\/x.sort=4:=by
    unfold zi1 at hmade
    simpa using hmade
   have hp0:mk[p]? = some 0:=by rw [hm,hm0]
   have g1:=zyw (mk:=mk) (m:=1) hpm
   have M1:zrg st1 (mk.set p 1):=by
    refine ⟨by simp [M.len,S1.len],fun q m hq => ?_,fun q hq => ?_⟩
    ·rw [g1] at hq
     split at hq
     ·cases hq; exact .inr (.inl rfl)
     ·exact M.val q m hq
    ·rw [g1] at hq
     split at hq
     ·cases hq
     ·obtain ⟨a,ha⟩:=M.done q hq
      exact ⟨a,ha.sim S1⟩
   have z1:zgt (mk.set p 1)<=z:=by have:=zr9 (m:=1) hp0 (by omega); omega
   have range:=W1.range p x hx
   have below:∀(v:Nat->Ty),st1.sat v->∀q:Nat,(mk.set p 1)[q]? = some 1->(v p).size<=(v q).size:=fun v s q hq=>by
    rw [g1] at hq
    split at hq
    ·rename_i h; rw [h]; exact znL _
    ·have s0:=S1.sat.2 s
     have:=hS v s0 q hq
     rw [s0.root r p rp] at this
     omega
   obtain ⟨n2,b2,st2,mk2,h2,W2,H2⟩:=ih (r:=x.left) W1 M1 z1 range.2.1 (fun v s q hq=>by have:=below v s q hq; have:=(zuk s hx hmade').1; omega)
   have unf:∀m,n1<=m->zeb (m+1) st mk r=(zeb m st1 (mk.set p 1) x.left).bind fun a=>if a.1 then some (true,a.2) else (zeb m a.2.1 a.2.2 x.right).bind fun b=>if b.1 then some (true,b.2) else some (false,b.2.1,b.2.2.set p 2):=fun m hm'=>by
    rw [zeb,f1 m hm']
    simp only [zbS,hx,hm]
    rw [if_pos ⟨hm0,hmade⟩]
   cases b2 with
   | true =>
    refine ⟨max n1 n2+1,true,st2,mk2,fun n hn => ?_,W2,S1.trans H2.sim,fun _ v s=>H2.yes rfl v (S1.sat.1 s),fun h=>by cases h⟩
    obtain ⟨m,rfl⟩:∃m,n=m+1:=⟨n-1,by omega⟩
    rw [unf m (by omega),h2 m (by omega)]
    rfl
   | false =>
    obtain ⟨⟨a,ha⟩,M2,w2,z2⟩:=H2.no rfl
    have M2':zrg st2 mk2:=⟨by rw [M2.len,H2.sim.len],M2.val,fun q hq=>by obtain ⟨c,hc⟩:=M2.done q hq; exact ⟨c,hc.sim H2.sim⟩⟩
    obtain ⟨x2,hx2,d1,d2,d3⟩:=H2.sim.shape p x hx
    have hmade2:x2.sort=3\/x2.sort=4:=by rw [d1]; exact hmade'
    have range2:=W2.range p x2 hx2
    obtain ⟨n3,b3,st3,mk3,h3,W3,H3⟩:=ih (st:=st2) (mk:=mk2) (r:=x.right) W2 M2' (by omega) (by rw [<-d3]; exact range2.2.2) (fun v s q hq=>by
     have s1:=H2.sim.sat.2 s
     have:=below v s1 q ((w2 q).1 hq)
     have:=(zuk s1 hx hmade').2
     omega)
    cases b3 with
    | true =>
     refine ⟨max n1 (max n2 n3)+1,true,st3,mk3,fun n hn => ?_,W3,(S1.trans H2.sim).trans H3.sim,fun _ v s=>H3.yes rfl v (H2.sim.sat.1 (S1.sat.1 s)),fun h=>by cases h⟩
     obtain ⟨m,rfl⟩:∃m,n=m+1:=⟨n-1,by omega⟩
     rw [unf m (by omega),h2 m (by omega)]
     simp only [zbS,Bool.false_eq_true,if_false]
     rw [h3 m (by omega)]
     rfl
    | false =>
     obtain ⟨⟨b,hb⟩,M3,w3,z3⟩:=H3.no rfl
     have hb1:FinT st1 x.right b:=hb.sim H2.sim.symm
     have hpm3:p<mk3.length:=by rw [M3.len,H2.sim.len,S1.len]; exact hpl
     have g3:=zyw (mk:=mk3) (m:=2) hpm3
     have FP:∃c,FinT st p c:=by
      have hl:FinT st x0.left a:=by rw [<-e2]; exact ha.sim S1.symm
      have hr':FinT st x0.right b:=by rw [<-e3]; exact hb1.sim S1.symm
      rcases hmade' with h | h
      ·exact ⟨_,.fn rp.self hx0 (e1.symm.trans h) hl hr'⟩
      ·exact ⟨_,.pair rp.self hx0 (e1.symm.trans h) hl hr'⟩
     have wp:mk3[p]? = some 1:=(w3 p).2 ((w2 p).2 (by rw [g1,if_pos rfl]))
     refine ⟨max n1 (max n2 n3)+1,false,st3,mk3.set p 2,fun n hn => ?_,W3,(S1.trans H2.sim).trans H3.sim,fun h=>(by cases h),fun _=>⟨?_,⟨?_,fun q m hq => ?_,fun q hq => ?_⟩,fun q => ?_,?_⟩⟩
     ·obtain ⟨m,rfl⟩:∃m,n=m+1:=⟨n-1,by omega⟩
      rw [unf m (by omega),h2 m (by omega)]
      simp only [zbS,Bool.false_eq_true,if_false]
      rw [h3 m (by omega)]
      rfl
     ·obtain ⟨c,hc⟩:=FP
      exact ⟨c,hc.move ⟨p,rp.self,rp⟩⟩
     ·simp [M3.len,H2.sim.len,S1.len]
     ·rw [g3] at hq
      split at hq
      ·cases hq; exact .inr (.inr rfl)
      ·exact M3.val q m hq
     ·rw [g3] at hq
      split at hq
      ·rename_i h; rw [h]; exact FP
      ·obtain ⟨c,hc⟩:=M3.done q hq
       exact ⟨c,(hc.sim H2.sim.symm).sim S1.symm⟩
     ·rw [g3]
      by_cases hq:q=p
      ·subst hq
       simp [hp0]
      ·rw [if_neg hq,w3 q,w2 q,g1,if_neg hq]
     ·have:=zw4 (m:=2) wp (by omega) (by omega)
      have:=zr9 (m:=1) hp0 (by omega)
      omega
theorem yak {f:Nat->Nat} {N:Nat}:∀(k:Nat) {st:SS} {mk:List Int} {r:Nat},st.Wf f->zrg st mk->(∀p:Nat,mk[p]? ≠ some 1)->N=st.shs.length->r+k=N ->
  ∃n0 b st',(∀n,n0<=n->zc2 n (k+1) st mk r N=some (b,st'))/\st'.Wf f/\st.Sim st'/\(b=true->∀v:Nat->Ty,¬st.sat v)/\(b=false->∀q,r<=q->q<N->∃a,FinT st q a):=by
 intro k
 induction k with
 | zero =>
  intro st mk r W M h1 hN hk
  refine ⟨0,false,st,fun n _ => ?_,W,.refl _,fun h=>(by cases h),fun _ q h2 h3=>absurd h3 (by omega)⟩
  rw [zc2,if_neg (by omega)]
 | succ k ih =>
  intro st mk r W M h1 hN hk
  obtain ⟨n1,b1,st1,mk1,g1,W1,H1⟩:=zw5 (zgt mk) W M (znL _) (r:=r) (by omega) (fun v _ p hp=>absurd hp (h1 p))
  cases b1 with
  | true =>
   refine ⟨n1,true,st1,fun n hn => ?_,W1,H1.sim,fun _=>H1.yes rfl,fun h=>(by cases h)⟩
   rw [zc2,if_pos (by omega),g1 n hn]
   rfl
  | false =>
   obtain ⟨F1,M1,w1,_⟩:=H1.no rfl
   have M1':zrg st1 mk1:=⟨by rw [M1.len,H1.sim.len],M1.val,fun q hq=>by obtain ⟨c,hc⟩:=M1.done q hq; exact ⟨c,hc.sim H1.sim⟩⟩
   obtain ⟨n2,b2,st2,g2,W2,S2,y2,o2⟩:=ih (st:=st1) (mk:=mk1) (r:=r+1) W1 M1' (fun p hp=>h1 p ((w1 p).1 hp)) (by rw [H1.sim.len]; exact hN) (by omega)
   refine ⟨max n1 n2,b2,st2,fun n hn => ?_,W2,H1.sim.trans S2,fun h v s=>y2 h v (H1.sim.sat.1 s),fun h q h3 h4 => ?_⟩
   ·rw [zc2,if_pos (by omega),g1 n (by omega)]
    simp only [zbS,Bool.false_eq_true,if_false]
    exact g2 n (by omega)
   ·by_cases hq:q=r
    ·rw [hq]; exact F1
    ·obtain ⟨a,ha⟩:=o2 h q (by omega) h4
     exact ⟨a,ha.sim H1.sim.symm⟩
theorem zs6 {f:Nat->Nat} {st:SS} (W:st.Wf f):∃n0 b st',(∀n,n0<=n->zhs n st=some (b,st'))/\st'.Wf f/\st.Sim st'/\(b=true->∀v:Nat->Ty,¬st.sat v)/\(b=false->∀q,q<st.shs.length->∃a,FinT st q a):=by
 have M:zrg st (List.replicate st.shs.length 0):=by
  refine ⟨by simp,fun p m hp => ?_,fun p hp => ?_⟩
  ·rw [List.getElem?_replicate] at hp
   split at hp <;> cases hp
   exact .inl rfl
  ·rw [List.getElem?_replicate] at hp
   split at hp <;> cases hp
 obtain ⟨n0,b,st',g,W',S,y,o⟩:=yak (N:=st.shs.length) st.shs.length W M (r:=0) (fun p hp=>by
  rw [List.getElem?_replicate] at hp
  split at hp <;> cases hp) rfl (by omega)
 exact ⟨n0,b,st',g,W',S,y,fun h q hq=>o h q (Nat.zero_le _) hq⟩
def Ty.sub (s:Nat->Ty):Ty->Ty
 | .var n=>s n
 | .int=>.int
 | .bool=>.bool
 | .fn a b=>.fn (a.sub s) (b.sub s)
 | .pair a b=>.pair (a.sub s) (b.sub s)
theorem FinT.val {st:SS} {v:Nat->Ty} (s:st.sat v) {r:Nat} {a:Ty} (h:FinT st r a):v r=a.sub v:=by
 induction h with
 | var hr hx hs=>exact s.root _ _ hr
 | int hr hx hs=>rw [s.root _ _ hr]; exact (s.shape _ _ hx).1 hs
 | bool hr hx hs=>rw [s.root _ _ hr]; exact (s.shape _ _ hx).2.1 hs
 | fn hr hx hs _ _ ha hb=>rw [s.root _ _ hr,(s.shape _ _ hx).2.2.1 hs,ha,hb]; rfl
 | pair hr hx hs _ _ ha hb=>rw [s.root _ _ hr,(s.shape _ _ hx).2.2.2 hs,ha,hb]; rfl
theorem SS.zyx (st:SS):Rel st.eqv:=⟨fun h=>h.symm,fun h k=>h.trans k⟩
theorem zw6 {st:SS} {f:Nat->Nat} (W:st.Wf f) (hc:st.clash=false) (C:st.Closed []) (F:∀q,q<st.shs.length->∃a,FinT st q a) (s:Nat->Ty):∃v,st.sat v/\∀r a,FinT st r a->v r=a.sub s:=by
 classical
 let v:Nat->Ty:=fun r=>if h:r<st.shs.length then (Classical.choose (F r h)).sub s else .int
 have hv:∀r a,FinT st r a->v r=a.sub s:=by
  intro r a h
  have hr:r<st.shs.length:=by cases h with
   | var hr=>exact hr.lt.1
   | int hr=>exact hr.lt.1
   | bool hr=>exact hr.lt.1
   | fn hr=>exact hr.lt.1
   | pair hr=>exact hr.lt.1
  simp only [v,dif_pos hr]
  rw [(Classical.choose_spec (F r hr)).unique h]
 refine ⟨v,⟨hc,fun r p hr => ?_,fun r x hx => ?_⟩,hv⟩
 ·obtain ⟨a,ha⟩:=F r hr.lt.1
  rw [hv r a ha,hv p a (ha.move ⟨p,hr,hr.self⟩)]
 ·have hr:=(zlE.1 hx).1
  obtain ⟨p,hp⟩:=W.rooted hr
  obtain ⟨y,hy,_⟩:=hp.root
  have like:=W.like r p x y hx hp hy
  have range:=W.range r x hx
  refine ⟨fun h => ?_,fun h => ?_,fun h => ?_,fun h => ?_⟩
  ·rw [hv r _ (.int hp hy (by rw [like (by omega),h]))]; rfl
  ·rw [hv r _ (.bool hp hy (by rw [like (by omega),h]))]; rfl
  ·obtain ⟨c1,c2⟩:=C st.eqv st.zyx (fun _ _ h=>h) (by simp) r p x y hx hp hy (.inl h)
   obtain ⟨a,ha⟩:=F x.left range.2.1
   obtain ⟨b,hb⟩:=F x.right range.2.2
   rw [hv r _ (.fn hp hy (by rw [like (by omega),h]) (ha.move c1) (hb.move c2)),hv _ _ ha,hv _ _ hb]; rfl
  ·obtain ⟨c1,c2⟩:=C st.eqv st.zyx (fun _ _ h=>h) (by simp) r p x y hx hp hy (.inr h)
   obtain ⟨a,ha⟩:=F x.left range.2.1
   obtain ⟨b,hb⟩:=F x.right range.2.2
   rw [hv r _ (.pair hp hy (by rw [like (by omega),h]) (ha.move c1) (hb.move c2)),hv _ _ ha,hv _ _ hb]; rfl
def Most (t:T) (a:Ty):Prop:=∀b,Typ t .nil b↔∃s,b=a.sub s
theorem zw7 {t:T} {w:Nat} (hw:zaj t .nil=some w) (hl:w<=2000):∃n0 r st,(∀n,n0<=n->zav n t .nil ss2=some (r,st)) /\
  ((st.clash=true/\∀a,¬Typ t .nil a)\/(st.clash=false/\∃b st',(∀n,n0<=n->zhs n st=some (b,st'))/\((b=true/\∀a,¬Typ t .nil a)\/(b=false/\(∃f,st'.Wf f)/\∃a,FinT st' r a/\Most t a)))):=by
 obtain ⟨n1,r,st,g1,⟨f,W⟩,hr,hC,hs,hcm,_⟩:=zw3 hw hl
 cases hc:st.clash with
 | true =>
  refine ⟨n1,r,st,g1,.inl ⟨hc,fun a ha => ?_⟩⟩
  obtain ⟨v,s,_⟩:=hcm ha
  rw [s.clash] at hc
  cases hc
 | false =>
  obtain ⟨n2,b,st',g2,W',S,y,o⟩:=zs6 W
  refine ⟨max n1 n2,r,st,fun n hn=>g1 n (by omega),.inr ⟨hc,b,st',fun n hn=>g2 n (by omega),?_⟩⟩
  cases b with
  | true =>
   refine .inl ⟨rfl,fun a ha => ?_⟩
   obtain ⟨v,s,_⟩:=hcm ha
   exact y rfl v s
  | false =>
   obtain ⟨a,ha⟩:=o rfl r hr
   refine .inr ⟨rfl,⟨f,W'⟩,a,ha.sim S,fun c=>⟨fun hcT => ?_,fun ⟨s,hsub⟩ => ?_⟩⟩
   ·obtain ⟨v,s,e⟩:=hcm hcT
    exact ⟨v,by rw [<-e]; exact ha.val s⟩
   ·obtain ⟨v,s1,s2⟩:=zw6 W hc (hC hc) (o rfl) s
    rw [hsub,<-s2 r a ha]
    exact hs s1
end Go.Proofs.YtckhafpejefbbaaGreatDoor.Tw
namespace Go.Proofs.YtckhafpejefbbaaGreatDoor
open Go.RowKit
def WAt (w:World):Tw.WEn->Value->Prop
 | .nil,v=>v = .pointer none
 | .cons n k o,v=>∃b vo,v = .pointer (some ⟨b,0,none⟩)/\w.heap[b]? = some (.cells #[ug n,.int .i64 k,vo] 360 (0,0))/\WAt w o vo
theorem WAt.grown {w w':World} (hk:w.grownBy w' none):∀ {e:Tw.WEn} {v:Value},WAt w e v->WAt w' e v
 | .nil,_,h=>h
 | .cons ..,_,⟨b,vo,hv,hb,ho⟩=>⟨b,vo,hv,zbG hk hb,WAt.grown hk ho⟩
theorem WAt.ptr {w:World} {e:Tw.WEn} {v:Value} (h:WAt w e v):∃a,v = .pointer a:=by
 cases e with
 | nil=>exact ⟨none,h⟩
 | cons=>obtain ⟨b,_,hv,_⟩:=h; exact ⟨_,hv⟩
theorem zk4 {w:World} {e:Tw.WEn} {v:Value} (he:WAt w e v) (n:List UInt8) (k:Nat) :
  Calls Tryz.prog 164 #[v,ug n,.int .i64 k] w fun r w'=>∃a,r = .returned (.pointer a)/\w.grownBy w' none/\WAt w' (.cons n k e) (.pointer a):=by
 have HE:Hid (WAt w e v):=he
 obtain ⟨a,rfl⟩:=he.ptr
 clear he
 go_enter Tryz.func164,Tryz.ntmps164
 go_wp2_with fail
 go_ret
 exact ⟨_,rfl,zwA _ _ none,_,_,rfl,zad w _,HE.out.grown (zwA _ _ none)⟩
theorem yal {w:World} {e:Tw.WEn} {v:Value} (he:WAt w e v) (x:List UInt8) {k:Nat} (hm:e.look x=some k) :
  Calls Tryz.prog 163 #[v,ug x] w fun r w'=>r = .returned (.tuple #[.int .i64 k,.bool true])/\w=w':=by
 have HE:Hid (WAt w e v):=he
 have HM:Hid (e.look x=some k):=hm
 clear he hm
 go_enter Tryz.func163,Tryz.ntmps163
 go_wp2_with fail
 go_loopg [0] e.size (fun j pv wr=>wr=w/\∃ek:Tw.WEn,j=ek.size/\Hid (WAt w ek pv)/\Hid (ek.look x=some k))
 case atStart=>exact ⟨rfl,e,rfl,HE,HM⟩
 case round =>
  obtain ⟨hw,ek,hks,HK,HL⟩:=hrel
  subst hw
  cases ek with
  | nil=>have:=HL.out; simp [Tw.WEn.look] at this
  | cons n r o =>
   obtain ⟨b,vo,hv,hb,ho⟩:=HK.out
   obtain ⟨a,rfl⟩:=ho.ptr
   subst hv
   obtain ⟨c0,c1,c2,_⟩:=zaf hb
   have HO:Hid (WAt wr o (.pointer a)):=ho
   have hl:=HL.out
   simp only [Tw.WEn.look] at hl
   clear HK HL hb ho HE HM
   by_cases hn:n=x
   ·rw [if_pos hn] at hl
    simp only [zsI] at hl
    subst hl
    have be:(n==x)=true:=by simp [hn]
    clear hn
    go_wp2_with fail
    go_ret2
    exact ⟨rfl,rfl⟩
   ·rw [if_neg hn] at hl
    have be:(n==x)=false:=by simp [hn]
    have HL:Hid (o.look x=some k):=hl
    clear hn hl
    go_wp2_with fail
    go_roundg o.size
    case measure=>simp [Tw.WEn.size] at hks; omega
    case rel=>exact ⟨rfl,o,rfl,HO,HL⟩
open Go.RowKit
def zht (l:List Value):Array Value:=l.toArray
def zbw (w:World) (l:List Value) (e:Ending) (w':World):Prop:=w.grownBy w' none /\
 ((l=[]/\e = .returned (.slice none 0 0))\/∃k,e = .returned (.slice (some ⟨k,0,none⟩) l.length l.length)/\w'.heap[k]? = some (.cells (zht l) 68 (0,0)))
theorem zn6 (w:World) (b:Nat) :
  Calls Tryz.prog 162 #[.iface 191 (.pointer (some ⟨b,0,none⟩))] w (zbw w []):=by
 have q0:=zjz
 have q1:=zow
 have q2:=zox
 have q3:=zln
 have q4:=zr6
 have q5:=ze1
 have q6:=zfx
 go_enter Tryz.func162,Tryz.ntmps162
 go_wp2_with fail
 go_ret
 exact ⟨zab _,.inl ⟨rfl,rfl⟩⟩
theorem zkd (w:World) (b:Nat) :
  Calls Tryz.prog 162 #[.iface 195 (.pointer (some ⟨b,0,none⟩))] w (zbw w []):=by
 have q0:=zir
 have q1:=zlp
 have q2:=zlq
 have q3:=zjr
 have q4:=zoy
 have q5:=zdu
 have q6:=zem
 go_enter Tryz.func162,Tryz.ntmps162
 go_wp2_with fail
 go_ret
 exact ⟨zab _,.inl ⟨rfl,rfl⟩⟩
theorem zl7 (w:World) (b:Nat) :
  Calls Tryz.prog 162 #[.iface 199 (.pointer (some ⟨b,0,none⟩))] w (zbw w []):=by
 have q0:=zjs
 have q1:=zmt
 have q2:=zmu
 have q3:=zj1
 have q4:=zp4
 have q5:=zee
 have q6:=ze9
 go_enter Tryz.func162,Tryz.ntmps162
 go_wp2_with fail
 go_ret
 exact ⟨zab _,.inl ⟨rfl,rfl⟩⟩
theorem zii {w:World} {b:Nat} {fr to:Nat} {v1:Value} (h0:∃T n,v1 = .iface T (.pointer (some ⟨n,0,none⟩))) (hb:w.heap[b]? = some (.cells #[.int .i64 fr,.int .i64 to,v1] 206 (0,0))) :
  Calls Tryz.prog 162 #[.iface 204 (.pointer (some ⟨b,0,none⟩))] w (zbw w [v1]):=by
 obtain ⟨T0,n0,rfl⟩:=h0
 have c0:w.cell? ⟨b,2,none⟩=some (.iface T0 (.pointer (some ⟨n0,0,none⟩))):=zcR hb
 have q0:=zdv
 have q1:=zgq
 have q2:=zjt
 have q3:=zhw
 have q4:=zlr
 have q5:=zc6
 have q6:=zdn
 clear hb
 go_enter Tryz.func162,Tryz.ntmps162
 go_wp2_with fail
 go_ret
 exact ⟨zwA _ _ none,.inr ⟨_,rfl,zad w _⟩⟩
theorem zl8 {w:World} {b:Nat} {fr to:Nat} {v1:Value} {v2:Value} (h0:∃T n,v1 = .iface T (.pointer (some ⟨n,0,none⟩))) (h1:∃T n,v2 = .iface T (.pointer (some ⟨n,0,none⟩))) (hb:w.heap[b]? = some (.cells #[.int .i64 fr,.int .i64 to,v1,v2] 229 (0,0))) :
  Calls Tryz.prog 162 #[.iface 207 (.pointer (some ⟨b,0,none⟩))] w (zbw w [v1,v2]):=by
 obtain ⟨T0,n0,rfl⟩:=h0
 obtain ⟨T1,n1,rfl⟩:=h1
 have c0:w.cell? ⟨b,2,none⟩=some (.iface T0 (.pointer (some ⟨n0,0,none⟩))):=zcR hb
 have c1:w.cell? ⟨b,3,none⟩=some (.iface T1 (.pointer (some ⟨n1,0,none⟩))):=zcR hb
 have q0:=zgr
 have q1:=zgw
 have q2:=zmv
 have q3:=zj3
 have q4:=zp5
 have q5:=zef
 have q6:=zfa
 clear hb
 go_enter Tryz.func162,Tryz.ntmps162
 go_wp2_with fail
 go_region
 go_wp2_with fail
 go_ret
 exact ⟨zac (zwA _ _ none),.inr ⟨_,rfl,zad w _⟩⟩
theorem zl9 {w:World} {b:Nat} {fr to:Nat} {v1:Value} {v2:Value} (h0:∃T n,v1 = .iface T (.pointer (some ⟨n,0,none⟩))) (h1:∃T n,v2 = .iface T (.pointer (some ⟨n,0,none⟩))) (hb:w.heap[b]? = some (.cells #[.int .i64 fr,.int .i64 to,v1,v2] 319 (0,0))) :
  Calls Tryz.prog 162 #[.iface 209 (.pointer (some ⟨b,0,none⟩))] w (zbw w [v1,v2]):=by
 obtain ⟨T0,n0,rfl⟩:=h0
 obtain ⟨T1,n1,rfl⟩:=h1
 have c0:w.cell? ⟨b,2,none⟩=some (.iface T0 (.pointer (some ⟨n0,0,none⟩))):=zcR hb
 have c1:w.cell? ⟨b,3,none⟩=some (.iface T1 (.pointer (some ⟨n1,0,none⟩))):=zcR hb
 have q0:=zey
 have q1:=zgx
 have q2:=zi8
 have q3:=zj5
 have q4:=zp6
 have q5:=zeg
 have q6:=zfb
 clear hb
 go_enter Tryz.func162,Tryz.ntmps162
 go_wp2_with fail
 go_region
 go_wp2_with fail
 go_ret
 exact ⟨zac (zwA _ _ none),.inr ⟨_,rfl,zad w _⟩⟩
theorem zjd {w:World} {b:Nat} {fr to:Nat} {sg:Int} {v1:Value} {v2:Value} (h0:∃T n,v1 = .iface T (.pointer (some ⟨n,0,none⟩))) (h1:∃T n,v2 = .iface T (.pointer (some ⟨n,0,none⟩))) (hb:w.heap[b]? = some (.cells #[.int .i64 fr,.int .i64 to,.int .i64 sg,v1,v2] 322 (0,0))) :
  Calls Tryz.prog 162 #[.iface 211 (.pointer (some ⟨b,0,none⟩))] w (zbw w [v1,v2]):=by
 obtain ⟨T0,n0,rfl⟩:=h0
 obtain ⟨T1,n1,rfl⟩:=h1
 have c0:w.cell? ⟨b,3,none⟩=some (.iface T0 (.pointer (some ⟨n0,0,none⟩))):=zcR hb
 have c1:w.cell? ⟨b,4,none⟩=some (.iface T1 (.pointer (some ⟨n1,0,none⟩))):=zcR hb
 have q0:=zec
 have q1:=zfl
 have q2:=zhg
 have q3:=zfz
 have q4:=zmw
 have q5:=zdi
 have q6:=zd8
 clear hb
 go_enter Tryz.func162,Tryz.ntmps162
 go_wp2_with fail
 go_region
 go_wp2_with fail
 go_ret
 exact ⟨zac (zwA _ _ none),.inr ⟨_,rfl,zad w _⟩⟩
theorem zqa {w:World} {b:Nat} {fr to:Nat} {v1:Value} {v2:Value} {v3:Value} (h0:∃T n,v1 = .iface T (.pointer (some ⟨n,0,none⟩))) (h1:∃T n,v2 = .iface T (.pointer (some ⟨n,0,none⟩))) (h2:∃T n,v3 = .iface T (.pointer (some ⟨n,0,none⟩))) (hb:w.heap[b]? = some (.cells #[.int .i64 fr,.int .i64 to,v1,v2,v3] 326 (0,0))) :
  Calls Tryz.prog 162 #[.iface 213 (.pointer (some ⟨b,0,none⟩))] w (zbw w [v1,v2,v3]):=by
 obtain ⟨T0,n0,rfl⟩:=h0
 obtain ⟨T1,n1,rfl⟩:=h1
 obtain ⟨T2,n2,rfl⟩:=h2
 have c0:w.cell? ⟨b,2,none⟩=some (.iface T0 (.pointer (some ⟨n0,0,none⟩))):=zcR hb
 have c1:w.cell? ⟨b,3,none⟩=some (.iface T1 (.pointer (some ⟨n1,0,none⟩))):=zcR hb
 have c2:w.cell? ⟨b,4,none⟩=some (.iface T2 (.pointer (some ⟨n2,0,none⟩))):=zcR hb
 have q0:=zf9
 have q1:=zi9
 have q2:=zl4
 have q3:=zja
 have q4:=zp7
 have q5:=zf0
 have q6:=zg5
 clear hb
 go_enter Tryz.func162,Tryz.ntmps162
 go_wp2_with fail
 go_region
 go_wp2_with fail
 go_ret
 exact ⟨zac (zwA _ _ none),.inr ⟨_,rfl,zad w _⟩⟩
open Go.RowKit
def zzj (w:World) (k:Nat) (r:Ending) (w':World):Prop:=r = .returned (.int .i64 k)/\w.grownBy w' none
def zzk (w:World) (ev v:Value) (k:Nat):Prop:=∀W:World,w.grownBy W none->Calls Tryz.prog 87 #[v,ev] W (zzj W k)
def zh7 (ks:List Nat) (j:Nat):Nat:=(ks.take j).sum
theorem zqb (ks:List Nat) (j:Nat) (h:j<ks.length):zh7 ks (j+1)=zh7 ks j+ks[j]:=by
 unfold zh7
 rw [List.take_succ_eq_append_getElem h,List.sum_append]
 simp
theorem yck (ks:List Nat) (hk:∀k∈ks,k<=2001):∀j,zh7 ks j<=j * 2001:=by
 intro j
 induction j with
 | zero=>simp [zh7]
 | succ j ih =>
  by_cases h:j<ks.length
  ·rw [zqb ks j h]
   have:=hk ks[j] (List.getElem_mem h)
   omega
  ·have:zh7 ks (j+1)=zh7 ks j:=by
    unfold zh7
    rw [List.take_of_length_le (by omega),List.take_of_length_le (by omega)]
   omega
theorem zds {PT:TypeId} {w:World} {b:Nat} {ev:Value} {vs:List Value} {ks:List Nat}
  (q0:TaNo PT 83)
  (q1:TaNo PT 215)
  (q2:TaNo PT 136)
  (hP:Calls Tryz.prog 162 #[.iface PT (.pointer (some ⟨b,0,none⟩))] w (zbw w vs)) (hea:∃a,ev = .pointer a)
  (hlen:vs.length=ks.length) (hl3:ks.length<=3) (hK:∀j (h1:j<vs.length) (h2:j<ks.length),(∃T n,vs[j] = .iface T (.pointer (some ⟨n,0,none⟩)))/\zzk w ev vs[j] ks[j]) (hks:∀k∈ks,k<=2001) :
  Calls Tryz.prog 87 #[.iface PT (.pointer (some ⟨b,0,none⟩)),ev] w (zzj w (min (1+ks.sum) 2001)):=by
 obtain ⟨a,rfl⟩:=hea
 have HP:=bV hP
 have HK:=bV hK
 have HB:=bV (yck ks hks)
 have HSUM:Hid (zh7 ks ks.length=ks.sum):=by show _=_; unfold zh7; rw [List.take_length]
 generalize hR:min (1+ks.sum) 2001=R
 have HR:=bV hR
 clear hR
 clear hP hK hks
 go_enter Tryz.func87,Tryz.ntmps87
 go_wp2_with fail
 refine (uh HP).mono ?_
 rintro e1 w1 ⟨hg,hcase⟩
 have G1:Hid (w.grownBy w1 none):=hg
 clear hg
 rcases hcase with ⟨rfl,rfl⟩ | ⟨k,rfl,hk⟩
 ·have hk0:ks=[]:=by simpa using hlen.symm
  subst hk0
  go_wp2_with fail
  go_loopg [5,18] 0 (fun j tot iv wr=>tot = .int .i64 1/\iv = .int .i64 0/\wr=w1)
  case atStart=>exact ⟨rfl,rfl,rfl⟩
  case round =>
   obtain ⟨rfl,rfl,rfl⟩:=hrel
   go_wp2_with fail
   all_goals
    go_ret
    go_light
    exact ⟨zdt (by have:=uh HR; simp at this; omega),G1.out⟩
 ·have C1:Hid (w1.heap[k]? = some (.cells (zht vs) 68 (0,0))):=hk
  clear hk
  have c65:Tryz.prog.cellsOf 68=1:=by kernel_rfl
  obtain ⟨N,hV⟩:∃N,vs.length=N:=⟨_,rfl⟩
  rw [hV]
  have HV:=bV hV
  have hLN:N=ks.length:=by omega
  have HLN:=bV hLN
  have hN3:N<=3:=by omega
  clear hV hlen hLN
  go_wp2_with fail
  go_loopg [5,18] N (fun j tot iv wr=>∃q:Nat,j+q=N/\q<=N/\tot = .int .i64 ((1+zh7 ks q:Nat):Int)/\iv = .int .i64 q/\Hid (w1.grownBy wr none))
  case atStart=>exact ⟨0,by omega,by omega,by simp [zh7],rfl,zab _⟩
  case round =>
   obtain ⟨q,hjq,hq,rfl,rfl,GR⟩:=hrel
   have hb:=uh HB q
   by_cases hlt:q<N
   ·have h1:q<vs.length:=by rw [uh HV]; exact hlt
    have h2:q<ks.length:=by rw [<-uh HLN]; exact hlt
    obtain ⟨⟨T,nn,hv⟩,hks⟩:=uh HK q h1 h2
    rw [hv] at hks
    have hc:wr.cell? ⟨k,q,none⟩=some (.iface T (.pointer (some ⟨nn,0,none⟩))):=by
     rw [cell_of_row wr k _ _ _ _ (zbG GR.out C1.out)]
     simp [zht,h1,hv]
    have hqi:(q:Int)<(N:Int):=by omega
    have KS:=bV (hks wr (zaa G1.out GR.out))
    have hss:=bV (zqb ks q h2)
    have hb2:=uh HB (q+1)
    rw [uh hss] at hb2
    generalize ks[q]=kq at *
    generalize hsq:zh7 ks q=sq at *
    clear hks hv h1 h2 hsq
    go_wp2_with fail
    refine (uh KS).mono ?_
    rintro e2 w2 ⟨rfl,hg⟩
    have G2:Hid (w1.grownBy w2 none):=zaa GR.out hg
    clear hg
    go_wp2_with fail
    go_roundg (gk-1)
    case measure=>omega
    case rel=>exact ⟨q+1,by omega,by omega,zsx (by rw [uh hss]; omega),by go_num,G2⟩
   ·have hqN:q=N:=by omega
    generalize hsq:zh7 ks q=sq at *
    have HSQ:=bV hsq
    clear hsq
    have e1:=uh HSQ
    rw [hqN,uh HLN,HSUM.out] at e1
    have hr:=uh HR
    rw [e1] at hr
    have HR2:=bV hr
    clear e1 hr HR HSQ hqN
    go_wp2_with fail
    all_goals
     go_ret
     go_light
     refine ⟨zdt ?_,zaa G1.out GR.out⟩
     have hr:=uh HR2
     omega
open Go.RowKit
theorem zcg:∀ {t:Tw.T} {e:Tw.WEn} {k:Nat},Tw.zaj t e=some k->k<=2001:=by
 intro t e k h
 cases t <;> simp only [Tw.zaj,zbE,zsI] at h
 ·obtain ⟨_,_,h⟩:=h; omega
 ·omega
 ·omega
 ·omega
 ·obtain ⟨_,_,h⟩:=h; omega
 ·obtain ⟨_,_,_,_,h⟩:=h; omega
 ·obtain ⟨_,_,_,_,h⟩:=h; omega
 ·obtain ⟨_,_,_,_,h⟩:=h; omega
 ·obtain ⟨_,_,_,_,_,_,h⟩:=h; omega
 ·obtain ⟨_,_,h⟩:=h; omega
 ·obtain ⟨_,_,_,_,h⟩:=h; omega
def zpg (t:Tw.T):Prop:=∀ {w:World} {hi:Nat} {tv ev:Value} {e:Tw.WEn} {k:Nat},Rep w 0 hi t tv->WAt w e ev->Tw.zaj t e=some k->Calls Tryz.prog 87 #[tv,ev] w (zzj w k)
theorem zul (fr to:Nat) (x:List UInt8):zpg (.name fr to x):=by
 intro w hi tv ev e k hr he hf
 obtain ⟨b,_,_,rfl,hb⟩:=hr
 rw [Tw.zaj] at hf
 obtain ⟨m,hm,hf1⟩:=zbE.1 hf
 simp only [zsI] at hf1
 have HR:=bV hf1
 have HM:=bV hm
 have HE:=bV he
 have c2:w.cell? ⟨b,2,none⟩=some (ug x):=zcR hb
 obtain ⟨a,rfl⟩:=he.ptr
 have q0:=zfh
 have q1:=zgf
 have q2:=zgg
 clear hf hf1 hm he hb
 go_enter Tryz.func87,Tryz.ntmps87
 go_wp2_with fail
 refine (yal (uh HE) x (uh HM)).mono ?_
 rintro e1 w1 ⟨rfl,rfl⟩
 go_wp2_with fail
 all_goals
  go_ret
  go_light
  exact ⟨zdt (by have:=uh HR; omega),zab _⟩
theorem zw8 {fr to bat:Nat} {bn:List UInt8} {body:Tw.T} (hB:zpg body):zpg (.fn fr to bn bat body):=by
  intro w hi tv ev e k hr he hf
  obtain ⟨v1,⟨b,_,_,rfl,hb⟩,r1⟩:=hr
  rw [Tw.zaj] at hf
  obtain ⟨m,hm,hf1⟩:=zbE.1 hf
  simp only [zsI] at hf1
  have HR:=bV hf1
  have HM:=bV hm
  have HE:=bV he
  have R0:=bV r1
  have B0:=bV hb
  have hm1:=bV (zcg hm)
  obtain ⟨T0,n0,rfl⟩:=r1.iface
  obtain ⟨_,_,c2,_,c4⟩:=zcf hb
  obtain ⟨a,rfl⟩:=he.ptr
  have q0:=zgi
  have q1:=zdw
  have q2:=zei
  clear hf hf1 hm he hb r1
  have hm2:=uh hm1
  go_enter Tryz.func87,Tryz.ntmps87
  go_wp2_with fail
  have D1:Hid (w.grownBy w.drew none):=zac (zab _)
  go_region_held3 (fun W=>W.cell? ⟨b,2,none⟩=some (ug bn)/\W.cell? ⟨b,4,none⟩=some (.iface T0 (.pointer (some ⟨n0,0,none⟩)))) (go_keep)
    (first
      | (go_at_call 164; refine (zk4 ((uh HE).grown D1.out) bn 1).mono ?_; rintro e1 w2 ⟨sa,rfl,hg,hn⟩
         have G2:Hid (w.grownBy w2 none):=zaa D1.out hg
         have N2:=bV hn
         have B2:=zcf ((zaa D1.out hg).block b (zgE.1 B0.out).1 (by simp) |>.trans B0.out)
         obtain ⟨_,_,d2,_,d4⟩:=B2
         clear hg hn)
      | (go_at_call 87; refine (hB ((uh R0).grown G2.out (znL _) (znL _)) (uh N2) (uh HM)).mono ?_; rintro e1 w3 ⟨rfl,hg⟩
         have G3:Hid (w.grownBy w3 none):=zaa G2.out hg
         have B3:=zcf (G3.out.block b (zgE.1 B0.out).1 (by simp) |>.trans B0.out)
         obtain ⟨_,_,g2,_,g4⟩:=B3
         clear hg))
  go_wp2_with fail
  all_goals
    go_ret
    go_light
    exact ⟨zdt (by have:=uh HR; omega),G3.out⟩
theorem zw9 {fr to bat:Nat} {rc:Bool} {bn:List UInt8} {d x:Tw.T} (hD:zpg d) (hX:zpg x):zpg (.lett fr to rc bn bat d x):=by
  intro w hi tv ev e k hr he hf
  obtain ⟨v1,v2,⟨b,_,_,rfl,hb⟩,r1,r2⟩:=hr
  rw [Tw.zaj] at hf
  obtain ⟨m,hm,hf1⟩:=zbE.1 hf
  obtain ⟨c,hc,hf2⟩:=zbE.1 hf1
  simp only [zsI] at hf2
  have HR:=bV hf2
  have HC:=bV hc
  have HE:=bV he
  have R1:=bV r1
  have R2:=bV r2
  have B0:=bV hb
  have hm2:=zcg hm
  have hc2:=zcg hc
  obtain ⟨T0,n0,rfl⟩:=r1.iface
  obtain ⟨T1,n1,rfl⟩:=r2.iface
  obtain ⟨c2,c3,c5,c6⟩:=za1 hb
  obtain ⟨a,rfl⟩:=he.ptr
  have q0:=zgj
  have q1:=zdx
  have q2:=zcv
  clear hf hf1 hf2 hc he hb r1 r2
  have tail:∀(W:World),w.grownBy W none->Hid (W.grownBy W.drew none):=fun W _=>zac (zab _)
  cases rc
  · simp only [Bool.false_eq_true,if_false] at hm
    have HM:=bV hm
    clear hm
    go_enter Tryz.func87,Tryz.ntmps87
    go_wp2_with fail
    refine (hD (uh R1) (uh HE) (uh HM)).mono ?_
    rintro e1 w1 ⟨rfl,hg⟩
    have G1:Hid (w.grownBy w1 none):=hg
    clear hg
    obtain ⟨_,c3',_,c6'⟩:=za1 (G1.out.block b (zgE.1 B0.out).1 (by simp) |>.trans B0.out)
    have D1:Hid (w1.grownBy w1.drew none):=zac (zab _)
    clear q0 q1 q2 c2 c3 c5 c6 tail
    go_wp2_with fail
    go_region_held3 (fun W=>W.cell? ⟨b,3,none⟩=some (ug bn)/\W.cell? ⟨b,6,none⟩=some (.iface T1 (.pointer (some ⟨n1,0,none⟩)))) (go_keep)
      (first
        | (go_at_call 164; refine (zk4 ((uh HE).grown (zaa G1.out D1.out)) bn m).mono ?_; rintro e1 w2 ⟨sa2,rfl,hg,hn⟩
           have G2:Hid (w.grownBy w2 none):=zaa (zaa G1.out D1.out) hg
           have N2:=bV hn
           have B2:=za1 (G2.out.block b (zgE.1 B0.out).1 (by simp) |>.trans B0.out)
           obtain ⟨_,d3,_,d6⟩:=B2
           clear hg hn)
        | (go_at_call 87; refine (hX ((uh R2).grown G2.out (znL _) (znL _)) (uh N2) (uh HC)).mono ?_; rintro e1 w3 ⟨rfl,hg⟩
           have G3:Hid (w.grownBy w3 none):=zaa G2.out hg
           have B3:=za1 (G3.out.block b (zgE.1 B0.out).1 (by simp) |>.trans B0.out)
           obtain ⟨_,g3,_,g6⟩:=B3
           clear hg))
    go_wp2_with fail
    all_goals
      go_ret
      go_light
      exact ⟨zdt (by have:=uh HR; omega),G3.out⟩
  · simp only [if_true] at hm
    have HM:=bV hm
    clear hm
    go_enter Tryz.func87,Tryz.ntmps87
    go_wp2_with fail
    refine (zk4 (uh HE) bn 1).mono ?_
    rintro e1 w0 ⟨sa,rfl,hg,hn⟩
    have G0:Hid (w.grownBy w0 none):=hg
    have N0:=bV hn
    clear hg hn
    obtain ⟨_,u3,u5,u6⟩:=za1 (G0.out.block b (zgE.1 B0.out).1 (by simp) |>.trans B0.out)
    go_wp2_with fail
    refine (hD ((uh R1).grown G0.out (znL _) (znL _)) (uh N0) (uh HM)).mono ?_
    rintro e1 w1 ⟨rfl,hg⟩
    have G1:Hid (w.grownBy w1 none):=zaa G0.out hg
    clear hg
    obtain ⟨_,c3',_,c6'⟩:=za1 (G1.out.block b (zgE.1 B0.out).1 (by simp) |>.trans B0.out)
    have D1:Hid (w1.grownBy w1.drew none):=zac (zab _)
    clear q0 q1 q2 c2 c3 c5 c6 tail
    go_wp2_with fail
    go_region_held3 (fun W=>W.cell? ⟨b,3,none⟩=some (ug bn)/\W.cell? ⟨b,6,none⟩=some (.iface T1 (.pointer (some ⟨n1,0,none⟩)))) (go_keep)
      (first
        | (go_at_call 164; refine (zk4 ((uh HE).grown (zaa G1.out D1.out)) bn m).mono ?_; rintro e1 w2 ⟨sa2,rfl,hg,hn⟩
           have G2:Hid (w.grownBy w2 none):=zaa (zaa G1.out D1.out) hg
           have N2:=bV hn
           have B2:=za1 (G2.out.block b (zgE.1 B0.out).1 (by simp) |>.trans B0.out)
           obtain ⟨_,d3,_,d6⟩:=B2
           clear hg hn)
        | (go_at_call 87; refine (hX ((uh R2).grown G2.out (znL _) (znL _)) (uh N2) (uh HC)).mono ?_; rintro e1 w3 ⟨rfl,hg⟩
           have G3:Hid (w.grownBy w3 none):=zaa G2.out hg
           have B3:=za1 (G3.out.block b (zgE.1 B0.out).1 (by simp) |>.trans B0.out)
           obtain ⟨_,g3,_,g6⟩:=B3
           clear hg))
    go_wp2_with fail
    all_goals
      go_ret
      go_light
      exact ⟨zdt (by have:=uh HR; omega),G3.out⟩
theorem kid {t:Tw.T} (h:zpg t) {w:World} {hi:Nat} {tv ev:Value} {e:Tw.WEn} {k:Nat} (hr:Rep w 0 hi t tv) (he:WAt w e ev) (hf:Tw.zaj t e=some k):(∃T n,tv = .iface T (.pointer (some ⟨n,0,none⟩)))/\zzk w ev tv k :=
 ⟨hr.iface,fun _ hg=>h (hr.grown hg (znL _) (znL _)) (he.grown hg) hf⟩
theorem zb6:∀t:Tw.T,zpg t
 | .name fr to x=>zul fr to x
 | .int fr to v=>by
  intro hr he hf
  obtain ⟨b,_,_,rfl,hb⟩:=hr
  simp only [Tw.zaj,zsI] at hf
  subst hf
  exact zds zgh ze1 zfx (vs:=[]) (ks:=[]) (zn6 _ b) he.ptr rfl (by simp) (by simp) (by simp)
 | .truth fr to v=>by
  intro hr he hf
  obtain ⟨b,_,_,rfl,hb⟩:=hr
  simp only [Tw.zaj,zsI] at hf
  subst hf
  exact zds zeu zdu zem (vs:=[]) (ks:=[]) (zkd _ b) he.ptr rfl (by simp) (by simp) (by simp)
 | .side fr to v=>by
  intro hr he hf
  obtain ⟨b,_,_,rfl,hb⟩:=hr
  simp only [Tw.zaj,zsI] at hf
  subst hf
  exact zds zfi zee ze9 (vs:=[]) (ks:=[]) (zl7 _ b) he.ptr rfl (by simp) (by simp) (by simp)
 | .bracket fr to i=>by
  intro hr he hf
  obtain ⟨v1,⟨b,_,_,rfl,hb⟩,r1⟩:=hr
  simp only [Tw.zaj,zbE,zsI] at hf
  obtain ⟨k1,h1,rfl⟩:=hf
  have K1:=kid (zb6 i) r1 he h1
  have:=zds zd2 zc6 zdn (vs:=[v1]) (ks:=[k1]) (zii K1.1 hb) he.ptr rfl (by simp) (by
   intro j a1 a2
   match j,a1 with
   | 0,_=>exact K1) (by intro k hk; simp at hk; subst hk; exact zcg h1)
  simpa using this
 | .fn fr to bn bat b=>zw8 (zb6 b)
 | .lett fr to rc bn bat d b=>zw9 (zb6 d) (zb6 b)
 | .pair fr to l r=>by
  intro hr he hf
  obtain ⟨v1,v2,⟨b,_,_,rfl,hb⟩,r1,r2⟩:=hr
  simp only [Tw.zaj,zbE,zsI] at hf
  obtain ⟨k1,h1,k2,h2,rfl⟩:=hf
  have K1:=kid (zb6 l) r1 he h1
  have K2:=kid (zb6 r) r2 he h2
  have:=zds zfj zef zfa (vs:=[v1,v2]) (ks:=[k1,k2]) (zl8 K1.1 K2.1 hb) he.ptr rfl (by simp) (by
   intro j a1 a2
   match j,a1 with
   | 0,_=>exact K1
   | 1,_=>exact K2) (by intro k hk; simp at hk; rcases hk with rfl | rfl <;> first | exact zcg h1 | exact zcg h2)
  simpa [Nat.add_assoc] using this
 | .call fr to l r=>by
  intro hr he hf
  obtain ⟨v1,v2,⟨b,_,_,rfl,hb⟩,r1,r2⟩:=hr
  simp only [Tw.zaj,zbE,zsI] at hf
  obtain ⟨k1,h1,k2,h2,rfl⟩:=hf
  have K1:=kid (zb6 l) r1 he h1
  have K2:=kid (zb6 r) r2 he h2
  have:=zds zfk zeg zfb (vs:=[v1,v2]) (ks:=[k1,k2]) (zl9 K1.1 K2.1 hb) he.ptr rfl (by simp) (by
   intro j a1 a2
   match j,a1 with
   | 0,_=>exact K1
   | 1,_=>exact K2) (by intro k hk; simp at hk; rcases hk with rfl | rfl <;> first | exact zcg h1 | exact zcg h2)
  simpa [Nat.add_assoc] using this
 | .binary fr to sg l r=>by
  intro hr he hf
  obtain ⟨v1,v2,⟨b,_,_,rfl,hb⟩,r1,r2⟩:=hr
  simp only [Tw.zaj,zbE,zsI] at hf
  obtain ⟨k1,h1,k2,h2,rfl⟩:=hf
  have K1:=kid (zb6 l) r1 he h1
  have K2:=kid (zb6 r) r2 he h2
  have:=zds zeh zdi zd8 (vs:=[v1,v2]) (ks:=[k1,k2]) (zjd K1.1 K2.1 hb) he.ptr rfl (by simp) (by
   intro j a1 a2
   match j,a1 with
   | 0,_=>exact K1
   | 1,_=>exact K2) (by intro k hk; simp at hk; rcases hk with rfl | rfl <;> first | exact zcg h1 | exact zcg h2)
  simpa [Nat.add_assoc] using this
 | .cond fr to c t f=>by
  intro hr he hf
  obtain ⟨v1,v2,v3,⟨b,_,_,rfl,hb⟩,r1,r2,r3⟩:=hr
  simp only [Tw.zaj,zbE,zsI] at hf
  obtain ⟨k1,h1,k2,h2,k3,h3,rfl⟩:=hf
  have K1:=kid (zb6 c) r1 he h1
  have K2:=kid (zb6 t) r2 he h2
  have K3:=kid (zb6 f) r3 he h3
  have:=zds zhh zf0 zg5 (vs:=[v1,v2,v3]) (ks:=[k1,k2,k3]) (zqa K1.1 K2.1 K3.1 hb) he.ptr rfl (by simp) (by
   intro j a1 a2
   match j,a1 with
   | 0,_=>exact K1
   | 1,_=>exact K2
   | 2,_=>exact K3) (by intro k hk; simp at hk; rcases hk with rfl | rfl | rfl <;> first | exact zcg h1 | exact zcg h2 | exact zcg h3)
  simpa [Nat.add_assoc] using this
theorem zqc {w:World} {hi:Nat} {t:Tw.T} {tv:Value} {k:Nat} (hr:Rep w 0 hi t tv) (hf:Tw.zaj t .nil=some k):Calls Tryz.prog 49 #[tv] w (zzj w k):=by
 have HR:=bV hr
 have HF:=bV hf
 obtain ⟨T0,n0,rfl⟩:=hr.iface
 clear hr hf
 go_enter Tryz.func49,Tryz.ntmps49
 go_wp2_with fail
 refine (zb6 t (uh HR) (show WAt w .nil (.pointer none) from rfl) (uh HF)).mono ?_
 rintro e1 w1 ⟨rfl,hg⟩
 have X:=bV hg
 clear hg
 go_wp2_with fail
 go_ret
 exact ⟨rfl,uh X⟩
end Go.Proofs.YtckhafpejefbbaaGreatDoor
namespace Go.Proofs.YtckhafpejefbbaaGreatDoor.Tw
open Go
inductive BEn where
 | nil
 | cons (name:List UInt8) (k:Addr) (o:BEn)
def BEn.look:BEn->List UInt8->Option Addr
 | .nil,_=>none
 | .cons n k o,x=>if n=x then some k else o.look x
def BEn.size:BEn->Nat
 | .nil=>0
 | .cons _ _ o=>o.size+1
end Go.Proofs.YtckhafpejefbbaaGreatDoor.Tw
namespace Go.Proofs.YtckhafpejefbbaaGreatDoor
open Go.RowKit
def BAt (w:World):Tw.BEn->Value->Prop
 | .nil,v=>v = .pointer none
 | .cons n k o,v=>∃b vo,v = .pointer (some ⟨b,0,none⟩)/\w.heap[b]? = some (.cells #[ug n,.pointer (some k),vo] 302 (0,0))/\BAt w o vo
theorem BAt.grown {w w':World} (hk:w.grownBy w' none):∀ {e:Tw.BEn} {v:Value},BAt w e v->BAt w' e v
 | .nil,_,h=>h
 | .cons ..,_,⟨b,vo,hv,hb,ho⟩=>⟨b,vo,hv,zbG hk hb,BAt.grown hk ho⟩
theorem BAt.ptr {w:World} {e:Tw.BEn} {v:Value} (h:BAt w e v):∃a,v = .pointer a:=by
 cases e with
 | nil=>exact ⟨none,h⟩
 | cons=>obtain ⟨b,_,hv,_⟩:=h; exact ⟨_,hv⟩
theorem zsa {w:World} {e:Tw.BEn} {v:Value} (he:BAt w e v) (n:List UInt8) (k:Addr) :
  Calls Tryz.prog 161 #[v,ug n,.pointer (some k)] w fun r w'=>∃a,r = .returned (.pointer a)/\w.grownBy w' none/\BAt w' (.cons n k e) (.pointer a):=by
 have HE:Hid (BAt w e v):=he
 obtain ⟨a,rfl⟩:=he.ptr
 clear he
 go_enter Tryz.func161,Tryz.ntmps161
 go_wp2_with fail
 go_ret
 exact ⟨_,rfl,zwA _ _ none,_,_,rfl,zad w _,HE.out.grown (zwA _ _ none)⟩
theorem zn7 {w:World} {e:Tw.BEn} {v:Value} (he:BAt w e v) (x:List UInt8) {k:Addr} (hm:e.look x=some k) :
  Calls Tryz.prog 86 #[v,ug x] w fun r w'=>r = .returned (.tuple #[.pointer (some k),.bool true])/\w=w':=by
 have HE:Hid (BAt w e v):=he
 have HM:Hid (e.look x=some k):=hm
 clear he hm
 go_enter Tryz.func86,Tryz.ntmps86
 go_wp2_with fail
 go_loopg [0] e.size (fun j pv wr=>wr=w/\∃ek:Tw.BEn,j=ek.size/\Hid (BAt w ek pv)/\Hid (ek.look x=some k))
 case atStart=>exact ⟨rfl,e,rfl,HE,HM⟩
 case round =>
  obtain ⟨hw,ek,hks,HK,HL⟩:=hrel
  subst hw
  cases ek with
  | nil=>have:=HL.out; simp [Tw.BEn.look] at this
  | cons n r o =>
   obtain ⟨b,vo,hv,hb,ho⟩:=HK.out
   obtain ⟨a,rfl⟩:=ho.ptr
   subst hv
   obtain ⟨c0,c1,c2,_⟩:=zaf hb
   have HO:Hid (BAt wr o (.pointer a)):=ho
   have hl:=HL.out
   simp only [Tw.BEn.look] at hl
   clear HK HL hb ho HE HM
   by_cases hn:n=x
   ·rw [if_pos hn] at hl
    simp only [zsI] at hl
    subst hl
    have be:(n==x)=true:=by simp [hn]
    clear hn
    go_wp2_with fail
    go_ret2
    exact ⟨rfl,rfl⟩
   ·rw [if_neg hn] at hl
    have be:(n==x)=false:=by simp [hn]
    have HL:Hid (o.look x=some k):=hl
    clear hn hl
    go_wp2_with fail
    go_roundg o.size
    case measure=>simp [Tw.BEn.size] at hks; omega
    case rel=>exact ⟨rfl,o,rfl,HO,HL⟩
theorem zma {w:World} {e:Tw.BEn} {v:Value} (he:BAt w e v) (x:List UInt8) (hm:e.look x=none) :
  Calls Tryz.prog 86 #[v,ug x] w fun r w'=>r = .returned (.tuple #[.pointer none,.bool false])/\w=w':=by
 have HE:Hid (BAt w e v):=he
 have HM:Hid (e.look x=none):=hm
 clear he hm
 go_enter Tryz.func86,Tryz.ntmps86
 go_wp2_with fail
 go_loopg [0] e.size (fun j pv wr=>wr=w/\∃ek:Tw.BEn,j=ek.size/\Hid (BAt w ek pv)/\Hid (ek.look x=none))
 case atStart=>exact ⟨rfl,e,rfl,HE,HM⟩
 case round =>
  obtain ⟨hw,ek,hks,HK,HL⟩:=hrel
  subst hw
  cases ek with
  | nil =>
   have hv:_=Value.pointer none:=HK.out
   subst hv
   clear HK HL HE HM
   go_wp2_with fail
   go_ret2
   exact ⟨rfl,rfl⟩
  | cons n r o =>
   obtain ⟨b,vo,hv,hb,ho⟩:=HK.out
   obtain ⟨a,rfl⟩:=ho.ptr
   subst hv
   obtain ⟨c0,c1,c2,_⟩:=zaf hb
   have HO:Hid (BAt wr o (.pointer a)):=ho
   have hl:=HL.out
   simp only [Tw.BEn.look] at hl
   clear HK HL hb ho HE HM
   by_cases hn:n=x
   ·rw [if_pos hn] at hl
    cases hl
   ·rw [if_neg hn] at hl
    have be:(n==x)=false:=by simp [hn]
    have HL:Hid (o.look x=none):=hl
    clear hn hl
    go_wp2_with fail
    go_roundg o.size
    case measure=>simp [Tw.BEn.size] at hks; omega
    case rel=>exact ⟨rfl,o,rfl,HO,HL⟩
end Go.Proofs.YtckhafpejefbbaaGreatDoor
