/- Texts of the proof, put together: InlRun, InlRun2, GramThy, GramThy2, InlLex, InlLex2, InlGram, InlGram2. -/
import Derived.Test.YtckhafpejefbbaaGreatDoorB16

set_option maxRecDepth 100000
set_option maxHeartbeats 4000000
namespace Go.Proofs.YtckhafpejefbbaaGreatDoor.Tw
namespace Inl
open Go
inductive En1 where
 | both (n:List UInt8) (s:Bool)
 | left (x:List UInt8) (d:T)
 | right (n:List UInt8)
abbrev IE:=List En1
def hitB:IE->List UInt8->Bool->Prop
 | [],_,_=>False
 | .both n s::E,x,f=>(n=x/\s=f)\/(n≠x/\hitB E x f)
 | .left y _::E,x,f=>y≠x/\hitB E x f
 | .right n::E,x,f=>n≠x/\hitB E x f
def hitD:IE->List UInt8->T->IE->Prop
 | [],_,_,_=>False
 | .both n _::E,x,d,F=>n≠x/\∃G,hitD E x d G/\F = .right n::G
 | .left y c::E,x,d,F=>(y=x/\d=c/\F=E)\/(y≠x/\hitD E x d F)
 | .right n::E,x,d,F=>n≠x/\∃G,hitD E x d G/\F = .right n::G
def Vd (E:IE):T->Prop
 | .name _ _ x=>hitB E x true
 | .int .. => True
 | .truth .. => True
 | .side .. => True
 | .fn .. => True
 | .bracket _ _ i=>Vd E i
 | .pair _ _ l r=>Vd E l/\Vd E r
 | _=>False
inductive Sb:IE->T->T->Prop
 | name {E:IE} {f t f' t':Nat} {x:List UInt8} {s:Bool} (h:hitB E x s):Sb E (.name f t x) (.name f' t' x)
 | use {E F:IE} {f t:Nat} {x:List UInt8} {d d':T} (h:hitD E x d F) (k:Sb F d d'):Sb E (.name f t x) d'
 | useB {E F:IE} {f t f' t':Nat} {x:List UInt8} {d d':T} (h:hitD E x d F) (k:Sb F d d'):Sb E (.name f t x) (.bracket f' t' d')
 | int {E:IE} {f t f' t':Nat} {v:Int}:Sb E (.int f t v) (.int f' t' v)
 | truth {E:IE} {f t f' t':Nat} {v:Bool}:Sb E (.truth f t v) (.truth f' t' v)
 | side {E:IE} {f t f' t':Nat} {v:Bool}:Sb E (.side f t v) (.side f' t' v)
 | bracket {E:IE} {f t f' t':Nat} {i i':T} (h:Sb E i i'):Sb E (.bracket f t i) (.bracket f' t' i')
 | pair {E:IE} {f t f' t':Nat} {x y x' y':T} (h:Sb E x x') (k:Sb E y y'):Sb E (.pair f t x y) (.pair f' t' x' y')
 | call {E:IE} {f t f' t':Nat} {x y x' y':T} (h:Sb E x x') (k:Sb E y y'):Sb E (.call f t x y) (.call f' t' x' y')
 | binary {E:IE} {f t f' t':Nat} {s:Int} {x y x' y':T} (h:Sb E x x') (k:Sb E y y'):Sb E (.binary f t s x y) (.binary f' t' s x' y')
 | cond {E:IE} {f t f' t':Nat} {x y z x' y' z':T} (h:Sb E x x') (k:Sb E y y') (j:Sb E z z'):Sb E (.cond f t x y z) (.cond f' t' x' y' z')
 | fn {E:IE} {f t f' t' b b':Nat} {n:List UInt8} {x x':T} (h:Sb (.both n true::E) x x'):Sb E (.fn f t n b x) (.fn f' t' n b' x')
 | lett {E:IE} {f t f' t' b b':Nat} {r:Bool} {n:List UInt8} {x x' y y':T} (h:Sb (if r then .both n false::E else E) x x') (k:Sb (.both n true::E) y y'):Sb E (.lett f t r n b x y) (.lett f' t' r n b' x' y')
 | inl {E:IE} {f t b:Nat} {n:List UInt8} {d y y':T} (h:Vd E d) (k:Sb (.left n d::E) y y'):Sb E (.lett f t false n b d y) y'
def zfu (sl:List (Option Val)) (e:VEnv):T->Option Val
 | .name _ _ x=>(zd6 e x).bind fun i=>(sl[i]?).join
 | .int _ _ v=>if -9223372036854775808<=v/\v<=9223372036854775807 then some (.num v) else none
 | .truth _ _ b=>some (.truth b)
 | .side _ _ b=>some (.side b)
 | .fn fr to bn bat b=>some (.clo fr to bn bat b e)
 | .bracket _ _ i=>zfu sl e i
 | .pair _ _ l r=>(zfu sl e l).bind fun x=>(zfu sl e r).bind fun y=>some (.pair x y)
 | _=>none
inductive ER (R:List (Nat×Nat)) (sl:List (Option Val)):IE->VEnv->VEnv->Prop
 | nil:ER R sl [] [] []
 | both {E:IE} {n:List UInt8} {s:Bool} {k k':Nat} {e e':VEnv} (h:(k,k')∈R) (hs:s=true->∃v,sl[k]? = some (some v)) (r:ER R sl E e e'):ER R sl (.both n s::E) ((n,k)::e) ((n,k')::e')
 | left {E:IE} {x:List UInt8} {d:T} {k:Nat} {v:Val} {e e':VEnv} (h:sl[k]? = some (some v)) (hv:zfu sl e d=some v) (r:ER R sl E e e'):ER R sl (.left x d::E) ((x,k)::e) e'
 | right {E:IE} {n:List UInt8} {k':Nat} {e e':VEnv} (r:ER R sl E e e'):ER R sl (.right n::E) e ((n,k')::e')
inductive VR (R:List (Nat×Nat)) (sl:List (Option Val)):Val->Val->Prop
 | num {n:Int}:VR R sl (.num n) (.num n)
 | truth {b:Bool}:VR R sl (.truth b) (.truth b)
 | side {b:Bool}:VR R sl (.side b) (.side b)
 | pair {l r l' r':Val} (h:VR R sl l l') (k:VR R sl r r'):VR R sl (.pair l r) (.pair l' r')
 | clo {fr to fr' to' bat bat':Nat} {n:List UInt8} {b b':T} {e e':VEnv} {E:IE} (h:ER R sl E e e') (k:Sb (.both n true::E) b b'):VR R sl (.clo fr to n bat b e) (.clo fr' to' n bat' b' e')
inductive OR (R:List (Nat×Nat)) (sl:List (Option Val)):Option Val->Option Val->Prop
 | none:OR R sl none none
 | some {v v':Val} (h:VR R sl v v'):OR R sl (some v) (some v')
def SLe (a b:List (Option Val)):Prop:=∀(k:Nat) (v:Val),a[k]? = some (some v)->b[k]? = some (some v)
theorem SLe.trans {a b c:List (Option Val)} (h:SLe a b) (k:SLe b c):SLe a c:=fun i v x=>k i v (h i v x)
theorem SLe.pre {a b:List (Option Val)} (h:a <+: b):SLe a b:=fun k v hk=>by
 obtain ⟨r,rfl⟩:=h
 rw [List.getElem?_append_left (zlE.1 hk).1]
 exact hk
theorem SLe.set {a:List (Option Val)} {k:Nat} (h:a[k]? = some none) (o:Option Val):SLe a (a.set k o):=fun i v hi=>by
 rw [List.getElem?_set_ne (by rintro rfl; rw [h] at hi; cases hi)]
 exact hi
theorem zku {a b:List (Option Val)} (h:SLe a b) (e:VEnv):∀(d:T) {v:Val},zfu a e d=some v->zfu b e d=some v
 | .name _ _ x,v,hv=>by
  simp only [zfu] at hv ⊢
  obtain ⟨i,h1,h2⟩:=zbE.1 hv
  rw [h1]
  simp only [zbS]
  rw [Option.join_eq_some_iff] at h2 ⊢
  exact h i v h2
 | .int ..,v,hv=>hv
 | .truth ..,v,hv=>hv
 | .side ..,v,hv=>hv
 | .fn ..,v,hv=>hv
 | .bracket _ _ i,v,hv=>zku h e i hv
 | .pair _ _ l r,v,hv=>by
  simp only [zfu] at hv ⊢
  obtain ⟨x,h1,hv⟩:=zbE.1 hv
  obtain ⟨y,h2,hv⟩:=zbE.1 hv
  rw [zku h e l h1,zku h e r h2]
  exact hv
 | .call ..,v,hv=>by cases hv
 | .binary ..,v,hv=>by cases hv
 | .cond ..,v,hv=>by cases hv
 | .lett ..,v,hv=>by cases hv
theorem ER.le {R R2:List (Nat×Nat)} {a b:List (Option Val)} {E:IE} {e e':VEnv} (h:ER R a E e e') (hR:R ⊆ R2) (hs:SLe a b):ER R2 b E e e':=by
 induction h with
 | nil=>exact .nil
 | both h1 h2 _ ih=>exact .both (hR h1) (fun q=>by obtain ⟨v,hv⟩:=h2 q; exact ⟨v,hs _ _ hv⟩) ih
 | left h1 h2 _ ih=>exact .left (hs _ _ h1) (zku hs _ _ h2) ih
 | right _ ih=>exact .right ih
theorem VR.le {R R2:List (Nat×Nat)} {a b:List (Option Val)} {v v':Val} (h:VR R a v v') (hR:R ⊆ R2) (hs:SLe a b):VR R2 b v v':=by
 induction h with
 | num=>exact .num
 | truth=>exact .truth
 | side=>exact .side
 | pair _ _ ih1 ih2=>exact .pair ih1 ih2
 | clo h k=>exact .clo (h.le hR hs) k
theorem OR.le {R R2:List (Nat×Nat)} {a b:List (Option Val)} {v v':Option Val} (h:OR R a v v') (hR:R ⊆ R2) (hs:SLe a b):OR R2 b v v':=by
 cases h with
 | none=>exact .none
 | some h=>exact .some (h.le hR hs)
theorem VR.asNum {R:List (Nat×Nat)} {a:List (Option Val)} {v v':Val} (h:VR R a v v'):asNum v=asNum v':=by cases h <;> rfl
theorem VR.write {R:List (Nat×Nat)} {a:List (Option Val)} {v v':Val} (h:VR R a v v'):∀acc,zdd v acc=zdd v' acc:=by
 induction h with
 | num=>intro acc; rfl
 | truth=>intro acc; rfl
 | side=>intro acc; rfl
 | pair _ _ ih1 ih2=>intro acc; simp only [zdd]; rw [ih1,ih2]
 | clo=>intro acc; rfl
theorem VR.isTrue {R:List (Nat×Nat)} {a:List (Option Val)} {v v':Val} (h:VR R a v v'):v = .truth true↔v' = .truth true:=by cases h <;> simp
structure SR (R:List (Nat×Nat)) (st st':RS):Prop where
 one:∀k j j',(k,j)∈R->(k,j')∈R->j=j'
 two:∀k k' j,(k,j)∈R->(k',j)∈R->k=k'
 get:∀k j,(k,j)∈R->∃o o',st.slots[k]? = some o/\st'.slots[j]? = some o'/\OR R st.slots o o'
 steps:st.steps=st'.steps
 fin:st.fin=st'.fin
theorem SR.fin' {R:List (Nat×Nat)} {st st':RS} (h:SR R st st') (f:Int):SR R {st with fin:=f} {st' with fin:=f}:=⟨h.one,h.two,h.get,h.steps,rfl⟩
theorem zgm (sl:List (Option Val)) (o:Option Val):sl <+: sl ++ [o]:=List.prefix_append _ _
theorem SR.push {R:List (Nat×Nat)} {st st':RS} (h:SR R st st') {o o':Option Val} (ho:OR R st.slots o o') (k:Nat):SR ((st.slots.length,st'.slots.length)::R) {st with slots:=st.slots ++ [o],steps:=k} {st' with slots:=st'.slots ++ [o'],steps:=k}:=by
 have lt:∀k j,(k,j)∈R->k<st.slots.length/\j<st'.slots.length:=fun k j hk=>by
  obtain ⟨o,o',h1,h2,_⟩:=h.get k j hk
  exact ⟨(zlE.1 h1).1,(zlE.1 h2).1⟩
 have hs:SLe st.slots (st.slots ++ [o]):=SLe.pre (zgm _ _)
 have hR:R ⊆ (st.slots.length,st'.slots.length)::R:=fun x hx=>List.mem_cons_of_mem _ hx
 refine ⟨fun k j j' h1 h2 => ?_,fun k k' j h1 h2 => ?_,fun k j hk => ?_,rfl,h.fin⟩
 ·rcases zmC.1 h1 with e1 | h1
  ·rcases zmC.1 h2 with e2 | h2
   ·cases e1; cases e2; rfl
   ·cases e1; have:=(lt _ _ h2).1; omega
  ·rcases zmC.1 h2 with e2 | h2
   ·cases e2; have:=(lt _ _ h1).1; omega
   ·exact h.one k j j' h1 h2
 ·rcases zmC.1 h1 with e1 | h1
  ·rcases zmC.1 h2 with e2 | h2
   ·cases e1; cases e2; rfl
   ·cases e1; have:=(lt _ _ h2).2; omega
  ·rcases zmC.1 h2 with e2 | h2
   ·cases e2; have:=(lt _ _ h1).2; omega
   ·exact h.two k k' j h1 h2
 ·rcases zmC.1 hk with e1 | hk
  ·cases e1
   refine ⟨o,o',by simp,by simp,ho.le hR hs⟩
  ·obtain ⟨l1,l2⟩:=lt k j hk
   obtain ⟨x,x',h1,h2,h3⟩:=h.get k j hk
   exact ⟨x,x',by simp only; rw [List.getElem?_append_left l1]; exact h1,by simp only; rw [List.getElem?_append_left l2]; exact h2,h3.le hR hs⟩
theorem SR.set {R:List (Nat×Nat)} {st st':RS} (h:SR R st st') {k j:Nat} (hk:(k,j)∈R) (hn:st.slots[k]? = some none) {v v':Val} (hv:VR R st.slots v v'):SR R {st with slots:=st.slots.set k (some v)} {st' with slots:=st'.slots.set j (some v')}:=by
 have hs:SLe st.slots (st.slots.set k (some v)):=SLe.set hn _
 refine ⟨h.one,h.two,fun k2 j2 hk2 => ?_,h.steps,h.fin⟩
 obtain ⟨x,x',h1,h2,h3⟩:=h.get k2 j2 hk2
 simp only
 by_cases e:k2=k
 ·subst e
  obtain rfl:=h.one _ _ _ hk2 hk
  exact ⟨some v,some v',by rw [List.getElem?_set_self (zlE.1 h1).1],by rw [List.getElem?_set_self (zlE.1 h2).1],.some (hv.le (fun _ h=>h) hs)⟩
 ·have e2:j2≠j:=by rintro rfl; exact e (h.two _ _ _ hk2 hk)
  exact ⟨x,x',by rw [List.getElem?_set_ne (Ne.symm e)]; exact h1,by rw [List.getElem?_set_ne (Ne.symm e2)]; exact h2,h3.le (fun _ h=>h) hs⟩
theorem SR.pushL {R:List (Nat×Nat)} {st st':RS} (h:SR R st st') (o:Option Val):SR R {st with slots:=st.slots ++ [o]} st':=by
 refine ⟨h.one,h.two,fun k j hk => ?_,h.steps,h.fin⟩
 obtain ⟨x,x',h1,h2,h3⟩:=h.get k j hk
 exact ⟨x,x',by simp only; rw [List.getElem?_append_left (zlE.1 h1).1]; exact h1,h2,h3.le (fun _ h=>h) (SLe.pre (zgm _ _))⟩
theorem zcq (bud:Nat):∀(n:Nat) {t:T} {e:VEnv} {st:RS} {r:Option Val×RS},zap bud n t e st=some r->st.slots <+: r.2.slots
 | 0,_,_,_,_,h=>by cases h
 | n+1,t,e,st,r,hr=>by
  have both:∀ {x y:T} {c},zdl bud n x y e st=some c->st.slots <+: c.2.slots:=by
   intro x y c hc
   unfold zdl at hc
   obtain ⟨⟨a1,a2⟩,h1,hc⟩:=zbE.1 hc
   have p1:=zcq bud n h1
   cases a1 with
   | none=>cases hc; exact p1
   | some u =>
    simp only at hc
    obtain ⟨⟨a3,a4⟩,h2,hc⟩:=zbE.1 hc
    have p2:=zcq bud n h2
    cases a3 <;> (cases hc; exact p1.trans p2)
  cases t with
  | name f t x =>
   simp only [zap] at hr
   obtain ⟨i,hi,hr⟩:=zbE.1 hr
   cases hg:st.slots[i]? with
   | none=>rw [hg] at hr; cases hr
   | some o=>rw [hg] at hr; cases o <;> (cases hr; exact List.prefix_refl _)
  | int =>
   simp only [zap] at hr
   split at hr
   ·cases hr; exact List.prefix_refl _
   ·cases hr
  | truth=>cases hr; exact List.prefix_refl _
  | side=>cases hr; exact List.prefix_refl _
  | fn=>cases hr; exact List.prefix_refl _
  | bracket _ _ i=>exact zcq bud n (t:=i) hr
  | pair _ _ l r =>
   rw [zdy] at hr
   obtain ⟨⟨c1,c2⟩,hc,hr⟩:=zbE.1 hr
   cases c1 <;> (cases hr; exact both hc)
  | binary _ _ sg l r =>
   rw [zcy] at hr
   obtain ⟨⟨c1,c2⟩,hc,hr⟩:=zbE.1 hr
   cases c1 with
   | none=>cases hr; exact both hc
   | some q =>
    cases hr
    have:(zck sg (asNum q.1) (asNum q.2) c2).2.slots=c2.slots:=by
     unfold zck
     repeat' split
     all_goals rfl
    rw [this]
    exact both hc
  | call _ _ l r =>
   rw [zb7] at hr
   obtain ⟨⟨c1,c2⟩,hc,hr⟩:=zbE.1 hr
   have p:=both hc
   cases c1 with
   | none=>cases hr; exact p
   | some q =>
    obtain ⟨u,v⟩:=q
    simp only at hr p
    cases u with
    | num=>cases hr; exact p
    | truth=>cases hr; exact p
    | pair=>cases hr; exact p
    | side=>cases hr; exact p
    | clo _ _ bn _ b env =>
     simp only [zft] at hr
     split at hr
     ·cases hr; exact p
     ·exact p.trans ((zgm _ _).trans (zcq bud n hr))
  | cond _ _ c a b =>
   simp only [zap] at hr
   obtain ⟨⟨a1,a2⟩,h1,hr⟩:=zbE.1 hr
   have p1:=zcq bud n h1
   cases a1 with
   | none=>cases hr; exact p1
   | some u =>
    simp only at hr
    split at hr
    ·exact p1.trans (zcq bud n hr)
    ·exact p1.trans (zcq bud n hr)
  | lett _ _ rc bn _ d b =>
   simp only [zap] at hr
   obtain ⟨⟨a1,a2⟩,h1,hr⟩:=zbE.1 hr
   have p1:=zcq bud n h1
   simp only at p1
   cases a1 with
   | none=>cases hr; exact (zgm _ _).trans p1
   | some u =>
    simp only at hr
    have p2:=zcq bud n hr
    simp only at p2
    obtain ⟨q,hq⟩:=p1
    refine List.IsPrefix.trans ?_ p2
    rw [<-hq,List.append_assoc,List.set_append,if_neg (by omega)]
    exact List.prefix_append _ _
end Inl
namespace Inl
open Go
theorem zoo {R:List (Nat×Nat)} {sl:List (Option Val)} {x:List UInt8} {s:Bool} {E:IE} {e e':VEnv} (h:ER R sl E e e') (hx:hitB E x s):∃k k',zd6 e x=some k/\zd6 e' x=some k'/\(k,k')∈R/\(s=true->∃v,sl[k]? = some (some v)):=by
 induction h with
 | nil=>exact hx.elim
 | @both E n s' k k' e e' h hs r ih =>
  rcases hx with ⟨rfl,rfl⟩ | ⟨h1,h2⟩
  ·exact ⟨k,k',by simp [zd6],by simp [zd6],h,hs⟩
  ·obtain ⟨a,b,h3,h4,h5⟩:=ih h2
   exact ⟨a,b,by simp only [zd6]; rw [if_neg h1]; exact h3,by simp only [zd6]; rw [if_neg h1]; exact h4,h5⟩
 | left h hv r ih =>
  obtain ⟨h1,h2⟩:=hx
  obtain ⟨a,b,h3,h4,h5⟩:=ih h2
  exact ⟨a,b,by simp only [zd6]; rw [if_neg h1]; exact h3,h4,h5⟩
 | right r ih =>
  obtain ⟨h1,h2⟩:=hx
  obtain ⟨a,b,h3,h4,h5⟩:=ih h2
  exact ⟨a,b,h3,by simp only [zd6]; rw [if_neg h1]; exact h4,h5⟩
theorem zlc {R:List (Nat×Nat)} {sl:List (Option Val)} {x:List UInt8} {d:T} {E:IE} {e e':VEnv} (h:ER R sl E e e'):∀ {F:IE},hitD E x d F->∃k v e1,zd6 e x=some k/\sl[k]? = some (some v)/\zfu sl e1 d=some v/\ER R sl F e1 e':=by
 induction h with
 | nil=>intro F hx; exact hx.elim
 | @both E n s' k k' e e' h hs r ih =>
  intro F hx
  obtain ⟨h1,G,h2,rfl⟩:=hx
  obtain ⟨a,v,e1,h3,h4,h5,h6⟩:=ih h2
  exact ⟨a,v,e1,by simp only [zd6]; rw [if_neg h1]; exact h3,h4,h5,.right h6⟩
 | @left E y c k v e e' h hv r ih =>
  intro F hx
  rcases hx with ⟨rfl,rfl,rfl⟩ | ⟨h1,h2⟩
  ·exact ⟨k,v,e,by simp [zd6],h,hv,r⟩
  ·obtain ⟨a,v,e1,h3,h4,h5,h6⟩:=ih h2
   exact ⟨a,v,e1,by simp only [zd6]; rw [if_neg h1]; exact h3,h4,h5,h6⟩
 | right r ih =>
  intro F hx
  obtain ⟨h1,G,h2,rfl⟩:=hx
  obtain ⟨a,v,e1,h3,h4,h5,h6⟩:=ih h2
  exact ⟨a,v,e1,h3,h4,h5,.right h6⟩
theorem zpv {bud:Nat} {R:List (Nat×Nat)} {E:IE} {e e':VEnv} {st:RS} (hE:ER R st.slots E e e'):∀(n:Nat) (d:T) {a:Option Val×RS},Vd E d->zap bud n d e st=some a->∃v,a=(some v,st)/\zfu st.slots e d=some v
 | 0,_,_,_,h=>by cases h
 | n+1,.name _ _ x,a,hv,h=>by
  obtain ⟨k,k',h1,_,_,h2⟩:=zoo hE hv
  obtain ⟨v,hk⟩:=h2 rfl
  simp only [zap,h1,zbS,hk] at h
  cases h
  exact ⟨v,rfl,by simp only [zfu,h1,zbS,hk,Option.join_some]⟩
 | n+1,.int _ _ v,a,_,h=>by
  simp only [zap] at h
  split at h
  ·rename_i hc
   cases h
   exact ⟨_,rfl,by simp only [zfu]; rw [if_pos hc]⟩
  ·cases h
 | n+1,.truth ..,a,_,h=>by cases h; exact ⟨_,rfl,rfl⟩
 | n+1,.side ..,a,_,h=>by cases h; exact ⟨_,rfl,rfl⟩
 | n+1,.fn ..,a,_,h=>by cases h; exact ⟨_,rfl,rfl⟩
 | n+1,.bracket _ _ i,a,hv,h=>zpv hE n i (a:=a) hv h
 | n+1,.pair _ _ l r,a,hv,h=>by
  simp only [zap] at h
  obtain ⟨c,h1,h⟩:=zbE.1 h
  obtain ⟨v,rfl,q1⟩:=zpv hE n l hv.1 h1
  simp only at h
  obtain ⟨c,h2,h⟩:=zbE.1 h
  obtain ⟨u,rfl,q2⟩:=zpv hE n r hv.2 h2
  cases h
  exact ⟨_,rfl,by simp only [zfu,q1,q2,zbS]⟩
 | n+1,.call ..,a,hv,_=>hv.elim
 | n+1,.binary ..,a,hv,_=>hv.elim
 | n+1,.cond ..,a,hv,_=>hv.elim
 | n+1,.lett ..,a,hv,_=>hv.elim
theorem zvm {bud:Nat} {R:List (Nat×Nat)} {st st':RS} (hS:SR R st st') {e':VEnv} {F:IE} {d d':T} (h:Sb F d d'):∀ {e1:VEnv} {v:Val},ER R st.slots F e1 e'->zfu st.slots e1 d=some v->∃m v',zap bud m d' e' st'=some (some v',st')/\VR R st.slots v v':=by
 induction h with
 | @name E f t f' t' x s h =>
  intro e1 v hE hv
  obtain ⟨k,k',h1,h2,h3,_⟩:=zoo hE h
  simp only [zfu,h1,zbS,Option.join_eq_some_iff] at hv
  obtain ⟨o,o',g1,g2,g3⟩:=hS.get k k' h3
  rw [hv] at g1
  cases g1
  cases g3 with
  | @some _ v' g3=>exact ⟨1,v',by simp only [zap,h2,zbS,g2],g3⟩
 | @use E F f t x d d' h k ih =>
  intro e1 v hE hv
  obtain ⟨k,u,e2,h1,h2,h3,h4⟩:=zlc hE h
  simp only [zfu,h1,zbS,Option.join_eq_some_iff] at hv
  rw [hv] at h2
  cases h2
  exact ih h4 h3
 | @useB E F f t f' t' x d d' h k ih =>
  intro e1 v hE hv
  obtain ⟨k,u,e2,h1,h2,h3,h4⟩:=zlc hE h
  simp only [zfu,h1,zbS,Option.join_eq_some_iff] at hv
  rw [hv] at h2
  cases h2
  obtain ⟨m,v',q1,q2⟩:=ih h4 h3
  exact ⟨m+1,v',q1,q2⟩
 | int =>
  intro e1 v hE hv
  simp only [zfu] at hv
  split at hv
  ·rename_i hc
   cases hv
   exact ⟨1,_,by simp only [zap]; rw [if_pos hc],.num⟩
  ·cases hv
 | truth=>intro e1 v hE hv; cases hv; exact ⟨1,_,rfl,.truth⟩
 | side=>intro e1 v hE hv; cases hv; exact ⟨1,_,rfl,.side⟩
 | bracket h ih =>
  intro e1 v hE hv
  obtain ⟨m,v',q1,q2⟩:=ih hE hv
  exact ⟨m+1,v',q1,q2⟩
 | pair h k ih1 ih2 =>
  intro e1 v hE hv
  simp only [zfu] at hv
  obtain ⟨a,h1,hv⟩:=zbE.1 hv
  obtain ⟨b,h2,hv⟩:=zbE.1 hv
  cases hv
  obtain ⟨m1,v1,q1,q2⟩:=ih1 hE h1
  obtain ⟨m2,v2,q3,q4⟩:=ih2 hE h2
  refine ⟨max m1 m2+1,_,?_,.pair q2 q4⟩
  simp only [zap]
  rw [za3 (Nat.le_max_left m1 m2) q1]
  simp only [zbS]
  rw [za3 (Nat.le_max_right m1 m2) q3]
  rfl
 | fn h=>intro e1 v hE hv; cases hv; exact ⟨1,_,rfl,.clo hE h⟩
 | call=>intro e1 v hE hv; cases hv
 | binary=>intro e1 v hE hv; cases hv
 | cond=>intro e1 v hE hv; cases hv
 | lett=>intro e1 v hE hv; cases hv
 | inl=>intro e1 v hE hv; cases hv
def Too (bud:Nat) (R:List (Nat×Nat)) (t':T) (e':VEnv) (st':RS) (r:Option Val×RS):Prop:=∃m r' R2,zap bud m t' e' st'=some r'/\R ⊆ R2/\OR R2 r.2.slots r.1 r'.1/\SR R2 r.2 r'.2
theorem zx7 {R:List (Nat×Nat)} (s a b:Int) {st st':RS} (h:SR R st st'):OR R (zck s a b st).2.slots (zck s a b st).1 (zck s a b st').1/\SR R (zck s a b st).2 (zck s a b st').2:=by
 unfold zck
 split
 ·exact ⟨.some .num,h⟩
 split
 ·exact ⟨.some .num,h⟩
 split
 ·exact ⟨.some .num,h⟩
 split
 ·exact ⟨.some .truth,h⟩
 split
 ·exact ⟨.some .truth,h⟩
 split
 ·exact ⟨.none,h.fin' 1⟩
 ·exact ⟨.some .num,h⟩
theorem Sb.eval (bud:Nat):∀(n:Nat) {E:IE} {t t':T} {e e':VEnv} {st st':RS} {R:List (Nat×Nat)},Sb E t t'->ER R st.slots E e e'->SR R st st'->∀r,zap bud n t e st=some r->Too bud R t' e' st' r
 | 0,_,t,_,_,_,_,_,_,_,_,_=>by intro r hr; cases t <;> cases hr
 | n+1,E,t,t',e,e',st,st',R,h,hE,hS=>by
  have both:∀ {x y x' y':T},Sb E x x'->Sb E y y'->∀c,zdl bud n x y e st=some c->∃m c' R2,zdl bud m x' y' e' st'=some c'/\R ⊆ R2/\SR R2 c.2 c'.2/\((c.1=none/\c'.1=none)\/∃u v u' v',c.1=some (u,v)/\c'.1=some (u',v')/\VR R2 c.2.slots u u'/\VR R2 c.2.slots v v'):=by
   intro x y x' y' h k c hc
   unfold zdl at hc
   obtain ⟨⟨a1,a2⟩,h1,hc⟩:=zbE.1 hc
   obtain ⟨m1,⟨b1,b2⟩,R1,g1,i1,o1,s1⟩:=Sb.eval bud n h hE hS _ h1
   have p1:=SLe.pre (zcq bud n h1)
   simp only at o1 s1 p1
   cases o1 with
   | none =>
    cases hc
    refine ⟨m1,(none,b2),R1,?_,i1,s1,.inl ⟨rfl,rfl⟩⟩
    unfold zdl
    rw [g1]
    rfl
   | @some u u' v1 =>
    simp only at hc
    obtain ⟨⟨a3,a4⟩,h2,hc⟩:=zbE.1 hc
    obtain ⟨m2,⟨b3,b4⟩,R2,g2,i2,o2,s2⟩:=Sb.eval bud n k (hE.le i1 p1) s1 _ h2
    have p2:=SLe.pre (zcq bud n h2)
    simp only at o2 s2 p2
    have e1:=za3 (Nat.le_max_left m1 m2) g1
    have e2:=za3 (Nat.le_max_right m1 m2) g2
    cases o2 with
    | none =>
     cases hc
     refine ⟨max m1 m2,(none,b4),R2,?_,fun x hx=>i2 (i1 hx),s2,.inl ⟨rfl,rfl⟩⟩
     unfold zdl
     rw [e1]
     simp only [zbS]
     rw [e2]
     rfl
    | @some w w' v2 =>
     cases hc
     refine ⟨max m1 m2,(some (u',w'),b4),R2,?_,fun x hx=>i2 (i1 hx),s2,.inr ⟨_,_,_,_,rfl,rfl,v1.le i2 p2,v2⟩⟩
     unfold zdl
     rw [e1]
     simp only [zbS]
     rw [e2]
     rfl
  intro r hr
  cases h with
  | @name _ f t f' t' x s h =>
   obtain ⟨k,k',h1,h2,h3,_⟩:=zoo hE h
   obtain ⟨o,o',g1,g2,g3⟩:=hS.get k k' h3
   simp only [zap,h1,zbS,g1] at hr
   cases g3 with
   | none =>
    cases hr
    exact ⟨1,(none,{st' with fin:=1}),R,by simp only [zap,h2,zbS,g2],fun _ h=>h,.none,hS.fin' 1⟩
   | @some v v' hv =>
    cases hr
    exact ⟨1,(some v',st'),R,by simp only [zap,h2,zbS,g2],fun _ h=>h,.some hv,hS⟩
  | @use _ F f t x d d' h k =>
   obtain ⟨i,v,e1,h1,h2,h3,h4⟩:=zlc hE h
   simp only [zap,h1,zbS,h2] at hr
   cases hr
   obtain ⟨m,v',q1,q2⟩:=zvm (bud:=bud) hS k h4 h3
   exact ⟨m,_,R,q1,fun _ h=>h,.some q2,hS⟩
  | @useB _ F f t f' t' x d d' h k =>
   obtain ⟨i,v,e1,h1,h2,h3,h4⟩:=zlc hE h
   simp only [zap,h1,zbS,h2] at hr
   cases hr
   obtain ⟨m,v',q1,q2⟩:=zvm (bud:=bud) hS k h4 h3
   exact ⟨m+1,_,R,q1,fun _ h=>h,.some q2,hS⟩
  | int =>
   simp only [zap] at hr
   split at hr
   ·rename_i hc
    cases hr
    exact ⟨1,(some (.num _),st'),R,by simp only [zap]; rw [if_pos hc],fun _ h=>h,.some .num,hS⟩
   ·cases hr
  | truth=>cases hr; exact ⟨1,_,R,rfl,fun _ h=>h,.some .truth,hS⟩
  | side=>cases hr; exact ⟨1,_,R,rfl,fun _ h=>h,.some .side,hS⟩
  | fn h=>cases hr; exact ⟨1,_,R,rfl,fun _ h=>h,.some (.clo hE h),hS⟩
  | bracket h =>
   obtain ⟨m,r',R2,q⟩:=Sb.eval bud n h hE hS r hr
   exact ⟨m+1,r',R2,q⟩
  | @pair _ ff tt ff' tt' _ _ _ _ h k =>
   rw [zdy] at hr
   obtain ⟨⟨c3,c4⟩,hc,hr⟩:=zbE.1 hr
   obtain ⟨m,⟨c1,c2⟩,R2,g,i,s,hcase⟩:=both h k _ hc
   simp only at s hcase
   rcases hcase with ⟨q1,q2⟩ | ⟨u,v,u',v',q1,q2,q3,q4⟩
   ·subst q1 q2
    cases hr
    refine ⟨m+1,(none,c2),R2,?_,i,.none,s⟩
    rw [zdy,g]
    rfl
   ·subst q1 q2
    cases hr
    refine ⟨m+1,(some (.pair u' v'),c2),R2,?_,i,.some (.pair q3 q4),s⟩
    rw [zdy,g]
    rfl
  | @binary _ ff tt ff' tt' sg _ _ _ _ h k =>
   rw [zcy] at hr
   obtain ⟨⟨c3,c4⟩,hc,hr⟩:=zbE.1 hr
   obtain ⟨m,⟨c1,c2⟩,R2,g,i,s,hcase⟩:=both h k _ hc
   simp only at s hcase
   rcases hcase with ⟨q1,q2⟩ | ⟨u,v,u',v',q1,q2,q3,q4⟩
   ·subst q1 q2
    cases hr
    refine ⟨m+1,(none,c2),R2,?_,i,.none,s⟩
    rw [zcy,g]
    rfl
   ·subst q1 q2
    cases hr
    obtain ⟨z1,z2⟩:=zx7 sg (asNum u) (asNum v) s
    refine ⟨m+1,zck sg (asNum u') (asNum v') c2,R2,?_,i,?_,?_⟩
    ·rw [zcy,g]
     rfl
    ·rw [<-q3.asNum,<-q4.asNum]; exact z1
    ·rw [<-q3.asNum,<-q4.asNum]; exact z2
  | @call _ ff tt ff' tt' xx yy xx' yy' h k =>
   rw [zb7] at hr
   obtain ⟨⟨c3,c4⟩,hc,hr⟩:=zbE.1 hr
   obtain ⟨m,⟨c1,c2⟩,R2,g,i,s,hcase⟩:=both h k _ hc
   simp only at s hcase
   rcases hcase with ⟨q1,q2⟩ | ⟨u,v,u',v',q1,q2,q3,q4⟩
   ·subst q1 q2
    cases hr
    refine ⟨m+1,(none,c2),R2,?_,i,.none,s⟩
    rw [zb7,g]
    rfl
   ·subst q1 q2
    have step:∀ {M:Nat} {out:Option Val×RS},m<=M->zft bud M u' v' c2=some out->zap bud (M+1) (.call ff' tt' xx' yy') e' st'=some out:=fun {M out} hM ha=>by
     have gM:zdl bud M xx' yy' e' st'=some (some (u',v'),c2):=by
      unfold zdl at g ⊢
      obtain ⟨⟨a1,a2⟩,h1,g⟩:=zbE.1 g
      rw [za3 hM h1]
      cases a1 with
      | none=>cases g
      | some z =>
       simp only [zbS] at g ⊢
       obtain ⟨⟨a3,a4⟩,h2,g⟩:=zbE.1 g
       rw [za3 hM h2]
       exact g
     rw [zb7,gM]
     exact ha
    simp only at hr
    cases q3 with
    | num=>cases hr; exact ⟨m+1,_,R2,step (znL _) rfl,i,.none,s⟩
    | truth=>cases hr; exact ⟨m+1,_,R2,step (znL _) rfl,i,.none,s⟩
    | pair=>cases hr; exact ⟨m+1,_,R2,step (znL _) rfl,i,.none,s⟩
    | side =>
     cases hr
     refine ⟨m+1,_,R2,step (znL _) rfl,i,?_,s⟩
     cases q4 with
     | pair h k =>
      simp only [znw]
      split
      ·exact .some k
      ·exact .some h
     | num=>exact .none
     | truth=>exact .none
     | side=>exact .none
     | clo=>exact .none
    | @clo fr to fr' to' bat bat' bn bb bb' ee ee' EE hE' hb =>
     simp only [zft] at hr
     have hst:=s.steps
     split at hr
     ·rename_i q
      cases hr
      refine ⟨m+1,(none,{c2 with fin:=2}),R2,step (znL _) ?_,i,.none,s.fin' 2⟩
      simp only [zft]
      rw [<-hst,if_pos q]
     ·rename_i q
      have sp:=s.push (.some q4) (c4.steps+1)
      have hR:R2 ⊆ (c4.slots.length,c2.slots.length)::R2:=fun x hx=>List.mem_cons_of_mem _ hx
      obtain ⟨m2,r',R3,w1,w2,w3⟩:=Sb.eval bud n hb (e:=(bn,c4.slots.length)::ee) (e':=(bn,c2.slots.length)::ee') (.both (List.mem_cons_self) (fun _=>⟨v,by simp⟩) (hE'.le hR (SLe.pre (zgm _ _)))) sp r hr
      refine ⟨max m m2+1,r',R3,step (Nat.le_max_left _ _) ?_,fun x hx=>w2 (hR (i hx)),w3⟩
      simp only [zft]
      rw [<-hst,if_neg q]
      exact za3 (Nat.le_max_right _ _) w1
  | @cond _ ff tt ff' tt' _ _ _ cx cy cz h k j =>
   simp only [zap] at hr
   obtain ⟨⟨a1,a2⟩,h1,hr⟩:=zbE.1 hr
   obtain ⟨m1,⟨b1,b2⟩,R1,g1,i1,o1,s1⟩:=Sb.eval bud n h hE hS _ h1
   have p1:=SLe.pre (zcq bud n h1)
   simp only at o1 s1 p1
   cases o1 with
   | none =>
    cases hr
    refine ⟨m1+1,(none,b2),R1,?_,i1,.none,s1⟩
    simp only [zap]
    rw [g1]
    rfl
   | @some u u' hv =>
    simp only at hr
    split at hr
    ·rename_i q
     obtain ⟨m2,r',R2,g2,i2,w⟩:=Sb.eval bud n k (hE.le i1 p1) s1 r hr
     refine ⟨max m1 m2+1,r',R2,?_,fun x hx=>i2 (i1 hx),w⟩
     simp only [zap]
     rw [za3 (Nat.le_max_left m1 m2) g1]
     simp only [zbS]
     rw [if_pos (hv.isTrue.1 q)]
     exact za3 (Nat.le_max_right m1 m2) g2
    ·rename_i q
     obtain ⟨m2,r',R2,g2,i2,w⟩:=Sb.eval bud n j (hE.le i1 p1) s1 r hr
     refine ⟨max m1 m2+1,r',R2,?_,fun x hx=>i2 (i1 hx),w⟩
     simp only [zap]
     rw [za3 (Nat.le_max_left m1 m2) g1]
     simp only [zbS]
     rw [if_neg (fun z=>q (hv.isTrue.2 z))]
     exact za3 (Nat.le_max_right m1 m2) g2
  | @lett _ _ _ _ _ _ _ rc nn dx dx' dy dy' h k =>
   simp only [zap] at hr
   obtain ⟨⟨a1,a2⟩,h1,hr⟩:=zbE.1 hr
   have hR:R ⊆ (st.slots.length,st'.slots.length)::R:=fun x hx=>List.mem_cons_of_mem _ hx
   have hE0:=hE.le hR (SLe.pre (zgm st.slots none))
   have hE1:ER ((st.slots.length,st'.slots.length)::R) (st.slots ++ [none]) (if rc then .both nn false::E else E) (if rc then (nn,st.slots.length)::e else e) (if rc then (nn,st'.slots.length)::e' else e'):=by
    cases rc with
    | true=>exact .both List.mem_cons_self (fun h=>by cases h) hE0
    | false=>exact hE0
   have hS1:=hS.push .none st.steps
   obtain ⟨m1,⟨b1,b2⟩,R1,g1,i1,o1,s1⟩:=Sb.eval bud n h (st := {st with slots:=st.slots ++ [none],steps:=st.steps}) hE1 hS1 _ h1
   have e1:({st' with slots:=st'.slots ++ [none],steps:=st.steps}:RS) = {st' with slots:=st'.slots ++ [none]}:=by rw [hS.steps]
   rw [e1] at g1
   have p1:=zcq bud n h1
   have p1':=zcq bud m1 g1
   simp only at o1 s1 p1 p1'
   cases o1 with
   | none =>
    cases hr
    refine ⟨m1+1,(none,b2),R1,?_,fun x hx=>i1 (hR hx),.none,s1⟩
    simp only [zap]
    rw [g1]
    rfl
   | @some u u' hv =>
    simp only at hr
    have hn:a2.slots[st.slots.length]? = some none:=by
     obtain ⟨q,hq⟩:=p1
     rw [<-hq,List.getElem?_append_left (by simp)]
     simp
    have hm:=i1 (List.mem_cons_self (a:=(st.slots.length,st'.slots.length)) (l:=R))
    have s2:=s1.set hm hn hv
    have hle:SLe (st.slots ++ [none]) (a2.slots.set st.slots.length (some u)):=(SLe.pre p1).trans (SLe.set hn _)
    have hlt:=(zlE.1 hn).1
    obtain ⟨m2,r',R2,g2,i2,w⟩:=Sb.eval bud n k (e:=(nn,st.slots.length)::e) (e':=(nn,st'.slots.length)::e') (.both hm (fun _=>⟨u,by simp only; rw [List.getElem?_set_self hlt]⟩) (hE0.le i1 hle)) s2 r hr
    refine ⟨max m1 m2+1,r',R2,?_,fun x hx=>i2 (i1 (hR hx)),w⟩
    simp only [zap]
    rw [za3 (Nat.le_max_left m1 m2) g1]
    simp only [zbS]
    exact za3 (Nat.le_max_right m1 m2) g2
  | @inl _ ff tt bb nn d y y' h k =>
   simp only [zap] at hr
   obtain ⟨a,h1,hr⟩:=zbE.1 hr
   obtain ⟨v,rfl,hv⟩:=zpv (st := {st with slots:=st.slots ++ [none]}) (hE.le (fun _ h=>h) (SLe.pre (zgm st.slots none))) n d h h1
   simp only at hr hv
   have hset:(st.slots ++ [none]).set st.slots.length (some v)=st.slots ++ [some v]:=by
    rw [List.set_append,if_neg (by omega)]
    simp
   rw [hset] at hr
   have hn:(st.slots ++ [none])[st.slots.length]? = some none:=by simp
   have hle:SLe (st.slots ++ [none]) (st.slots ++ [some v]):=by
    have:=SLe.set hn (some v)
    rw [hset] at this
    exact this
   exact Sb.eval bud n k (st := {st with slots:=st.slots ++ [some v]}) (e:=(nn,st.slots.length)::e) (.left (by simp) (zku hle _ _ hv) (hE.le (fun _ h=>h) (SLe.pre (zgm _ _)))) (hS.pushL (some v)) r hr
theorem Sb.run {t t':T} (h:Sb [] t t') {n bud:Nat} {r:Int×Nat×List UInt8} (hr:runS n t bud=some r):∃m,runS m t' bud=some r:=by
 unfold runS at hr
 obtain ⟨⟨a1,a2⟩,h1,hr⟩:=zbE.1 hr
 obtain ⟨m,⟨b1,b2⟩,R2,g1,_,o1,s1⟩:=Sb.eval bud n h (st:=⟨[],0,0⟩) (st':=⟨[],0,0⟩) (R:=[]) .nil ⟨fun _ _ _ h=>(by cases h),fun _ _ _ h=>(by cases h),fun _ _ h=>(by cases h),rfl,rfl⟩ _ h1
 refine ⟨m,?_⟩
 unfold runS
 rw [g1]
 simp only [zbS] at hr ⊢
 simp only at o1
 have e1:=s1.steps
 have e2:=s1.fin
 simp only at e1 e2
 cases o1 with
 | none=>simp only at hr ⊢; rw [<-e1,<-e2]; exact hr
 | some hv=>simp only at hr ⊢; rw [<-e1,<-hv.write]; exact hr
end Inl
open Go
inductive GK where
 | expr | cmp | sum | term | call | atom
 | chF (p:Part) (g:List Int) (a:T)
 | caF (a:T)
def pk:Part->GK
 | .term=>.term
 | .call=>.call
inductive G (l:List UInt8):GK->List Tok->T->Prop
 | lett {tl tn te ti:Tok} {rcs ds bs:List Tok} {rc:Bool} {d b:T} (hl:tl.sort=3) (hrc:(rcs=[]/\rc=false)\/(∃r,rcs=[r]/\r.sort=4/\rc=true)) (hn:tn.sort=1) (he:te.sort=15) (hi:ti.sort=5) (hp:tn.fr<=tn.to/\tn.to<=l.length) (D:G l .expr ds d) (B:G l .expr bs b) :
   G l .expr (tl::(rcs++tn::te::(ds++ti::bs))) (.lett tl.fr b.to rc (zaw l tn.fr tn.to) tn.fr d b)
 | fn {tl tn ta:Tok} {bs:List Tok} {b:T} (hl:tl.sort=6) (hn:tn.sort=1) (ha:ta.sort=14) (hp:tn.fr<=tn.to/\tn.to<=l.length) (B:G l .expr bs b) :
   G l .expr (tl::tn::ta::bs) (.fn tl.fr b.to (zaw l tn.fr tn.to) tn.fr b)
 | cond {tl t1 t2:Tok} {cs xs ys:List Tok} {c x y:T} (hl:tl.sort=7) (h1:t1.sort=8) (h2:t2.sort=9) (C:G l .expr cs c) (X:G l .expr xs x) (Y:G l .expr ys y) :
   G l .expr (tl::(cs++t1::(xs++t2::ys))) (.cond tl.fr y.to c x y)
 | ecmp {ws:List Tok} {t:T} (h:G l .cmp ws t):G l .expr ws t
 | cmp1 {ws:List Tok} {t:T} (h:G l .sum ws t):G l .cmp ws t
 | cmp2 {w1 w2:List Tok} {sg:Tok} {x y:T} (X:G l .sum w1 x) (hs:sg.sort=23\/sg.sort=15) (Y:G l .sum w2 y):G l .cmp (w1++sg::w2) (.binary x.fr y.to sg.sort x y)
 | sum {w1 w2:List Tok} {x t:T} (X:G l .term w1 x) (C:G l (.chF .term [19,20] x) w2 t):G l .sum (w1++w2) t
 | term {w1 w2:List Tok} {x t:T} (X:G l .call w1 x) (C:G l (.chF .call [21,22] x) w2 t):G l .term (w1++w2) t
 | chN {p:Part} {g:List Int} {a:T}:G l (.chF p g a) [] a
 | chC {p:Part} {g:List Int} {a:T} {sg:Tok} {w1 w2:List Tok} {y t:T} (hs:sg.sort∈g) (Y:G l (pk p) w1 y) (C:G l (.chF p g (.binary a.fr y.to sg.sort a y)) w2 t):G l (.chF p g a) (sg::(w1++w2)) t
 | call {w1 w2:List Tok} {x t:T} (X:G l .atom w1 x) (C:G l (.caF x) w2 t):G l .call (w1++w2) t
 | caN {a:T}:G l (.caF a) [] a
 | caC {a:T} {w1 w2:List Tok} {y t:T} (Y:G l .atom w1 y) (C:G l (.caF (.call a.fr y.to a y)) w2 t):G l (.caF a) (w1++w2) t
 | leaf {tk:Tok} {x:T} (hb:zal tk.sort=true) (h16:tk.sort≠16) (h:zeq l tk=some x):G l .atom [tk] x
 | bracket {ta tc:Tok} {ws:List Tok} {x:T} (ha:ta.sort=16) (hc:tc.sort=17) (X:G l .expr ws x):G l .atom (ta::(ws ++ [tc])) (.bracket ta.fr tc.to x)
 | pair {ta tm tc:Tok} {w1 w2:List Tok} {x y:T} (ha:ta.sort=16) (hm:tm.sort=18) (hc:tc.sort=17) (X:G l .expr w1 x) (Y:G l .expr w2 y):G l .atom (ta::(w1++tm::(w2 ++ [tc]))) (.pair ta.fr tc.to x y)
def Seg (ts:List Tok) (i j:Nat) (ws:List Tok):Prop:=ts.drop i=ws++ts.drop j/\j=i+ws.length
theorem Seg.nil (ts:List Tok) (i:Nat):Seg ts i i []:=⟨rfl,rfl⟩
theorem Seg.append {ts:List Tok} {i j k:Nat} {a b:List Tok} (h:Seg ts i j a) (h':Seg ts j k b):Seg ts i k (a++b):=by
 refine ⟨by rw [h.1,h'.1,List.append_assoc],?_⟩
 have:=h.2
 have:=h'.2
 simp
 omega
theorem Seg.one {ts:List Tok} {i:Nat} {t:Tok} (h:ts[i]? = some t):Seg ts i (i+1) [t]:=by
 refine ⟨?_,rfl⟩
 obtain ⟨hi,rfl⟩:=zlE.1 h
 rw [List.drop_eq_getElem_cons hi]
 rfl
theorem Seg.cons {ts:List Tok} {i j:Nat} {t:Tok} {b:List Tok} (h:ts[i]? = some t) (h':Seg ts (i+1) j b):Seg ts i j (t::b):=(Seg.one h).append h'
def Der (l:List UInt8) (ts:List Tok) (k:GK) (s:PS) (r:T) (s':PS):Prop:=∃ws,Seg ts s.next s'.next ws/\G l k ws r
structure GAll (l:List UInt8) (ts:List Tok) (n:Nat):Prop where
 expr:∀ {s s':PS} {r:T},za6 l ts n s=some (r,s')->s'.stuck=false->Der l ts .expr s r s'
 lett:∀ {s s':PS} {r:T},letS l ts n s=some (r,s')->s'.stuck=false->Der l ts .expr s r s'
 fn:∀ {s s':PS} {r:T},funS l ts n s=some (r,s')->s'.stuck=false->Der l ts .expr s r s'
 cond:∀ {s s':PS} {r:T},zco l ts n s=some (r,s')->s'.stuck=false->Der l ts .expr s r s'
 cmp:∀ {s s':PS} {r:T},cmpS l ts n s=some (r,s')->s'.stuck=false->Der l ts .cmp s r s'
 sum:∀ {s s':PS} {r:T},sumS l ts n s=some (r,s')->s'.stuck=false->Der l ts .sum s r s'
 term:∀ {s s':PS} {r:T},zci l ts n s=some (r,s')->s'.stuck=false->Der l ts .term s r s'
 part:∀ {p:Part} {s s':PS} {r:T},zbc l ts n p s=some (r,s')->s'.stuck=false->Der l ts (pk p) s r s'
 chain:∀ {p:Part} {g:List Int} {s s':PS} {r:T},(∀x∈g,x≠0)->zbf l ts n p g s=some (r,s')->s'.stuck=false->∃w1 w2 x,Seg ts s.next s'.next (w1++w2)/\G l (pk p) w1 x/\G l (.chF p g x) w2 r
 chainFrom:∀ {p:Part} {g:List Int} {a:T} {s s':PS} {r:T},(∀x∈g,x≠0)->zan l ts n p g a s=some (r,s')->s'.stuck=false->Der l ts (.chF p g a) s r s'
 call:∀ {s s':PS} {r:T},zcc l ts n s=some (r,s')->s'.stuck=false->Der l ts .call s r s'
 callFrom:∀ {a:T} {s s':PS} {r:T},zar l ts n a s=some (r,s')->s'.stuck=false->Der l ts (.caF a) s r s'
 atom:∀ {s s':PS} {r:T},zbv l ts n s=some (r,s')->s'.stuck=false->Der l ts .atom s r s'
 bracket:∀ {s s':PS} {r:T},za0 l ts n s=some (r,s')->s'.stuck=false->Der l ts .atom s r s'
variable {l : List UInt8} {ts : List Tok}
theorem zg9 {s:Int} {st st':PS} {k:Nat} (h:zce ts s st=some (k,st')) (hs:st'.stuck=false) (h0:s≠0):∃t,ts[st.next]? = some t/\t.sort=s/\k=t.fr/\st'.next=st.next+1:=by
 have d1:=(ze3 h hs).1
 unfold zce at h
 rw [if_neg d1,zbS] at h
 split at h
 ·obtain ⟨⟨t1,s3⟩,h2,h⟩:=zbE.1 h
  cases h
  obtain ⟨q1,q2,q3⟩:=zbd h2 hs h0
  exact ⟨t1,q2,q3,rfl,q1⟩
 ·cases h
theorem zh1:∀ {g:List Int} {st st':PS} {k:Int},(∀x∈g,x≠0)->zao ts g st=some (k,st')->st'.stuck=false->(k=0/\st'=st)\/(k∈g/\∃t,ts[st.next]? = some t/\t.sort=k/\st'.next=st.next+1)
 | [],st,st',k,_,h,_=>by cases h; exact .inl ⟨rfl,rfl⟩
 | x::g,st,st',k,h0,h,hs=>by
  rw [zao] at h
  obtain ⟨t,ht,h⟩:=zbE.1 h
  split at h
  ·obtain ⟨⟨t1,s3⟩,h2,h⟩:=zbE.1 h
   cases h
   obtain ⟨q1,q2,q3⟩:=zbd h2 hs (h0 x (by simp))
   exact .inr ⟨by rw [q3]; simp,t1,q2,rfl,q1⟩
  ·rcases zh1 (fun y hy=>h0 y (by simp [hy])) h hs with q | ⟨q,r⟩
   ·exact .inl q
   ·exact .inr ⟨by simp [q],r⟩
theorem zmg {st st':PS} {x:List UInt8} {k:Nat} (h:zct l ts st=some ((x,k),st')) (hs:st'.stuck=false):∃t,ts[st.next]? = some t/\t.sort=1/\(t.fr<=t.to/\t.to<=l.length)/\x=zaw l t.fr t.to/\k=t.fr/\st'.next=st.next+1:=by
 unfold zct at h
 obtain ⟨⟨t,s3⟩,h1,h⟩:=zbE.1 h
 split at h
 ·rename_i hc
  cases h
  obtain ⟨a,b,c⟩:=zbd h1 hs (by decide)
  exact ⟨t,b,c,hc,rfl,rfl,a⟩
 ·cases h
theorem zvn (l:List UInt8) (ts:List Tok):∀n,GAll l ts n
 | 0=>by constructor <;> (intros; simp_all [za6,letS,funS,zco,cmpS,sumS,zci,zbc,zbf,zan,zcc,zar,zbv,za0])
 | n+1=>by
  have ih:=zvn l ts n
  have M:=zbp l ts n
  constructor
  case expr =>
   intro s s' r h hs
   rw [za6] at h
   obtain ⟨t,_,h⟩:=zbE.1 h
   split at h
   ·exact ih.lett h hs
   split at h
   ·exact ih.fn h hs
   split at h
   ·exact ih.cond h hs
   ·obtain ⟨ws,h1,h2⟩:=ih.cmp h hs
    exact ⟨ws,h1,.ecmp h2⟩
  case lett =>
   intro s s' r h hs
   simp only [letS,zbE,zsI,zpI,Prod.exists] at h
   obtain ⟨k,t1,h1,rc,t2,h2,bn,bat,t3,h3,c4,t4,h4,d,t5,h5,c6,t6,h6,x,t7,h7,t8,h8,rfl,rfl⟩:=h
   have a7:t7.stuck=false:=by rw [<-(zaz h8).1]; exact hs
   have a6:=(M.expr h7).1 a7
   have a5:=(zai h6).1 a6
   have a4:=(M.expr h5).1 a5
   have a3:=(zai h4).1 a4
   have a2:=(zbm h3).1 a3
   have a1:=(zak h2).1 a2
   obtain ⟨u1,b1,c1,rfl,n1⟩:=zg9 h1 a1 (by decide)
   obtain ⟨u3,b3,c3,p3,rfl,rfl,n3⟩:=zmg h3 a3
   obtain ⟨n4,b4,c4'⟩:=zbd h4 a4 (by decide)
   obtain ⟨ds,g5,D⟩:=ih.expr h5 a5
   obtain ⟨n6,b6,c6'⟩:=zbd h6 a6 (by decide)
   obtain ⟨bs,g7,B⟩:=ih.expr h7 a7
   have n8:=zc8 h8
   unfold Der
   rw [n8]
   have tail:Seg ts t3.next t7.next (c4::(ds++c6::bs)):=Seg.cons b4 (by rw [<-n4]; exact g5.append (Seg.cons b6 (by rw [<-n6]; exact g7)))
   rcases zh1 (by decide) h2 a2 with ⟨rfl,rfl⟩ | ⟨hk,u2,b2,c2,n2⟩
   ·refine ⟨_,Seg.cons b1 ?_,.lett (rcs:=[]) (rc:=false) c1 (.inl ⟨rfl,rfl⟩) c3 c4' c6' p3 D B⟩
    rw [<-n1]
    exact Seg.cons b3 (by rw [<-n3]; exact tail)
   ·obtain rfl:rc=4:=by simpa using hk
    refine ⟨_,Seg.cons b1 ?_,.lett (rcs:=[u2]) (rc:=true) c1 (.inr ⟨u2,rfl,c2,rfl⟩) c3 c4' c6' p3 D B⟩
    rw [<-n1]
    exact Seg.cons b2 (by rw [<-n2]; exact Seg.cons b3 (by rw [<-n3]; exact tail))
  case fn =>
   intro s s' r h hs
   simp only [funS,zbE,zsI,zpI,Prod.exists] at h
   obtain ⟨k,t1,h1,bn,bat,t3,h3,c4,t4,h4,d,t5,h5,t8,h8,rfl,rfl⟩:=h
   have a5:t5.stuck=false:=by rw [<-(zaz h8).1]; exact hs
   have a4:=(M.expr h5).1 a5
   have a3:=(zai h4).1 a4
   have a1:=(zbm h3).1 a3
   obtain ⟨u1,b1,c1,rfl,n1⟩:=zg9 h1 a1 (by decide)
   obtain ⟨u3,b3,c3,p3,rfl,rfl,n3⟩:=zmg h3 a3
   obtain ⟨n4,b4,c4'⟩:=zbd h4 a4 (by decide)
   obtain ⟨bs,g5,B⟩:=ih.expr h5 a5
   have n8:=zc8 h8
   unfold Der
   rw [n8]
   exact ⟨_,Seg.cons b1 (by rw [<-n1]; exact Seg.cons b3 (by rw [<-n3]; exact Seg.cons b4 (by rw [<-n4]; exact g5))),.fn c1 c3 c4' p3 B⟩
  case cond =>
   intro s s' r h hs
   simp only [zco,zbE,zsI,zpI,Prod.exists] at h
   obtain ⟨k,t1,h1,x,t2,h2,c3,t3,h3,y,t4,h4,c5,t5,h5,z,t6,h6,t8,h8,rfl,rfl⟩:=h
   have a6:t6.stuck=false:=by rw [<-(zaz h8).1]; exact hs
   have a5:=(M.expr h6).1 a6
   have a4:=(zai h5).1 a5
   have a3:=(M.expr h4).1 a4
   have a2:=(zai h3).1 a3
   have a1:=(M.expr h2).1 a2
   obtain ⟨u1,b1,c1,rfl,n1⟩:=zg9 h1 a1 (by decide)
   obtain ⟨cs,g2,C⟩:=ih.expr h2 a2
   obtain ⟨n3,b3,c3'⟩:=zbd h3 a3 (by decide)
   obtain ⟨xs,g4,X⟩:=ih.expr h4 a4
   obtain ⟨n5,b5,c5'⟩:=zbd h5 a5 (by decide)
   obtain ⟨ys,g6,Y⟩:=ih.expr h6 a6
   have n8:=zc8 h8
   unfold Der
   rw [n8]
   exact ⟨_,Seg.cons b1 (by rw [<-n1]; exact g2.append (Seg.cons b3 (by rw [<-n3]; exact g4.append (Seg.cons b5 (by rw [<-n5]; exact g6))))),.cond c1 c3' c5' C X Y⟩
  case cmp =>
   intro s s' r h hs
   simp only [cmpS,zbE,Prod.exists] at h
   obtain ⟨x,t1,h1,sg,t2,h2,h⟩:=h
   split at h
   ·rename_i h0
    cases h
    have a1:=(zak h2).1 hs
    obtain ⟨ws,g1,X⟩:=ih.sum h1 a1
    rcases zh1 (by decide) h2 hs with ⟨_,rfl⟩ | ⟨hk,_⟩
    ·exact ⟨ws,g1,.cmp1 X⟩
    ·rw [h0] at hk; simp at hk
   ·rename_i h0
    simp only [zbE,zsI,zpI,Prod.exists] at h
    obtain ⟨y,t3,h3,rfl,rfl⟩:=h
    have a2:=(M.sum h3).1 hs
    have a1:=(zak h2).1 a2
    obtain ⟨w1,g1,X⟩:=ih.sum h1 a1
    obtain ⟨w2,g3,Y⟩:=ih.sum h3 hs
    rcases zh1 (by decide) h2 a2 with ⟨q,_⟩ | ⟨hk,u,bu,rfl,nu⟩
    ·exact absurd q h0
    ·exact ⟨_,g1.append (Seg.cons bu (by rw [<-nu]; exact g3)),.cmp2 X (by simpa using hk) Y⟩
  case sum =>
   intro s s' r h hs
   rw [sumS] at h
   obtain ⟨w1,w2,x,g,X,C⟩:=ih.chain (by decide) h hs
   exact ⟨_,g,.sum X C⟩
  case term =>
   intro s s' r h hs
   rw [zci] at h
   obtain ⟨w1,w2,x,g,X,C⟩:=ih.chain (by decide) h hs
   exact ⟨_,g,.term X C⟩
  case part =>
   intro p s s' r h hs
   cases p with
   | term=>rw [zbc] at h; exact ih.term h hs
   | call=>rw [zbc] at h; exact ih.call h hs
  case chain =>
   intro p g s s' r hg h hs
   simp only [zbf,zbE,Prod.exists] at h
   obtain ⟨a,t1,h1,h2⟩:=h
   have a1:=(M.chainFrom h2).1 hs
   obtain ⟨w1,g1,X⟩:=ih.part h1 a1
   obtain ⟨w2,g2,C⟩:=ih.chainFrom hg h2 hs
   exact ⟨w1,w2,a,g1.append g2,X,C⟩
  case chainFrom =>
   intro p g a s s' r hg h hs
   simp only [zan,zbE,Prod.exists] at h
   obtain ⟨k,t1,h1,h⟩:=h
   split at h
   ·rename_i h0
    cases h
    rcases zh1 hg h1 hs with ⟨_,rfl⟩ | ⟨hk,_⟩
    ·exact ⟨[],Seg.nil _ _,.chN⟩
    ·rw [h0] at hk; exact absurd rfl (hg _ hk)
   ·rename_i h0
    simp only [zbE,Prod.exists] at h
    obtain ⟨c,t2,h2,h3⟩:=h
    have a2:=(M.chainFrom h3).1 hs
    have a1:=(M.part h2).1 a2
    obtain ⟨w1,g1,Y⟩:=ih.part h2 a2
    obtain ⟨w2,g2,C⟩:=ih.chainFrom hg h3 hs
    rcases zh1 hg h1 a1 with ⟨q,_⟩ | ⟨hk,u,bu,rfl,nu⟩
    ·exact absurd q h0
    ·exact ⟨_,Seg.cons bu (by rw [<-nu]; exact g1.append g2),.chC hk Y C⟩
  case call =>
   intro s s' r h hs
   simp only [zcc,zbE,Prod.exists] at h
   obtain ⟨a,t1,h1,h2⟩:=h
   have a1:=(M.callFrom h2).1 hs
   obtain ⟨w1,g1,X⟩:=ih.atom h1 a1
   obtain ⟨w2,g2,C⟩:=ih.callFrom h2 hs
   exact ⟨_,g1.append g2,.call X C⟩
  case callFrom =>
   intro a s s' r h hs
   simp only [zar,zbE] at h
   obtain ⟨t,ht,h⟩:=h
   split at h
   ·simp only [zbE,Prod.exists] at h
    obtain ⟨c,t3,h2,h3⟩:=h
    have a2:=(M.callFrom h3).1 hs
    obtain ⟨w1,g1,Y⟩:=ih.atom h2 a2
    obtain ⟨w2,g2,C⟩:=ih.callFrom h3 hs
    exact ⟨_,g1.append g2,.caC Y C⟩
   ·cases h
    exact ⟨[],Seg.nil _ _,.caN⟩
  case atom =>
   intro s s' r h hs
   simp only [zbv,zbE] at h
   obtain ⟨t,ht,h⟩:=h
   split at h
   ·exact ih.bracket h hs
   split at h
   ·rename_i h16 hb
    simp only [zbE,zsI,zpI,Prod.exists] at h
    obtain ⟨c,t3,h2,x,h3,rfl,rfl⟩:=h
    have h0:t.sort≠0:=by simp only [zal,decide_eq_true_eq] at hb; omega
    have hst:=(zai h2).1 hs
    obtain ⟨n1,q1,q2⟩:=zbd h2 hs h0
    have ht':ts[s.next]? = some t:=by
     unfold tokS at ht
     rw [hst] at ht
     simpa using ht
    exact ⟨[t],by rw [n1]; exact Seg.one ht',.leaf hb h16 h3⟩
   ·simp only [zbE,zsI,zpI] at h
    obtain ⟨_,h2,rfl,rfl⟩:=h
    rw [(zcm h2).1] at hs
    cases hs
  case bracket =>
   intro s s' r h hs
   simp only [za0,zbE,Prod.exists] at h
   obtain ⟨k,t1,h1,x,t2,h2,sg,t3,h3,h⟩:=h
   split at h
   ·rename_i h18
    simp only [zbE,zsI,zpI,Prod.exists] at h
    obtain ⟨y,t4,h4,c5,t5,h5,t6,h6,rfl,rfl⟩:=h
    have a5:t5.stuck=false:=by rw [<-(zaz h6).1]; exact hs
    have a4:=(zai h5).1 a5
    have a3:=(M.expr h4).1 a4
    have a2:=(zak h3).1 a3
    have a1:=(M.expr h2).1 a2
    obtain ⟨u1,b1,c1,rfl,n1⟩:=zg9 h1 a1 (by decide)
    obtain ⟨w1,g2,X⟩:=ih.expr h2 a2
    obtain ⟨w2,g4,Y⟩:=ih.expr h4 a4
    obtain ⟨n5,b5,c5'⟩:=zbd h5 a5 (by decide)
    have n6:=zc8 h6
    unfold Der
    rw [n6]
    rcases zh1 (by decide) h3 a3 with ⟨q,_⟩ | ⟨_,u,bu,cu,nu⟩
    ·rw [h18] at q; cases q
    ·exact ⟨_,Seg.cons b1 (by rw [<-n1]; exact g2.append (Seg.cons bu (by rw [<-nu]; exact g4.append (by rw [n5]; exact Seg.one b5)))),.pair c1 (by rw [cu]; exact h18) c5' X Y⟩
   ·rename_i h18
    simp only [zbE,zsI,zpI,Prod.exists] at h
    obtain ⟨c5,t5,h5,t6,h6,rfl,rfl⟩:=h
    have a5:t5.stuck=false:=by rw [<-(zaz h6).1]; exact hs
    have a3:=(zai h5).1 a5
    have a2:=(zak h3).1 a3
    have a1:=(M.expr h2).1 a2
    obtain ⟨u1,b1,c1,rfl,n1⟩:=zg9 h1 a1 (by decide)
    obtain ⟨w1,g2,X⟩:=ih.expr h2 a2
    obtain ⟨n5,b5,c5'⟩:=zbd h5 a5 (by decide)
    have n6:=zc8 h6
    unfold Der
    rw [n6]
    rcases zh1 (by decide) h3 a3 with ⟨_,rfl⟩ | ⟨q,_⟩
    ·exact ⟨_,Seg.cons b1 (by rw [<-n1]; exact g2.append (by rw [n5]; exact Seg.one b5)),.bracket c1 c5' X⟩
    ·exact absurd (by simpa using q) h18
end Go.Proofs.YtckhafpejefbbaaGreatDoor.Tw 
namespace Go.Proofs.YtckhafpejefbbaaGreatDoor.Tw
open Go
def runK (l:List UInt8) (ts:List Tok):GK->Nat->PS->Option (T×PS)
 | .expr,n,st=>za6 l ts n st
 | .cmp,n,st=>cmpS l ts n st
 | .sum,n,st=>sumS l ts n st
 | .term,n,st=>zci l ts n st
 | .call,n,st=>zcc l ts n st
 | .atom,n,st=>zbv l ts n st
 | .chF p g a,n,st=>zan l ts n p g a st
 | .caF a,n,st=>zar l ts n a st
def fol:GK->Int->Prop
 | .expr,s=>zbt s=true
 | .cmp,s=>zbt s=true
 | .sum,s=>s ∉ [19,20,21,22]/\zal s=false
 | .term,s=>s ∉ [21,22]/\zal s=false
 | .call,s=>zal s=false
 | .atom,_=>True
 | .chF p g _,s=>s∉g/\(match p with | .term=>s ∉ [21,22]/\zal s=false | .call=>zal s=false)
 | .caF _,s=>zal s=false
def okK:GK->Prop
 | .chF p g _=>∀x∈g,x≠0/\fol (pk p) x
 | _=>True
theorem zx8 {p:Part} {g:List Int} {a:T} {s:Int} (h:fol (.chF p g a) s):fol (pk p) s:=by cases p <;> exact h.2
theorem zvo {s:Int} (h:zbt s=true):s ∉ [19,20,21,22]/\zal s=false:=by
 simp [zbt] at h
 simp [zal]
 omega
theorem zld {α : Type} {ts:List α} {k:Nat} {x : α} {r:List α} (h:ts.drop k=x::r):ts[k]? = some x/\ts.drop (k+1)=r:=by
 have e:ts[k]? = (ts.drop k)[0]? := by simp
 refine ⟨by rw [e,h]; rfl,?_⟩
 rw [<-List.drop_drop,h]
 rfl
def hdK:GK->List Tok->Prop
 | .expr,_=>True
 | .chF _ g _,ws=>ws=[]\/∃t r,ws=t::r/\t.sort∈g
 | .caF _,ws=>ws=[]\/∃t r,ws=t::r/\zal t.sort=true
 | _,ws=>∃t r,ws=t::r/\zal t.sort=true
theorem zq5 {ws w2:List Tok} (h:∃t r,ws=t::r/\zal t.sort=true):∃t r,ws++w2=t::r/\zal t.sort=true:=by
 obtain ⟨t,r,rfl,h⟩:=h
 exact ⟨t,r++w2,rfl,h⟩
theorem G.head {l:List UInt8} {k:GK} {ws:List Tok} {t:T} (h:G l k ws t):hdK k ws:=by
 induction h with
 | lett=>trivial
 | fn=>trivial
 | cond=>trivial
 | ecmp=>trivial
 | cmp1 _ ih=>exact ih
 | cmp2 _ _ _ ih _=>exact zq5 ih
 | sum _ _ ih _=>exact zq5 ih
 | term _ _ ih _=>exact zq5 ih
 | chN=>exact .inl rfl
 | chC hs=>exact .inr ⟨_,_,rfl,hs⟩
 | call _ _ ih _=>exact zq5 ih
 | caN=>exact .inl rfl
 | caC _ _ ih _=>exact .inr (zq5 ih)
 | leaf hb=>exact ⟨_,_,rfl,hb⟩
 | bracket ha=>exact ⟨_,_,rfl,by rw [ha]; rfl⟩
 | pair ha=>exact ⟨_,_,rfl,by rw [ha]; rfl⟩
section
variable {l : List UInt8} {ts : List Tok}
theorem zfp {st:PS} {x:Tok} {r:List Tok} (hs:st.stuck=false) (h:ts.drop st.next=x::r):tokS ts st=some x:=by
 unfold tokS
 rw [hs]
 simpa using (zld h).1
theorem zg0 {s:Int} {st st':PS} {t x:Tok} {r:List Tok} (hd:ts.drop st.next=x::r) (h:zbe ts s st=some (t,st')) (hs:st'.stuck=false) (h0:s≠0):t=x/\ts.drop st'.next=r:=by
 obtain ⟨a,b,c⟩:=zbd h hs h0
 obtain ⟨d,e⟩:=zld hd
 rw [d] at b
 cases b
 rw [a]
 exact ⟨rfl,e⟩
theorem zkv {s:Int} {st st':PS} {k:Nat} {x:Tok} {r:List Tok} (hd:ts.drop st.next=x::r) (h:zce ts s st=some (k,st')) (hs:st'.stuck=false) (h0:s≠0):k=x.fr/\ts.drop st'.next=r:=by
 obtain ⟨t,a,_,rfl,b⟩:=zg9 h hs h0
 obtain ⟨d,e⟩:=zld hd
 rw [d] at a
 cases a
 rw [b]
 exact ⟨rfl,e⟩
theorem zsl {st st':PS} {y:List UInt8} {k:Nat} {x:Tok} {r:List Tok} (hd:ts.drop st.next=x::r) (h:zct l ts st=some ((y,k),st')) (hs:st'.stuck=false):y=zaw l x.fr x.to/\k=x.fr/\ts.drop st'.next=r:=by
 obtain ⟨t,a,_,_,rfl,rfl,b⟩:=zmg h hs
 obtain ⟨d,e⟩:=zld hd
 rw [d] at a
 cases a
 rw [b]
 exact ⟨rfl,rfl,e⟩
theorem zq6:∀ {g:List Int} {st st':PS} {k:Int} {x:Tok},tokS ts st=some x->x.sort∉g->zao ts g st=some (k,st')->k=0/\st'=st
 | [],st,st',k,x,_,_,h=>by cases h; exact ⟨rfl,rfl⟩
 | y::g,st,st',k,x,hx,hg,h=>by
  rw [zao,hx,zbS,if_neg (fun e=>hg (by simp [e]))] at h
  exact zq6 hx (fun e=>hg (by simp [e])) h
theorem znj:∀ {g:List Int} {st st':PS} {k:Int} {x:Tok} {r:List Tok},st.stuck=false->ts.drop st.next=x::r->(∀y∈g,y≠0)->x.sort∈g->zao ts g st=some (k,st')->st'.stuck=false->k=x.sort/\ts.drop st'.next=r
 | [],st,st',k,x,r,_,_,_,hg,h,_=>by cases hg
 | y::g,st,st',k,x,r,hst,hx,h0,hg,h,hs=>by
  rw [zao,zfp hst hx,zbS] at h
  split at h
  ·obtain ⟨⟨t1,s3⟩,h2,h⟩:=zbE.1 h
   cases h
   obtain ⟨rfl,q⟩:=zg0 hx h2 hs (h0 y (by simp))
   exact ⟨rfl,q⟩
  ·rename_i hne
   exact znj hst hx (fun z hz=>h0 z (by simp [hz])) (by simpa [hne] using hg) h hs
end
def Mk (l:List UInt8) (ts:List Tok) (k:GK) (ws:List Tok) (t:T):Prop :=
 ∀ {n:Nat} {st st':PS} {r:T} {u:Tok} {rest:List Tok},okK k->fol k u.sort->ts.drop st.next=ws++u::rest->st.stuck=false->runK l ts k n st=some (r,st')->st'.stuck=false->r=t/\ts.drop st'.next=u::rest
theorem zq7 {l:List UInt8} {p:Part} {g:List Int} {a:T} {w2:List Tok} {t:T} (h:G l (.chF p g a) w2 t) (hg:∀x∈g,x≠0/\fol (pk p) x) {u:Tok} {rest:List Tok} (hu:fol (pk p) u.sort):∃v r,w2++u::rest=v::r/\fol (pk p) v.sort:=by
 rcases h.head with rfl | ⟨v,r,rfl,hv⟩
 ·exact ⟨u,rest,rfl,hu⟩
 ·exact ⟨v,r++u::rest,rfl,(hg _ hv).2⟩
theorem zvp {l:List UInt8} {a:T} {w2:List Tok} {t:T} (h:G l (.caF a) w2 t) {u:Tok} {rest:List Tok}:∃v r,w2++u::rest=v::r:=by
 rcases h.head with rfl | ⟨v,r,rfl,hv⟩
 ·exact ⟨u,rest,rfl⟩
 ·exact ⟨v,r++u::rest,rfl⟩
theorem g19:∀x∈([19,20]:List Int),x≠0/\fol (pk .term) x:=by
 intro x hx
 simp only [zmC,List.not_mem_nil,or_false] at hx
 rcases hx with rfl | rfl <;> exact ⟨by decide,by decide,by decide⟩
theorem g21:∀x∈([21,22]:List Int),x≠0/\fol (pk .call) x:=by
 intro x hx
 simp only [zmC,List.not_mem_nil,or_false] at hx
 rcases hx with rfl | rfl <;> exact ⟨by decide,show zal _=false by decide⟩
theorem yfq (l:List UInt8) (ts:List Tok) {k:GK} {ws:List Tok} {t:T} (h:G l k ws t):Mk l ts k ws t:=by
 induction h with
 | @lett tl tn te ti rcs ds bs rc d b hl hrc hn he hi hp D B ihD ihB =>
  intro n st st' r u rest _ hu hd hst h hs
  simp only [List.cons_append,List.append_assoc] at hd
  cases n with
  | zero=>simp [runK,za6] at h
  | succ n =>
  have M:=zbp l ts
  simp only [runK] at h
  rw [za6,zfp hst hd,zbS,if_pos hl] at h
  cases n with
  | zero=>simp [letS] at h
  | succ n =>
  simp only [letS,zbE,zsI,zpI,Prod.exists] at h
  obtain ⟨k,t1,h1,rcv,t2,h2,bn,bat,t3,h3,c4,t4,h4,d',t5,h5,c6,t6,h6,x,t7,h7,t8,h8,rfl,rfl⟩:=h
  have a7:t7.stuck=false:=by rw [<-(zaz h8).1]; exact hs
  have a6:=((M n).expr h7).1 a7
  have a5:=(zai h6).1 a6
  have a4:=((M n).expr h5).1 a5
  have a3:=(zai h4).1 a4
  have a2:=(zbm h3).1 a3
  have a1:=(zak h2).1 a2
  obtain ⟨rfl,d1⟩:=zkv hd h1 a1 (by decide)
  have key:rcv=(if rc then 4 else 0)/\ts.drop t2.next=tn::te::(ds++ti::(bs++u::rest)):=by
   rcases hrc with ⟨rfl,rfl⟩ | ⟨r4,rfl,h4',rfl⟩
   ·obtain ⟨rfl,rfl⟩:=zq6 (zfp a1 d1) (by rw [hn]; decide) h2
    exact ⟨rfl,d1⟩
   ·obtain ⟨rfl,q⟩:=znj a1 d1 (by decide) (by rw [h4']; decide) h2 a2
    exact ⟨h4',q⟩
  obtain ⟨rfl,d2⟩:=key
  obtain ⟨rfl,rfl,d3⟩:=zsl d2 h3 a3
  obtain ⟨rfl,d4⟩:=zg0 d3 h4 a4 (by decide)
  obtain ⟨rfl,d5⟩:=ihD trivial (show zbt ti.sort=true by rw [hi]; decide) d4 a4 (n:=n) h5 a5
  obtain ⟨rfl,d6⟩:=zg0 d5 h6 a6 (by decide)
  obtain ⟨rfl,d7⟩:=ihB trivial hu d6 a6 (n:=n) h7 a7
  refine ⟨?_,by rw [zc8 h8]; exact d7⟩
  cases rc <;> rfl
 | @fn tl tn ta bs b hl hn ha hp B ihB =>
  intro n st st' r u rest _ hu hd hst h hs
  simp only [List.cons_append] at hd
  cases n with
  | zero=>simp [runK,za6] at h
  | succ n =>
  have M:=zbp l ts
  simp only [runK] at h
  rw [za6,zfp hst hd,zbS,if_neg (by rw [hl]; decide),if_pos hl] at h
  cases n with
  | zero=>simp [funS] at h
  | succ n =>
  simp only [funS,zbE,zsI,zpI,Prod.exists] at h
  obtain ⟨k,t1,h1,bn,bat,t3,h3,c4,t4,h4,x,t7,h7,t8,h8,rfl,rfl⟩:=h
  have a7:t7.stuck=false:=by rw [<-(zaz h8).1]; exact hs
  have a4:=((M n).expr h7).1 a7
  have a3:=(zai h4).1 a4
  have a1:=(zbm h3).1 a3
  obtain ⟨rfl,d1⟩:=zkv hd h1 a1 (by decide)
  obtain ⟨rfl,rfl,d3⟩:=zsl d1 h3 a3
  obtain ⟨rfl,d4⟩:=zg0 d3 h4 a4 (by decide)
  obtain ⟨rfl,d7⟩:=ihB trivial hu d4 a4 (n:=n) h7 a7
  exact ⟨rfl,by rw [zc8 h8]; exact d7⟩
 | @cond tl u1 u2 cs xs ys c x y hl h1' h2' C X Y ihC ihX ihY =>
  intro n st st' r u rest _ hu hd hst h hs
  simp only [List.cons_append,List.append_assoc] at hd
  cases n with
  | zero=>simp [runK,za6] at h
  | succ n =>
  have M:=zbp l ts
  simp only [runK] at h
  rw [za6,zfp hst hd,zbS,if_neg (by rw [hl]; decide),if_neg (by rw [hl]; decide),if_pos hl] at h
  cases n with
  | zero=>simp [zco] at h
  | succ n =>
  simp only [zco,zbE,zsI,zpI,Prod.exists] at h
  obtain ⟨k,t1,h1,x',t2,h2,c3,t3,h3,y',t4,h4,c5,t5,h5,z',t6,h6,t8,h8,rfl,rfl⟩:=h
  have a6:t6.stuck=false:=by rw [<-(zaz h8).1]; exact hs
  have a5:=((M n).expr h6).1 a6
  have a4:=(zai h5).1 a5
  have a3:=((M n).expr h4).1 a4
  have a2:=(zai h3).1 a3
  have a1:=((M n).expr h2).1 a2
  obtain ⟨rfl,d1⟩:=zkv hd h1 a1 (by decide)
  obtain ⟨rfl,d2⟩:=ihC trivial (show zbt u1.sort=true by rw [h1']; decide) d1 a1 (n:=n) h2 a2
  obtain ⟨rfl,d3⟩:=zg0 d2 h3 a3 (by decide)
  obtain ⟨rfl,d4⟩:=ihX trivial (show zbt u2.sort=true by rw [h2']; decide) d3 a3 (n:=n) h4 a4
  obtain ⟨rfl,d5⟩:=zg0 d4 h5 a5 (by decide)
  obtain ⟨rfl,d6⟩:=ihY trivial hu d5 a5 (n:=n) h6 a6
  exact ⟨rfl,by rw [zc8 h8]; exact d6⟩
 | @ecmp ws t h ih =>
  intro n st st' r u rest _ hu hd hst hr hs
  cases n with
  | zero=>simp [runK,za6] at hr
  | succ n =>
  obtain ⟨v,w,rfl,hv⟩:=h.head
  have hv':v.sort≠3/\v.sort≠6/\v.sort≠7:=by
   simp only [zal,decide_eq_true_eq] at hv
   omega
  simp only [runK] at hr
  rw [za6,zfp hst hd,zbS,if_neg hv'.1,if_neg hv'.2.1,if_neg hv'.2.2] at hr
  exact ih trivial hu hd hst (n:=n) hr hs
 | @cmp1 ws t h ih =>
  intro n st st' r u rest _ hu hd hst hr hs
  cases n with
  | zero=>simp [runK,cmpS] at hr
  | succ n =>
  simp only [runK,cmpS,zbE,Prod.exists] at hr
  obtain ⟨x,t1,h1,sg,t2,h2,hr⟩:=hr
  have a2:t2.stuck=false:=by
   split at hr
   ·cases hr; exact hs
   ·simp only [zbE,zsI,zpI,Prod.exists] at hr
    obtain ⟨y,t3,h3,rfl,rfl⟩:=hr
    exact ((zbp l ts n).sum h3).1 hs
  have a1:=(zak h2).1 a2
  obtain ⟨rfl,d1⟩:=ih trivial (zvo hu) hd hst (n:=n) h1 a1
  have hns:u.sort∉([23,15]:List Int):=by
   have hu':zbt u.sort=true:=hu
   simp [zbt] at hu'
   simp
   omega
  obtain ⟨rfl,rfl⟩:=zq6 (zfp a1 d1) hns h2
  rw [if_pos rfl] at hr
  cases hr
  exact ⟨rfl,d1⟩
 | @cmp2 w1 w2 sg x y X hsg Y ihX ihY =>
  intro n st st' r u rest _ hu hd hst hr hs
  simp only [List.append_assoc,List.cons_append] at hd
  cases n with
  | zero=>simp [runK,cmpS] at hr
  | succ n =>
  simp only [runK,cmpS,zbE,Prod.exists] at hr
  obtain ⟨x',t1,h1,sg',t2,h2,hr⟩:=hr
  have a2:t2.stuck=false:=by
   split at hr
   ·cases hr; exact hs
   ·simp only [zbE,zsI,zpI,Prod.exists] at hr
    obtain ⟨y,t3,h3,rfl,rfl⟩:=hr
    exact ((zbp l ts n).sum h3).1 hs
  have a1:=(zak h2).1 a2
  obtain ⟨rfl,d1⟩:=ihX trivial (show fol .sum sg.sort by rcases hsg with e | e <;> rw [e] <;> exact ⟨by decide,by decide⟩) hd hst (n:=n) h1 a1
  obtain ⟨rfl,d2⟩:=znj a1 d1 (by decide) (by simpa using hsg) h2 a2
  rw [if_neg (by rcases hsg with e | e <;> rw [e] <;> decide)] at hr
  simp only [zbE,zsI,zpI,Prod.exists] at hr
  obtain ⟨y',t3,h3,rfl,rfl⟩:=hr
  obtain ⟨rfl,d3⟩:=ihY trivial (zvo hu) d2 a2 (n:=n) h3 hs
  exact ⟨rfl,d3⟩
 | @sum w1 w2 x t X C ihX ihC =>
  intro n st st' r u rest _ hu hd hst hr hs
  rw [List.append_assoc] at hd
  cases n with
  | zero=>simp [runK,sumS] at hr
  | succ n =>
  simp only [runK,sumS] at hr
  cases n with
  | zero=>simp [zbf] at hr
  | succ n =>
  simp only [zbf,zbE,Prod.exists] at hr
  obtain ⟨x',t1,h1,h2⟩:=hr
  have a1:=((zbp l ts n).chainFrom h2).1 hs
  have hu2:fol (.chF .term [19,20] x) u.sort:=⟨fun h=>hu.1 (by simp at h ⊢; omega),fun h=>hu.1 (by simp at h ⊢; omega),hu.2⟩
  obtain ⟨v,w,hv,hvf⟩:=zq7 C g19 (rest:=rest) (zx8 hu2)
  rw [hv] at hd
  cases n with
  | zero=>simp [zbc] at h1
  | succ n =>
  rw [zbc] at h1
  obtain ⟨rfl,d1⟩:=ihX trivial hvf hd hst (n:=n) h1 a1
  rw [<-hv] at d1
  exact ihC g19 hu2 d1 a1 (n:=n+1) h2 hs
 | @term w1 w2 x t X C ihX ihC =>
  intro n st st' r u rest _ hu hd hst hr hs
  rw [List.append_assoc] at hd
  cases n with
  | zero=>simp [runK,zci] at hr
  | succ n =>
  simp only [runK,zci] at hr
  cases n with
  | zero=>simp [zbf] at hr
  | succ n =>
  simp only [zbf,zbE,Prod.exists] at hr
  obtain ⟨x',t1,h1,h2⟩:=hr
  have a1:=((zbp l ts n).chainFrom h2).1 hs
  have hu2:fol (.chF .call [21,22] x) u.sort:=⟨hu.1,hu.2⟩
  obtain ⟨v,w,hv,hvf⟩:=zq7 C g21 (rest:=rest) (zx8 hu2)
  rw [hv] at hd
  cases n with
  | zero=>simp [zbc] at h1
  | succ n =>
  rw [zbc] at h1
  obtain ⟨rfl,d1⟩:=ihX trivial hvf hd hst (n:=n) h1 a1
  rw [<-hv] at d1
  exact ihC g21 hu2 d1 a1 (n:=n+1) h2 hs
 | @chN p g a =>
  intro n st st' r u rest _ hu hd hst hr hs
  cases n with
  | zero=>simp [runK,zan] at hr
  | succ n =>
  simp only [runK,zan,zbE,Prod.exists] at hr
  obtain ⟨k,t1,h1,hr⟩:=hr
  obtain ⟨rfl,rfl⟩:=zq6 (zfp hst hd) hu.1 h1
  rw [if_pos rfl] at hr
  cases hr
  exact ⟨rfl,hd⟩
 | @chC p g a sg w1 w2 y t hsg Y C ihY ihC =>
  intro n st st' r u rest hok hu hd hst hr hs
  simp only [List.cons_append,List.append_assoc] at hd
  cases n with
  | zero=>simp [runK,zan] at hr
  | succ n =>
  simp only [runK,zan,zbE,Prod.exists] at hr
  obtain ⟨k,t1,h1,hr⟩:=hr
  have a1:t1.stuck=false:=by
   split at hr
   ·cases hr; exact hs
   ·simp only [zbE,Prod.exists] at hr
    obtain ⟨c,t2,h2,h3⟩:=hr
    exact ((zbp l ts n).part h2).1 (((zbp l ts n).chainFrom h3).1 hs)
  obtain ⟨rfl,d1⟩:=znj hst hd (fun y hy=>(hok y hy).1) hsg h1 a1
  rw [if_neg (hok _ hsg).1] at hr
  simp only [zbE,Prod.exists] at hr
  obtain ⟨c,t2,h2,h3⟩:=hr
  have a2:=((zbp l ts n).chainFrom h3).1 hs
  obtain ⟨v,w,hv,hvf⟩:=zq7 C hok (rest:=rest) (zx8 hu)
  rw [hv] at d1
  cases n with
  | zero=>simp [zbc] at h2
  | succ n =>
  have h2':runK l ts (pk p) n t1=some (c,t2):=by
   cases p with
   | term=>rw [zbc] at h2; exact h2
   | call=>rw [zbc] at h2; exact h2
  obtain ⟨rfl,d2⟩:=ihY (by cases p <;> trivial) hvf d1 a1 h2' a2
  rw [<-hv] at d2
  exact ihC hok (by cases p <;> exact hu) d2 a2 (n:=n+1) h3 hs
 | @call w1 w2 x t X C ihX ihC =>
  intro n st st' r u rest _ hu hd hst hr hs
  rw [List.append_assoc] at hd
  cases n with
  | zero=>simp [runK,zcc] at hr
  | succ n =>
  simp only [runK,zcc,zbE,Prod.exists] at hr
  obtain ⟨x',t1,h1,h2⟩:=hr
  have a1:=((zbp l ts n).callFrom h2).1 hs
  obtain ⟨v,w,hv⟩:=zvp C (u:=u) (rest:=rest)
  rw [hv] at hd
  obtain ⟨rfl,d1⟩:=ihX trivial trivial hd hst (n:=n) h1 a1
  rw [<-hv] at d1
  exact ihC trivial hu d1 a1 (n:=n) h2 hs
 | @caN a =>
  intro n st st' r u rest _ hu hd hst hr hs
  cases n with
  | zero=>simp [runK,zar] at hr
  | succ n =>
  have hu':zal u.sort=false:=hu
  simp only [runK] at hr
  rw [zar,zfp hst hd,zbS,if_neg (by rw [hu']; decide)] at hr
  cases hr
  exact ⟨rfl,hd⟩
 | @caC a w1 w2 y t Y C ihY ihC =>
  intro n st st' r u rest _ hu hd hst hr hs
  rw [List.append_assoc] at hd
  cases n with
  | zero=>simp [runK,zar] at hr
  | succ n =>
  obtain ⟨v0,w0,hv0,hb0⟩:=Y.head
  have hd0:=hd
  rw [hv0] at hd0
  simp only [runK] at hr
  rw [zar,zfp hst hd0,zbS,if_pos hb0] at hr
  simp only [zbE,Prod.exists] at hr
  obtain ⟨c,t3,h2,h3⟩:=hr
  have a2:=((zbp l ts n).callFrom h3).1 hs
  obtain ⟨v,w,hv⟩:=zvp C (u:=u) (rest:=rest)
  rw [hv] at hd
  obtain ⟨rfl,d1⟩:=ihY trivial trivial hd hst (n:=n) h2 a2
  rw [<-hv] at d1
  exact ihC trivial hu d1 a2 (n:=n) h3 hs
 | @leaf tk x hb h16 hx =>
  intro n st st' r u rest _ hu hd hst hr hs
  cases n with
  | zero=>simp [runK,zbv] at hr
  | succ n =>
  simp only [runK] at hr
  rw [zbv,zfp hst hd,zbS,if_neg h16,if_pos hb] at hr
  simp only [zbE,zsI,zpI,Prod.exists] at hr
  obtain ⟨c,t3,h2,x',h3,rfl,rfl⟩:=hr
  have h0:tk.sort≠0:=by simp only [zal,decide_eq_true_eq] at hb; omega
  rw [hx] at h3
  cases h3
  exact ⟨rfl,(zg0 hd h2 hs h0).2⟩
 | @bracket ta tc ws x ha hc X ihX =>
  intro n st st' r u rest _ hu hd hst hr hs
  simp only [List.cons_append,List.append_assoc,List.nil_append] at hd
  cases n with
  | zero=>simp [runK,zbv] at hr
  | succ n =>
  simp only [runK] at hr
  rw [zbv,zfp hst hd,zbS,if_pos ha] at hr
  cases n with
  | zero=>simp [za0] at hr
  | succ n =>
  have M:=zbp l ts n
  simp only [za0,zbE,Prod.exists] at hr
  obtain ⟨k,t1,h1,x',t2,h2,sg,t3,h3,hr⟩:=hr
  have a3:t3.stuck=false:=by
   split at hr
   ·simp only [zbE,zsI,zpI,Prod.exists] at hr
    obtain ⟨y,t4,h4,c5,t5,h5,t6,h6,rfl,rfl⟩:=hr
    exact (M.expr h4).1 ((zai h5).1 (by rw [<-(zaz h6).1]; exact hs))
   ·simp only [zbE,zsI,zpI,Prod.exists] at hr
    obtain ⟨c5,t5,h5,t6,h6,rfl,rfl⟩:=hr
    exact (zai h5).1 (by rw [<-(zaz h6).1]; exact hs)
  have a2:=(zak h3).1 a3
  have a1:=(M.expr h2).1 a2
  obtain ⟨rfl,d1⟩:=zkv hd h1 a1 (by decide)
  obtain ⟨rfl,d2⟩:=ihX trivial (show zbt tc.sort=true by rw [hc]; decide) d1 a1 (n:=n) h2 a2
  obtain ⟨rfl,rfl⟩:=zq6 (zfp a2 d2) (by rw [hc]; decide) h3
  rw [if_neg (by decide)] at hr
  simp only [zbE,zsI,zpI,Prod.exists] at hr
  obtain ⟨c5,t5,h5,t6,h6,rfl,rfl⟩:=hr
  have a5:t5.stuck=false:=by rw [<-(zaz h6).1]; exact hs
  obtain ⟨rfl,d5⟩:=zg0 d2 h5 a5 (by decide)
  exact ⟨rfl,by rw [zc8 h6]; exact d5⟩
 | @pair ta tm tc w1 w2 x y ha hm hc X Y ihX ihY =>
  intro n st st' r u rest _ hu hd hst hr hs
  simp only [List.cons_append,List.append_assoc,List.nil_append] at hd
  cases n with
  | zero=>simp [runK,zbv] at hr
  | succ n =>
  simp only [runK] at hr
  rw [zbv,zfp hst hd,zbS,if_pos ha] at hr
  cases n with
  | zero=>simp [za0] at hr
  | succ n =>
  have M:=zbp l ts n
  simp only [za0,zbE,Prod.exists] at hr
  obtain ⟨k,t1,h1,x',t2,h2,sg,t3,h3,hr⟩:=hr
  have a3:t3.stuck=false:=by
   split at hr
   ·simp only [zbE,zsI,zpI,Prod.exists] at hr
    obtain ⟨y,t4,h4,c5,t5,h5,t6,h6,rfl,rfl⟩:=hr
    exact (M.expr h4).1 ((zai h5).1 (by rw [<-(zaz h6).1]; exact hs))
   ·simp only [zbE,zsI,zpI,Prod.exists] at hr
    obtain ⟨c5,t5,h5,t6,h6,rfl,rfl⟩:=hr
    exact (zai h5).1 (by rw [<-(zaz h6).1]; exact hs)
  have a2:=(zak h3).1 a3
  have a1:=(M.expr h2).1 a2
  obtain ⟨rfl,d1⟩:=zkv hd h1 a1 (by decide)
  obtain ⟨rfl,d2⟩:=ihX trivial (show zbt tm.sort=true by rw [hm]; decide) d1 a1 (n:=n) h2 a2
  obtain ⟨rfl,d3⟩:=znj a2 d2 (by decide) (by rw [hm]; decide) h3 a3
  rw [if_pos hm] at hr
  simp only [zbE,zsI,zpI,Prod.exists] at hr
  obtain ⟨y',t4,h4,c5,t5,h5,t6,h6,rfl,rfl⟩:=hr
  have a5:t5.stuck=false:=by rw [<-(zaz h6).1]; exact hs
  have a4:=(zai h5).1 a5
  obtain ⟨rfl,d4⟩:=ihY trivial (show zbt tc.sort=true by rw [hc]; decide) d3 a3 (n:=n) h4 a4
  obtain ⟨rfl,d5⟩:=zg0 d4 h5 a5 (by decide)
  exact ⟨rfl,by rw [zc8 h6]; exact d5⟩
end Go.Proofs.YtckhafpejefbbaaGreatDoor.Tw 
namespace Go.Proofs.YtckhafpejefbbaaGreatDoor.Tw
namespace Inl
open Go
inductive LexW:List UInt8->List (Int×List UInt8)->Prop
 | nil:LexW [] []
 | gap {m:List UInt8} {ws:List (Int×List UInt8)} (h:m ≠ []) (hg:0<gapL m) (r:LexW (m.drop (gapL m).toNat) ws):LexW m ws
 | tok {m:List UInt8} {ws:List (Int×List UInt8)} (h:m ≠ []) (hg:¬0<gapL m) (h0:(zah m).2≠0) (r:LexW (m.drop (zah m).2.toNat) ws):LexW m (((zah m).1,m.take (zah m).2.toNat)::ws)
def wdOf (l:List UInt8) (t:Tok):Int×List UInt8:=(t.sort,zaw l t.fr t.to)
theorem LexW.lex {l:List UInt8} {m:List UInt8} {ws:List (Int×List UInt8)} (h:LexW m ws):∀ {off:Nat},m=l.drop off->∃ts,Lex off m ts/\ts.map (wdOf l)=ws:=by
 induction h with
 | nil=>intro off _; exact ⟨[],.nil _,rfl⟩
 | @gap m ws h hg r ih =>
  intro off hm
  obtain ⟨ts,h1,h2⟩:=ih (off:=off+(gapL m).toNat) (by rw [hm,List.drop_drop])
  exact ⟨ts,.gap h hg h1,h2⟩
 | @tok m ws h hg h0 r ih =>
  intro off hm
  obtain ⟨ts,h1,h2⟩:=ih (off:=off+(zah m).2.toNat) (by rw [hm,List.drop_drop])
  refine ⟨_,.tok h hg h0 h1,?_⟩
  rw [List.map_cons,h2]
  congr 1
  simp only [wdOf,zaw,Nat.add_sub_cancel_left,zpI,true_and]
  rw [<-hm]
theorem Lex.words {l:List UInt8} {off:Nat} {m:List UInt8} {ts:List Tok} (h:Lex off m ts) (hm:m=l.drop off):LexW m (ts.map (wdOf l)):=by
 induction h with
 | nil=>exact .nil
 | @gap off m ts h hg r ih=>exact .gap h hg (ih (by rw [hm,List.drop_drop]))
 | @tok off m ts h hg h0 r ih =>
  rw [List.map_cons]
  have e:wdOf l ⟨(zah m).1,off,off+(zah m).2.toNat⟩=((zah m).1,m.take (zah m).2.toNat):=by
   simp only [wdOf,zaw,Nat.add_sub_cancel_left,zpI,true_and]
   rw [<-hm]
  rw [e]
  exact .tok h hg h0 (ih (by rw [hm,List.drop_drop]))
theorem zy8 {m:List UInt8} (h:m ≠ []) {k:Nat} (hk:0<k) (r:List UInt8):m.take k++r ≠ []:=by
 cases m with
 | nil=>exact absurd rfl h
 | cons c m =>
  obtain ⟨j,rfl⟩:∃j,k=j+1:=⟨k-1,by omega⟩
  simp
theorem zly {m r:List UInt8} {k:Nat} (hk:k<=m.length):(m.take k++r).drop k=r:=by
 rw [List.drop_append_of_le_length (by rw [List.length_take]; omega),List.drop_of_length_le (by rw [List.length_take]; omega),List.nil_append]
theorem LexW.gapped {m r:List UInt8} {ws:List (Int×List UInt8)} (hm:m ≠ []) (hg:0<gapL m) (h:LexW r ws):LexW (m.take (gapL m).toNat++r) ws:=by
 have hle:=zex m (List.length_pos_iff.2 hm)
 have e:=zy4 (r':=r) hm hg
 refine .gap (zy8 hm (by omega) r) (by rw [e]; exact hg) ?_
 rw [e,zly (by omega)]
 exact h
def NX (m r r':List UInt8):Prop:=zam r=zam r'\/(zbh (zam r)=true/\zam r'≠62/\(zas (zam m)=true->zas (zam r')=false))\/(zbg (zam r')=false/\zam r'≠62)
theorem ybp {m r':List UInt8} (hm:m ≠ []) (h0:(zah m).2≠0) (hr:NX m (m.drop (zah m).2.toNat) r'):zah (m.take (zah m).2.toNat++r')=zah m/\zam (m.take (zah m).2.toNat++r')=zam m:=by
 have key:∀k:Nat,0<k->zam (m.take k++r')=zam m:=fun k hk=>by
  cases m with
  | nil=>exact absurd rfl hm
  | cons c m =>
   obtain ⟨j,rfl⟩:∃j,k=j+1:=⟨k-1,by omega⟩
   rfl
 rcases hr with hr | hr
 ·exact zqs hm h0 (.inl hr)
 have hr2:zam r'≠62:=by
  rcases hr with h | h
  ·exact h.2.1
  ·exact h.2
 have hr3:zas (zam m)=true->zas (zam r')=false:=by
  rcases hr with h | h
  ·exact h.2.2
  ·intro _
   have:=h.1
   simp [zbg,zas] at this ⊢
   omega
 unfold zah at h0 hr ⊢
 by_cases hs:zbh (zam m)=true
 ·rw [if_pos hs] at h0 hr ⊢
  unfold zh5 at h0 hr ⊢
  split at h0
  ·exact absurd rfl h0
  ·rename_i hl
   rw [if_neg hl] at hr ⊢
   simp only [Int.toNat_natCast] at hr ⊢ h0
   have hpos:0<(runL zbg m).length:=by omega
   have e:=zf2 zbg m
   have hw:zbg (zam r')=false:=by
    rcases hr with h | h
    ·exfalso
     have hstop:=zg6 zbg (by decide) m
     have:=h.1
     simp [zbh,zbg] at this hstop
     omega
    ·exact h.1
   have hnew:runL zbg (m.take (runL zbg m).length++r')=runL zbg m:=by
    rw [e]
    exact ziy zbg _ r' (zfe zbg m) hw
   rw [key _ hpos,if_pos hs,hnew,if_neg hl]
   exact ⟨rfl,rfl⟩
 ·rw [if_neg hs] at h0 ⊢
  by_cases hd:zas (zam m)=true
  ·rw [if_pos hd] at h0 ⊢
   unfold zdm at h0 ⊢
   split at h0
   ·exact absurd rfl h0
   ·rename_i hl
    rw [if_neg hl]
    simp only [Int.toNat_natCast] at h0 ⊢
    have hpos:0<(runL zas m).length:=by omega
    have e:=zf2 zas m
    have hnew:runL zas (m.take (runL zas m).length++r')=runL zas m:=by
     rw [e]
     exact ziy zas _ r' (zfe zas m) (hr3 hd)
    rw [key _ hpos,if_neg hs,if_pos hd,hnew,if_neg hl]
    exact ⟨rfl,rfl⟩
  ·rw [if_neg hd] at h0 ⊢
   by_cases ha:m.take 2=[45,62]
   ·rw [if_pos ha]
    have h2:((14:Int),(2:Int)).2.toNat=2:=rfl
    rw [h2,key 2 (by omega),if_neg hs,if_neg hd,ha]
    exact ⟨rfl,rfl⟩
   ·rw [if_neg ha] at h0 ⊢
    have h1:(zfw (zam m)).2=1:=(zsi _).resolve_left h0
    rw [h1]
    have h2:(1:Int).toNat=1:=rfl
    rw [h2,key 1 (by omega),if_neg hs,if_neg hd]
    refine ⟨?_,rfl⟩
    rw [if_neg]
    intro hq
    cases m with
    | nil=>exact absurd rfl hm
    | cons c m =>
     simp only [List.take_succ_cons,List.take_zero,List.cons_append,List.nil_append,List.cons.injEq] at hq
     cases r' with
     | nil=>simp at hq
     | cons b r' =>
      simp only [List.take_succ_cons,List.take_zero,List.cons.injEq,and_true] at hq
      apply hr2
      rw [hq.2]
      rfl
theorem LexW.next {m r:List UInt8} {ws:List (Int×List UInt8)} (hm:m ≠ []) (hg:¬0<gapL m) (h0:(zah m).2≠0) (hr:NX m (m.drop (zah m).2.toNat) r) (h:LexW r ws):LexW (m.take (zah m).2.toNat++r) (((zah m).1,m.take (zah m).2.toNat)::ws):=by
 have hle:=zde m (List.length_pos_iff.2 hm)
 obtain ⟨e1,e2⟩:=ybp hm h0 hr
 have hh:=zu4 hm hg h0
 obtain ⟨k,hk⟩:∃k:Nat,(zah m).2.toNat=k:=⟨_,rfl⟩
 have hk0:0<k:=by omega
 rw [hk] at e1 e2 ⊢
 have e3:(m.take k++r).take k=m.take k:=by
  rw [List.take_append_of_le_length (by rw [List.length_take]; omega),List.take_take,Nat.min_self]
 have:=LexW.tok (m:=m.take k++r) (ws:=ws) (zy8 hm hk0 r) (zkk (by rw [e2]; exact hh.1) (by rw [e2]; exact hh.2.1) (by rw [e2]; exact hh.2.2.1) (by rw [e2]; exact hh.2.2.2)) (by rw [e1]; exact h0) (by rw [e1,hk,zly (by omega)]; exact h)
 rw [e1,hk,e3] at this
 exact this
theorem zle (m:List UInt8) (k p:Nat) (h:k<=p):m.take p=m.take k++(m.drop k).take (p-k):=by
 rw [<-List.take_add]
 congr 1
 omega
theorem zlf {m:List UInt8} {j:Nat} (hj:0<j) (h:m ≠ []) (r:List UInt8):zam (m.take j++r)=zam m:=by
 cases m with
 | nil=>exact absurd rfl h
 | cons c m =>
  obtain ⟨i,rfl⟩:∃i,j=i+1:=⟨j-1,by omega⟩
  rfl
theorem zlg {off:Nat} {m:List UInt8} {ts:List Tok} (h:Lex off m ts):ts.Pairwise (fun t u=>t.to<=u.fr):=by
 induction h with
 | nil=>exact .nil
 | gap _ _ _ ih=>exact ih
 | @tok off m ts hm hg h0 hr ih=>exact List.pairwise_cons.2 ⟨fun u hu=>((hr.toks).1 u hu).low,ih⟩
theorem zx9 {m:List UInt8} (h3:(zah m).1=3):zbh (zam m)=true:=by
 by_cases q:zbh (zam m)=true
 ·exact q
 ·exfalso
  unfold zah at h3
  rw [if_neg q] at h3
  split at h3
  ·unfold zdm at h3
   split at h3 <;> simp at h3
  ·split at h3
   ·simp at h3
   ·unfold zfw at h3
    repeat' split at h3
    all_goals simp at h3
theorem ybq {off:Nat} {m:List UInt8} {t0:Tok} {rest:List Tok} (h:Lex off m (t0::rest)) (h3:t0.sort=3) (hf:t0.fr<=off):zbh (zam m)=true:=by
 cases h with
 | gap hm' hg' hr'' =>
  have hle':=zex _ (List.length_pos_iff.2 hm')
  have:=((hr''.toks).1 t0 (by simp)).low
  omega
 | tok hm' hg' h0' hr''=>exact zx9 h3
def zes (s:Int):Prop:=s=16\/s=15\/s=18\/s=14\/s=5\/s=7\/s=8\/s=9
def zjo:List Tok->Prop
 | []=>True
 | [t]=>zes t.sort
 | _::t::l=>zjo (t::l)
theorem ybr {l:List UInt8} {r':List UInt8} {wr:List (Int×List UInt8)} (hr:LexW r' wr) (h62:zam r'≠62) {off:Nat} {m:List UInt8} {ts:List Tok} (h:Lex off m ts):m=l.drop off->∀ {pre rest:List Tok} {t0:Tok},ts=pre++t0::rest->t0.sort=3->zjo pre->LexW (m.take (t0.fr-off)++r') (pre.map (wdOf l)++wr):=by
 induction h with
 | nil=>intro _ pre rest t0 e; simp at e
 | @gap off m ts hm hg hr' ih =>
  intro hml pre rest t0 e h3 hlast
  have hle:=zex m (List.length_pos_iff.2 hm)
  have hlow:=((hr'.toks).1 t0 (by rw [e]; simp)).low
  have k:=ih (by rw [hml,List.drop_drop]) e h3 hlast
  rw [zle m (gapL m).toNat (t0.fr-off) (by omega),List.append_assoc,Nat.sub_sub]
  exact LexW.gapped hm hg k
 | @tok off m ts hm hg h0 hr' ih =>
  intro hml pre rest t0 e h3 hlast
  have hle:=zde m (List.length_pos_iff.2 hm)
  cases pre with
  | nil =>
   simp only [List.nil_append,List.cons.injEq] at e
   rw [<-e.1]
   simpa using hr
  | cons tk pre =>
   simp only [List.cons_append,List.cons.injEq] at e
   obtain ⟨e1,e2⟩:=e
   have hlow:=((hr'.toks).1 t0 (by rw [e2]; simp)).low
   have hl2:zjo pre:=by
    cases pre with
    | nil=>trivial
    | cons a pre=>exact hlast
   have k:=ih (by rw [hml,List.drop_drop]) e2 h3 hl2
   have ew:wdOf l tk=((zah m).1,m.take (zah m).2.toNat):=by
    rw [<-e1]
    simp only [wdOf,zaw,Nat.add_sub_cancel_left,zpI,true_and]
    rw [<-hml]
   rw [List.map_cons,List.cons_append,ew,zle m (zah m).2.toNat (t0.fr-off) (by omega),List.append_assoc,Nat.sub_sub]
   refine LexW.next hm hg h0 ?_ k
   rcases Nat.lt_or_ge (off+(zah m).2.toNat) t0.fr with hlt | hge
   ·left
    rw [zlf (by omega)]
    intro e
    have k1:=((hr'.toks).1 t0 (by rw [e2]; simp)).high
    have k2:=((hr'.toks).1 t0 (by rw [e2]; simp)).lt
    rw [e] at k1
    simp at k1
    omega
   ·have e0:t0.fr-(off+(zah m).2.toNat)=0:=by omega
    rw [e0,List.take_zero,List.nil_append]
    -- the token is the last one ahead of the let
    have hp:pre=[]:=by
     cases pre with
     | nil=>rfl
     | cons a pre =>
      exfalso
      have q1:=((hr'.toks).1 a (by rw [e2]; simp))
      have q2:=zlg hr'
      rw [e2,List.cons_append,List.pairwise_cons] at q2
      have:=q2.1 t0 (by simp)
      have:=q1.low
      have:=q1.lt
      omega
    subst hp
    have hop:zes tk.sort:=hlast
    have hsmall:zbh (zam (m.drop (zah m).2.toNat))=true:=by
     rw [List.nil_append] at e2
     rw [e2] at hr'
     exact ybq hr' h3 hge
    right
    left
    refine ⟨hsmall,h62,fun hd => ?_⟩
    exfalso
    have hns:zbh (zam m)≠true:=by simp [zbh,zas] at hd ⊢; omega
    have:tk.sort=2\/tk.sort=0:=by
     rw [<-e1]
     simp only
     unfold zah
     rw [if_neg hns,if_pos hd]
     unfold zdm
     split <;> simp
    unfold zes at hop
    omega
theorem LexW.no62 {r:List UInt8} {wr:List (Int×List UInt8)} (h:LexW r wr):zam r≠62:=by
 intro e
 cases h with
 | nil=>simp [zam] at e
 | gap hm hg _ =>
  unfold gapL at hg
  rw [e] at hg
  simp at hg
 | tok hm hg h0 _ =>
  apply h0
  have e1:r.take 2 ≠ [45,62]:=by
   cases r with
   | nil=>exact absurd rfl hm
   | cons c m=>intro q; simp at q; have:=q.1; subst this; simp [zam] at e
  unfold zah
  rw [e,if_neg (by decide),if_neg (by decide),if_neg e1]
  rfl
theorem zvq {l:List UInt8} {off:Nat} {m:List UInt8} {ts:List Tok} (h:Lex off m ts):m=l.drop off->∀ {pre rest:List Tok} {t0:Tok},ts=pre++t0::rest->Lex t0.fr (l.drop t0.fr) (t0::rest):=by
 induction h with
 | nil=>intro _ pre rest t0 e; simp at e
 | @gap off m ts hm hg hr ih=>intro hml pre rest t0 e; exact ih (by rw [hml,List.drop_drop]) e
 | @tok off m ts hm hg h0 hr ih =>
  intro hml pre rest t0 e
  cases pre with
  | nil =>
   simp only [List.nil_append,List.cons.injEq] at e
   obtain ⟨rfl,rfl⟩:=e
   simp only
   rw [<-hml]
   exact .tok hm hg h0 hr
  | cons a pre =>
   simp only [List.cons_append,List.cons.injEq] at e
   exact ih (by rw [hml,List.drop_drop]) e.2
theorem yew {l:List UInt8} {r':List UInt8} {wr:List (Int×List UInt8)} (hr:LexW r' wr) (hw:zbg (zam r')=false) {off:Nat} {m:List UInt8} {ts:List Tok} (h:Lex off m ts):m=l.drop off->∀ {ds post:List Tok} {tz:Tok},ts=ds++tz::post->LexW (m.take (tz.to-off)++r') ((ds ++ [tz]).map (wdOf l)++wr):=by
 induction h with
 | nil=>intro _ ds post tz e; simp at e
 | @gap off m ts hm hg hr' ih =>
  intro hml ds post tz e
  have hle:=zex m (List.length_pos_iff.2 hm)
  have q:=((hr'.toks).1 tz (by rw [e]; simp))
  have hlow:=q.low
  have hlt:=q.lt
  have k:=ih (by rw [hml,List.drop_drop]) e
  rw [zle m (gapL m).toNat (tz.to-off) (by omega),List.append_assoc,Nat.sub_sub]
  exact LexW.gapped hm hg k
 | @tok off m ts hm hg h0 hr' ih =>
  intro hml ds post tz e
  have hle:=zde m (List.length_pos_iff.2 hm)
  have ew:wdOf l ⟨(zah m).1,off,off+(zah m).2.toNat⟩=((zah m).1,m.take (zah m).2.toNat):=by
   simp only [wdOf,zaw,Nat.add_sub_cancel_left,zpI,true_and]
   rw [<-hml]
  cases ds with
  | nil =>
   simp only [List.nil_append,List.cons.injEq] at e
   rw [<-e.1]
   simp only [List.nil_append,List.map_cons,List.map_nil,List.cons_append,Nat.add_sub_cancel_left]
   rw [ew]
   exact LexW.next hm hg h0 (.inr (.inr ⟨hw,hr.no62⟩)) hr
  | cons tk ds =>
   simp only [List.cons_append,List.cons.injEq] at e
   obtain ⟨e1,e2⟩:=e
   have q:=((hr'.toks).1 tz (by rw [e2]; simp))
   have hlow:=q.low
   have hlt:=q.lt
   have k:=ih (by rw [hml,List.drop_drop]) e2
   rw [List.cons_append,List.map_cons,List.cons_append,<-e1,ew,zle m (zah m).2.toNat (tz.to-off) (by omega),List.append_assoc,Nat.sub_sub]
   refine LexW.next hm hg h0 (.inl ?_) k
   rw [zlf (by omega)]
   intro e
   have k1:=q.high
   rw [e] at k1
   simp at k1
   omega
end Inl
namespace Inl
open Go
def chB (dx:Nat) (blk:Nat->List UInt8) (S:List Nat):List (Nat×Nat×List UInt8):=S.map fun f=>(f,f+dx,blk f)
theorem zsm {dx:Nat} {blk:Nat->List UInt8} {off g:Nat} {m:List UInt8} {S:List Nat} (h:∀f∈S,off+g<=f):chgR off m (chB dx blk S)=m.take g++chgR (off+g) (m.drop g) (chB dx blk S):=by
 cases S with
 | nil=>simp [chB,chgR]
 | cons f S =>
  have hf:=h f (by simp)
  simp only [chB,List.map_cons,chgR]
  rw [show f-off=g+(f-(off+g)) from by omega,List.take_add,List.append_assoc,List.drop_drop,show g+(f+dx-(off+g))=f+dx-off from by omega]
structure yfg (l:List UInt8) (b:List UInt8) (bw:List (Int×List UInt8)) (f:Nat):Prop where
 lex:∀ {r':List UInt8} {wr:List (Int×List UInt8)},LexW r' wr->zbg (zam r')=false->LexW (b++r') (bw++wr)
 ne:b ≠ []
 no62:zam b≠62
 dig:zas (zam b)=true->0<f->zas (zam (l.drop (f-1)))=false
theorem zvr {dx:Nat} {blk:Nat->List UInt8} {off:Nat} {m:List UInt8} {ts:List Tok} (h:Lex off m ts) {S:List Nat} (hS:Reps dx ts S) (hne:∀f∈S,blk f ≠ []):zam m=zam (chgR off m (chB dx blk S))\/(zbh (zam m)=true/\off∈S/\zam (chgR off m (chB dx blk S))=zam (blk off)):=by
 cases S with
 | nil=>exact .inl rfl
 | cons f S =>
  obtain ⟨t,ht,rfl,h1,_⟩:=hS.2 f (by simp)
  have low:=((h.toks).1 t ht).low
  simp only [chB,List.map_cons,chgR]
  rcases Nat.lt_or_ge off t.fr with hlt | hge
  ·have hm:m ≠ []:=by
    intro e
    subst e
    have k1:=((h.toks).1 t ht).high
    have k2:=((h.toks).1 t ht).lt
    simp at k1
    omega
   left
   rw [zlf (by omega) hm]
  ·have e:t.fr-off=0:=by omega
   have e2:t.fr=off:=by omega
   rw [e,List.take_zero,List.nil_append]
   right
   rw [zdz (hne t.fr (by simp))]
   refine ⟨?_,by simp [e2],by rw [e2]⟩
   cases h with
   | nil=>simp at ht
   | gap hm hg hr =>
    have:=((hr.toks).1 t ht).low
    omega
   | tok hm hg h0 hr =>
    simp only [zmC] at ht
    rcases ht with rfl | ht
    ·exact (zfo h1).1
    ·have:=((hr.toks).1 t ht).low
     have f1:=zde m (List.length_pos_iff.2 hm)
     omega
theorem ydi {m:List UInt8} (hd:zas (zam m)=true) (h0:(zah m).2≠0):zas (zam (m.drop ((zah m).2.toNat-1)))=true:=by
 have hns:zbh (zam m)≠true:=by simp [zbh,zas] at hd ⊢; omega
 unfold zah at h0 ⊢
 rw [if_neg hns,if_pos hd] at h0 ⊢
 unfold zdm at h0 ⊢
 split at h0
 ·exact absurd rfl h0
 ·rename_i hl
  rw [if_neg hl]
  simp only [Int.toNat_natCast] at h0 ⊢
  have hpos:0<(runL zas m).length:=by omega
  have e:=zf2 zas m
  have hle:=zsw zas m
  have hlt:(runL zas m).length-1<m.length:=by omega
  rw [List.drop_eq_getElem_cons hlt]
  show zas ((m[(runL zas m).length-1]).toNat:Int)=true
  have h2:=List.getElem_mem (l:=m.take (runL zas m).length) (n:=(runL zas m).length-1) (by rw [List.length_take]; omega)
  rw [List.getElem_take] at h2
  have h3:∀c∈m.take (runL zas m).length,zas c.toNat=true:=by rw [e]; exact zfe zas m
  exact h3 _ h2
theorem ydj {l:List UInt8} {dx:Nat} {blk:Nat->List UInt8} {bw:Nat->List (Int×List UInt8)} {S0:List Nat} {off:Nat} {m:List UInt8} {ts:List Tok} (h:Lex off m ts):m=l.drop off->∀ {S:List Nat},Reps dx ts S->(∀t∈ts,t.fr∈S0↔t.fr∈S)->(∀f∈S,yfg l (blk f) (bw f) f)->LexW (chgR off m (chB dx blk S)) (ts.flatMap fun t=>if t.fr∈S0 then bw t.fr else [wdOf l t]):=by
 induction h with
 | nil off =>
  intro _ S hS _ _
  have:S=[]:=by
   cases S with
   | nil=>rfl
   | cons f S=>obtain ⟨t,ht,_⟩:=hS.2 f (by simp); cases ht
  subst this
  exact .nil
 | @gap off m ts hm hg hr ih =>
  intro hml S hS h0 hB
  have hle:=zex m (List.length_pos_iff.2 hm)
  have hge:∀f∈S,off+(gapL m).toNat<=f:=fun f hf=>by
   obtain ⟨t,ht,rfl,_⟩:=hS.2 f hf
   exact ((hr.toks).1 t ht).low
  rw [zsm hge]
  exact LexW.gapped hm hg (ih (by rw [hml,List.drop_drop]) hS h0 hB)
 | @tok off m ts hm hg h0 hr ih =>
  intro hml S hS hS0 hB
  have hle:=zde m (List.length_pos_iff.2 hm)
  obtain ⟨k,hkn⟩:∃k:Nat,(zah m).2.toNat=k:=⟨_,rfl⟩
  have hk0:0<k:=by omega
  rw [hkn] at hr ih hS hS0 ⊢
  have later:∀t∈ts,off+k<=t.fr:=fun t ht=>((hr.toks).1 t ht).low
  rw [List.flatMap_cons]
  have hml2:m.drop k=l.drop (off+k):=by rw [hml,List.drop_drop]
  by_cases hoff:off∈S
  ·obtain ⟨f,S',rfl⟩:∃f S',S=f::S':=by
    cases S with
    | nil=>cases hoff
    | cons f S'=>exact ⟨f,S',rfl⟩
   have hf:f=off:=by
    simp only [zmC] at hoff
    rcases hoff with h | h
    ·exact h.symm
    ·have h1:=(List.pairwise_cons.1 hS.1).1 off h
     obtain ⟨t,ht,h2,_⟩:=hS.2 f (by simp)
     simp only [zmC] at ht
     rcases ht with rfl | ht
     ·simp only at h2; omega
     ·have:=later t ht; omega
   subst hf
   obtain ⟨t,ht,h1,h2,h3⟩:=hS.2 f (by simp)
   have ht':t=⟨(zah m).1,f,f+k⟩:=by
    simp only [zmC] at ht
    rcases ht with rfl | ht
    ·rfl
    ·have:=later t ht; omega
   subst ht'
   simp only at h2 h3
   have hkx:k=dx:=by omega
   subst hkx
   obtain ⟨q1,q2⟩:=zfo h2
   have hS':Reps k ts S':=by
    refine ⟨(List.pairwise_cons.1 hS.1).2,fun g hg => ?_⟩
    obtain ⟨t,ht,a1,a2,a3⟩:=hS.2 g (by simp [hg])
    have hlt:=(List.pairwise_cons.1 hS.1).1 g hg
    simp only [zmC] at ht
    rcases ht with rfl | ht
    ·simp only at a1; omega
    ·exact ⟨t,ht,a1,a2,a3⟩
   have K:=ih hml2 hS' (fun t ht=>by
    rw [hS0 t (by simp [ht])]
    have:=later t ht
    simp only [zmC]
    constructor
    ·rintro (h | h)
     ·omega
     ·exact h
    ·exact .inr) (fun g hg=>hB g (by simp [hg]))
   have hhead:zbg (zam (chgR (f+k) (m.drop k) (chB k blk S')))=false:=by
    have hstop:zbg (zam (m.drop k))=false:=by
     have:k=(runL zbg m).length:=by omega
     rw [this]
     exact zg6 zbg (by decide) m
    rcases zvr hr hS' (blk:=blk) (fun g hg=>(hB g (by simp [hg])).ne) with e | ⟨e,_⟩
    ·rw [<-e]; exact hstop
    ·exfalso
     simp [zbh,zbg] at e hstop
     omega
   have e:chgR f m (chB k blk (f::S'))=blk f++chgR (f+k) (m.drop k) (chB k blk S'):=by
    simp only [chB,List.map_cons,chgR]
    rw [Nat.sub_self,List.take_zero,List.nil_append,Nat.add_sub_cancel_left]
   have hin:f∈S0:=(hS0 ⟨(zah m).1,f,f+k⟩ (by simp)).2 (by simp)
   rw [e,if_pos hin]
   exact (hB f (by simp)).lex K hhead
  ·have hS':Reps dx ts S:=by
    refine ⟨hS.1,fun g hg => ?_⟩
    obtain ⟨t,ht,a1,a2,a3⟩:=hS.2 g hg
    simp only [zmC] at ht
    rcases ht with rfl | ht
    ·simp only at a1; subst a1; exact absurd hg hoff
    ·exact ⟨t,ht,a1,a2,a3⟩
   have hge:∀f∈S,off+k<=f:=fun f hf=>by
    obtain ⟨t,ht,rfl,_⟩:=hS'.2 f hf
    exact later t ht
   have K:=ih hml2 hS' (fun t ht=>hS0 t (by simp [ht])) hB
   have hout:off∉S0:=fun h=>hoff ((hS0 ⟨(zah m).1,off,off+k⟩ (by simp)).1 h)
   have ew:wdOf l ⟨(zah m).1,off,off+k⟩=((zah m).1,m.take k):=by
    simp only [wdOf,zaw,Nat.add_sub_cancel_left,zpI,true_and]
    rw [<-hml]
   rw [if_neg hout,zsm hge,ew]
   have hnx:NX m (m.drop (zah m).2.toNat) (chgR (off+k) (m.drop k) (chB dx blk S)):=by
    rw [hkn]
    rcases zvr hr hS' (blk:=blk) (fun g hg=>(hB g hg).ne) with e | ⟨e,hin,e2⟩
    ·exact .inl e
    ·refine .inr (.inl ⟨e,by rw [e2]; exact (hB _ hin).no62,fun hd => ?_⟩)
     rw [e2]
     cases hq:zas (zam (blk (off+k))) with
     | false=>rfl
     | true =>
      exfalso
      have q1:=(hB _ hin).dig hq (by omega)
      have q2:=ydi hd h0
      rw [hkn,hml,List.drop_drop,show off+(k-1)=off+k-1 from by omega,q1] at q2
      cases q2
   have:=LexW.next hm hg h0 hnx K
   rw [hkn] at this
   exact this
end Inl
namespace Inl
open Go
def Bd:IE->T->Prop
 | E,.name _ _ x=>∃s,hitB E x s
 | _,.int .. => True
 | _,.truth .. => True
 | _,.side .. => True
 | E,.bracket _ _ i=>Bd E i
 | E,.pair _ _ a b=>Bd E a/\Bd E b
 | E,.call _ _ a b=>Bd E a/\Bd E b
 | E,.binary _ _ _ a b=>Bd E a/\Bd E b
 | E,.cond _ _ a b c=>Bd E a/\Bd E b/\Bd E c
 | E,.fn _ _ n _ a=>Bd (.both n true::E) a
 | E,.lett _ _ r n _ a b=>Bd (if r then .both n false::E else E) a/\Bd (.both n true::E) b
def Okk (S:Nat->Prop) (d:T):IE->T->Prop
 | E,.name f _ x=>(S f/\∃F,hitD E x d F/\Bd F d)\/(¬S f/\∃s,hitB E x s)
 | _,.int .. => True
 | _,.truth .. => True
 | _,.side .. => True
 | E,.bracket _ _ i=>Okk S d E i
 | E,.pair _ _ a b=>Okk S d E a/\Okk S d E b
 | E,.call _ _ a b=>Okk S d E a/\Okk S d E b
 | E,.binary _ _ _ a b=>Okk S d E a/\Okk S d E b
 | E,.cond _ _ a b c=>Okk S d E a/\Okk S d E b/\Okk S d E c
 | E,.fn _ _ n k a=>¬S k/\Okk S d (.both n true::E) a
 | E,.lett _ _ r n k a b=>¬S k/\Okk S d (if r then .both n false::E else E) a/\Okk S d (.both n true::E) b
def NoS:Nat->Prop:=fun _=>False
theorem Bd.okk (d:T):∀ {E:IE} {t:T},Bd E t->Okk NoS d E t
 | _,.name ..,h=>.inr ⟨id,h⟩
 | _,.int ..,_=>trivial
 | _,.truth ..,_=>trivial
 | _,.side ..,_=>trivial
 | E,.bracket _ _ i,h=>Bd.okk d (E:=E) (t:=i) h
 | _,.pair ..,h=>⟨Bd.okk d h.1,Bd.okk d h.2⟩
 | _,.call ..,h=>⟨Bd.okk d h.1,Bd.okk d h.2⟩
 | _,.binary ..,h=>⟨Bd.okk d h.1,Bd.okk d h.2⟩
 | _,.cond ..,h=>⟨Bd.okk d h.1,Bd.okk d h.2.1,Bd.okk d h.2.2⟩
 | E,.fn _ _ n _ a,h=>⟨id,Bd.okk d (E:=.both n true::E) (t:=a) h⟩
 | _,.lett ..,h=>⟨id,Bd.okk d h.1,Bd.okk d h.2⟩
structure zzp (l l':List UInt8) (a b:Tok):Prop where
 sort:b.sort=a.sort
 fit:a.fr<=a.to/\a.to<=l.length->b.fr<=b.to/\b.to<=l'.length
 text:zaw l' b.fr b.to=zaw l a.fr a.to
inductive Cp (l l':List UInt8) (S:Nat->Prop) (d:T):List Tok->List Tok->Prop
 | nil:Cp l l' S d [] []
 | keep {a b:Tok} {ws ws':List Tok} (h:zzp l l' a b) (hS:a.sort=1->¬S a.fr) (r:Cp l l' S d ws ws'):Cp l l' S d (a::ws) (b::ws')
 | use {a:Tok} {blk ws ws':List Tok} (h:a.sort=1) (hS:S a.fr) (hb:∀F,Bd F d->∃d',G l' .atom blk d'/\(Sb F d d'\/∃f t d2,d' = .bracket f t d2/\Sb F d d2)) (r:Cp l l' S d ws ws'):Cp l l' S d (a::ws) (blk++ws')
variable {l l' : List UInt8} {S : Nat -> Prop} {d : T}
theorem Cp.split:∀ {w1 w2 ws':List Tok},Cp l l' S d (w1++w2) ws'->∃x y,ws'=x++y/\Cp l l' S d w1 x/\Cp l l' S d w2 y
 | [],w2,ws',h=>⟨[],ws',rfl,.nil,h⟩
 | a::w1,w2,ws',h=>by
  cases h with
  | keep h hS r =>
   obtain ⟨x,y,rfl,h1,h2⟩:=r.split
   exact ⟨_::x,y,rfl,.keep h hS h1,h2⟩
  | use h hS hb r =>
   obtain ⟨x,y,rfl,h1,h2⟩:=r.split
   exact ⟨_++x,y,by rw [List.append_assoc],.use h hS hb h1,h2⟩
theorem Cp.one {a:Tok} {ws ws':List Tok} (h:Cp l l' S d (a::ws) ws') (ha:a.sort=1->¬S a.fr):∃b y,ws'=b::y/\zzp l l' a b/\Cp l l' S d ws y:=by
 cases h with
 | keep h hS r=>exact ⟨_,_,rfl,h,r⟩
 | use h hS hb r=>exact absurd hS (ha h)
inductive KR (E:IE):GK->GK->Prop
 | expr:KR E .expr .expr
 | cmp:KR E .cmp .cmp
 | sum:KR E .sum .sum
 | term:KR E .term .term
 | call:KR E .call .call
 | atom:KR E .atom .atom
 | chF {p:Part} {g:List Int} {a a':T} (hg:∀x∈g,x≠1) (h:Sb E a a'):KR E (.chF p g a) (.chF p g a')
 | caF {a a':T} (h:Sb E a a'):KR E (.caF a) (.caF a')
theorem KR.pk (E:IE) (p:Part):KR E (pk p) (pk p):=by cases p <;> constructor
theorem zh2 {P:T->Prop} (hP:∀f t s a b,P (.binary f t s a b)->P a) {k:GK} {ws:List Tok} {t:T} (h:G l k ws t):∀ {p:Part} {g:List Int} {a:T},k = .chF p g a->P t->P a:=by
 induction h with
 | chN=>intro p g a e hp; cases e; exact hp
 | chC hs Y C ihY ihC=>intro p g a e hp; cases e; exact hP _ _ _ _ _ (ihC rfl hp)
 | _=>intro p g a e; cases e
theorem znk {P:T->Prop} (hP:∀f t a b,P (.call f t a b)->P a) {k:GK} {ws:List Tok} {t:T} (h:G l k ws t):∀ {a:T},k = .caF a->P t->P a:=by
 induction h with
 | caN=>intro a e hp; cases e; exact hp
 | caC Y C ihY ihC=>intro a e hp; cases e; exact hP _ _ _ _ (ihC rfl hp)
 | _=>intro a e; cases e
theorem ybs {E:IE} {tk tk':Tok} {x:T} (hb:zal tk.sort=true) (h16:tk.sort≠16) (h:zeq l tk=some x) (hc:zzp l l' tk tk') (hS:tk.sort=1->¬S tk.fr) (hok:Okk S d E x):∃x',zeq l' tk'=some x'/\Sb E x x':=by
 unfold zeq at h ⊢
 rw [hc.sort,hc.text]
 split at h
 ·rename_i h2
  rw [if_pos h2]
  split at h
  ·rename_i hf
   rw [if_pos (hc.fit hf)]
   obtain ⟨v,hv,h⟩:=zbE.1 h
   cases h
   rw [hv]
   exact ⟨_,rfl,.int⟩
  ·cases h
 ·rename_i h2
  rw [if_neg h2]
  split at h
  ·rename_i h3
   rw [if_pos h3]
   cases h
   exact ⟨_,rfl,.truth⟩
  ·rename_i h3
   rw [if_neg h3]
   split at h
   ·rename_i h4
    rw [if_pos h4]
    cases h
    exact ⟨_,rfl,.side⟩
   ·rename_i h4
    rw [if_neg h4]
    split at h
    ·rename_i hf
     rw [if_pos (hc.fit hf)]
     cases h
     have h1:tk.sort=1:=by simp only [zal,decide_eq_true_eq] at hb; omega
     rcases hok with ⟨q,_⟩ | ⟨_,s,q⟩
     ·exact absurd q (hS h1)
     ·exact ⟨_,rfl,.name q⟩
    ·cases h
theorem zvs {k:GK} {ws:List Tok} {t:T} (h:G l k ws t):∀ {E:IE} {ws':List Tok} {k':GK},Cp l l' S d ws ws'->KR E k k'->Okk S d E t->∃t',G l' k' ws' t'/\Sb E t t':=by
 induction h with
 | @lett tl tn te ti rcs ds bs rc a b hl hrc hn he hi hp D B ihD ihB =>
  intro E ws' k' hc hk hok
  cases hk
  obtain ⟨tl',y1,rfl,c1,hc⟩:=hc.one (fun e=>by rw [hl] at e; cases e)
  obtain ⟨rcs',y2,rfl,hr,hc⟩:=hc.split
  obtain ⟨tn',y3,rfl,c3,hc⟩:=hc.one (fun _=>hok.1)
  obtain ⟨te',y4,rfl,c4,hc⟩:=hc.one (fun e=>by rw [he] at e; cases e)
  obtain ⟨ds',y5,rfl,h5,hc⟩:=hc.split
  obtain ⟨ti',bs',rfl,c6,hc⟩:=hc.one (fun e=>by rw [hi] at e; cases e)
  obtain ⟨a',A,sa⟩:=ihD h5 .expr hok.2.1
  obtain ⟨b',B',sb⟩:=ihB hc .expr hok.2.2
  have hrc':(rcs'=[]/\rc=false)\/(∃r,rcs'=[r]/\r.sort=4/\rc=true):=by
   rcases hrc with ⟨rfl,rfl⟩ | ⟨r,rfl,h4,rfl⟩
   ·cases hr; exact .inl ⟨rfl,rfl⟩
   ·obtain ⟨r',z,rfl,q1,q2⟩:=hr.one (fun e=>by rw [h4] at e; cases e)
    cases q2
    exact .inr ⟨r',rfl,by rw [q1.sort]; exact h4,rfl⟩
  refine ⟨_,.lett (by rw [c1.sort]; exact hl) hrc' (by rw [c3.sort]; exact hn) (by rw [c4.sort]; exact he) (by rw [c6.sort]; exact hi) (c3.fit hp) A B',?_⟩
  rw [c3.text]
  exact .lett sa sb
 | @fn tl tn ta bs b hl hn ha hp B ihB =>
  intro E ws' k' hc hk hok
  cases hk
  obtain ⟨tl',y1,rfl,c1,hc⟩:=hc.one (fun e=>by rw [hl] at e; cases e)
  obtain ⟨tn',y3,rfl,c3,hc⟩:=hc.one (fun _=>hok.1)
  obtain ⟨ta',bs',rfl,c4,hc⟩:=hc.one (fun e=>by rw [ha] at e; cases e)
  obtain ⟨b',B',sb⟩:=ihB hc .expr hok.2
  refine ⟨_,.fn (by rw [c1.sort]; exact hl) (by rw [c3.sort]; exact hn) (by rw [c4.sort]; exact ha) (c3.fit hp) B',?_⟩
  rw [c3.text]
  exact .fn sb
 | @cond tl t1 t2 cs xs ys c x y hl h1 h2 C X Y ihC ihX ihY =>
  intro E ws' k' hc hk hok
  cases hk
  obtain ⟨tl',y1,rfl,c1,hc⟩:=hc.one (fun e=>by rw [hl] at e; cases e)
  obtain ⟨cs',y2,rfl,g1,hc⟩:=hc.split
  obtain ⟨t1',y3,rfl,c2,hc⟩:=hc.one (fun e=>by rw [h1] at e; cases e)
  obtain ⟨xs',y4,rfl,g2,hc⟩:=hc.split
  obtain ⟨t2',ys',rfl,c3,hc⟩:=hc.one (fun e=>by rw [h2] at e; cases e)
  obtain ⟨c',C',sc⟩:=ihC g1 .expr hok.1
  obtain ⟨x',X',sx⟩:=ihX g2 .expr hok.2.1
  obtain ⟨y',Y',sy⟩:=ihY hc .expr hok.2.2
  exact ⟨_,.cond (by rw [c1.sort]; exact hl) (by rw [c2.sort]; exact h1) (by rw [c3.sort]; exact h2) C' X' Y',.cond sc sx sy⟩
 | ecmp h ih =>
  intro E ws' k' hc hk hok
  cases hk
  obtain ⟨t',g,s⟩:=ih hc .cmp hok
  exact ⟨t',.ecmp g,s⟩
 | cmp1 h ih =>
  intro E ws' k' hc hk hok
  cases hk
  obtain ⟨t',g,s⟩:=ih hc .sum hok
  exact ⟨t',.cmp1 g,s⟩
 | @cmp2 w1 w2 sg x y X hs Y ihX ihY =>
  intro E ws' k' hc hk hok
  cases hk
  obtain ⟨w1',y1,rfl,g1,hc⟩:=hc.split
  obtain ⟨sg',w2',rfl,c1,hc⟩:=hc.one (fun e=>by rw [e] at hs; rcases hs with h | h <;> cases h)
  obtain ⟨x',X',sx⟩:=ihX g1 .sum hok.1
  obtain ⟨y',Y',sy⟩:=ihY hc .sum hok.2
  refine ⟨_,.cmp2 X' (by rw [c1.sort]; exact hs) Y',?_⟩
  rw [c1.sort]
  exact .binary sx sy
 | @sum w1 w2 x t X C ihX ihC =>
  intro E ws' k' hc hk hok
  cases hk
  obtain ⟨w1',w2',rfl,g1,hc⟩:=hc.split
  obtain ⟨x',X',sx⟩:=ihX g1 .term (zh2 (P:=Okk S d E) (fun _ _ _ _ _ h=>h.1) C rfl hok)
  obtain ⟨t',C',st⟩:=ihC hc (.chF (by decide) sx) hok
  exact ⟨t',.sum X' C',st⟩
 | @term w1 w2 x t X C ihX ihC =>
  intro E ws' k' hc hk hok
  cases hk
  obtain ⟨w1',w2',rfl,g1,hc⟩:=hc.split
  obtain ⟨x',X',sx⟩:=ihX g1 .call (zh2 (P:=Okk S d E) (fun _ _ _ _ _ h=>h.1) C rfl hok)
  obtain ⟨t',C',st⟩:=ihC hc (.chF (by decide) sx) hok
  exact ⟨t',.term X' C',st⟩
 | chN =>
  intro E ws' k' hc hk hok
  cases hc
  cases hk with
  | chF _ h=>exact ⟨_,.chN,h⟩
 | @chC p g a sg w1 w2 y t hs Y C ihY ihC =>
  intro E ws' k' hc hk hok
  cases hk with
  | @chF _ _ _ a' hg sa =>
  have hb:=zh2 (P:=Okk S d E) (fun _ _ _ _ _ h=>h.1) C rfl hok
  cases hc with
  | use h hS hb' r=>exact absurd h (hg _ hs)
  | @keep _ sg' _ y1 c1 _ hc =>
  obtain ⟨w1',w2',rfl,g1,hc⟩:=hc.split
  obtain ⟨y',Y',sy⟩:=ihY g1 (KR.pk E p) hb.2
  obtain ⟨t',C',st⟩:=ihC (k':=.chF p g (.binary a'.fr y'.to sg'.sort a' y')) hc (.chF hg (by rw [c1.sort]; exact .binary sa sy)) hok
  exact ⟨t',.chC (by rw [c1.sort]; exact hs) Y' C',st⟩
 | @call w1 w2 x t X C ihX ihC =>
  intro E ws' k' hc hk hok
  cases hk
  obtain ⟨w1',w2',rfl,g1,hc⟩:=hc.split
  obtain ⟨x',X',sx⟩:=ihX g1 .atom (znk (P:=Okk S d E) (fun _ _ _ _ h=>h.1) C rfl hok)
  obtain ⟨t',C',st⟩:=ihC hc (.caF sx) hok
  exact ⟨t',.call X' C',st⟩
 | caN =>
  intro E ws' k' hc hk hok
  cases hc
  cases hk with
  | caF h=>exact ⟨_,.caN,h⟩
 | @caC a w1 w2 y t Y C ihY ihC =>
  intro E ws' k' hc hk hok
  cases hk with
  | @caF _ a' sa =>
  have hb:=znk (P:=Okk S d E) (fun _ _ _ _ h=>h.1) C rfl hok
  obtain ⟨w1',w2',rfl,g1,hc⟩:=hc.split
  obtain ⟨y',Y',sy⟩:=ihY g1 .atom hb.2
  obtain ⟨t',C',st⟩:=ihC hc (.caF (.call sa sy)) hok
  exact ⟨t',.caC Y' C',st⟩
 | @leaf tk x hb h16 hx =>
  intro E ws' k' hc hk hok
  cases hk
  cases hc with
  | @keep _ tk' _ _ h hS r =>
   cases r
   obtain ⟨x',h1,h2⟩:=ybs hb h16 hx h hS hok
   exact ⟨x',.leaf (by rw [h.sort]; exact hb) (by rw [h.sort]; exact h16) h1,h2⟩
  | @use _ blk _ _ h hS hbk r =>
   cases r
   rw [List.append_nil]
   have ex:x = .name tk.fr tk.to (zaw l tk.fr tk.to):=by
    unfold zeq at hx
    rw [if_neg (by rw [h]; decide),if_neg (by rw [h]; decide),if_neg (by rw [h]; decide)] at hx
    split at hx
    ·cases hx; rfl
    ·cases hx
   subst ex
   rcases hok with ⟨_,F,q1,q2⟩ | ⟨q,_⟩
   ·obtain ⟨d',g,hcase⟩:=hbk F q2
    rcases hcase with s | ⟨f,t,d2,rfl,s⟩
    ·exact ⟨d',g,.use q1 s⟩
    ·exact ⟨_,g,.useB q1 s⟩
   ·exact absurd hS q
 | @bracket ta tc ws x ha hc' X ihX =>
  intro E ws' k' hc hk hok
  cases hk
  obtain ⟨ta',y1,rfl,c1,hc⟩:=hc.one (fun e=>by rw [ha] at e; cases e)
  obtain ⟨ws',y2,rfl,g1,hc⟩:=hc.split
  obtain ⟨tc',y3,rfl,c2,hc⟩:=hc.one (fun e=>by rw [hc'] at e; cases e)
  cases hc
  obtain ⟨x',X',sx⟩:=ihX g1 .expr hok
  exact ⟨_,.bracket (by rw [c1.sort]; exact ha) (by rw [c2.sort]; exact hc') X',.bracket sx⟩
 | @pair ta tm tc w1 w2 x y ha hm hc' X Y ihX ihY =>
  intro E ws' k' hc hk hok
  cases hk
  obtain ⟨ta',y1,rfl,c1,hc⟩:=hc.one (fun e=>by rw [ha] at e; cases e)
  obtain ⟨w1',y2,rfl,g1,hc⟩:=hc.split
  obtain ⟨tm',y3,rfl,c2,hc⟩:=hc.one (fun e=>by rw [hm] at e; cases e)
  obtain ⟨w2',y4,rfl,g2,hc⟩:=hc.split
  obtain ⟨tc',y5,rfl,c3,hc⟩:=hc.one (fun e=>by rw [hc'] at e; cases e)
  cases hc
  obtain ⟨x',X',sx⟩:=ihX g1 .expr hok.1
  obtain ⟨y',Y',sy⟩:=ihY g2 .expr hok.2
  exact ⟨_,.pair (by rw [c1.sort]; exact ha) (by rw [c2.sort]; exact hm) (by rw [c3.sort]; exact hc') X' Y',.pair sx sy⟩
end Inl
end Go.Proofs.YtckhafpejefbbaaGreatDoor.Tw 
namespace Go.Proofs.YtckhafpejefbbaaGreatDoor.Tw
namespace Inl
open Go
inductive Pa:IE->T->T->IE->Prop
 | here {E:IE} {n:T}:Pa E n n E
 | bracket {E F:IE} {f t:Nat} {i n:T} (h:Pa E i n F):Pa E (.bracket f t i) n F
 | pairL {E F:IE} {f t:Nat} {a b n:T} (h:Pa E a n F):Pa E (.pair f t a b) n F
 | pairR {E F:IE} {f t:Nat} {a b n:T} (h:Pa E b n F):Pa E (.pair f t a b) n F
 | callL {E F:IE} {f t:Nat} {a b n:T} (h:Pa E a n F):Pa E (.call f t a b) n F
 | callR {E F:IE} {f t:Nat} {a b n:T} (h:Pa E b n F):Pa E (.call f t a b) n F
 | binL {E F:IE} {f t:Nat} {s:Int} {a b n:T} (h:Pa E a n F):Pa E (.binary f t s a b) n F
 | binR {E F:IE} {f t:Nat} {s:Int} {a b n:T} (h:Pa E b n F):Pa E (.binary f t s a b) n F
 | cond1 {E F:IE} {f t:Nat} {a b c n:T} (h:Pa E a n F):Pa E (.cond f t a b c) n F
 | cond2 {E F:IE} {f t:Nat} {a b c n:T} (h:Pa E b n F):Pa E (.cond f t a b c) n F
 | cond3 {E F:IE} {f t:Nat} {a b c n:T} (h:Pa E c n F):Pa E (.cond f t a b c) n F
 | fn {E F:IE} {f t k:Nat} {m:List UInt8} {a n:T} (h:Pa (.both m true::E) a n F):Pa E (.fn f t m k a) n F
 | lettD {E F:IE} {f t k:Nat} {r:Bool} {m:List UInt8} {a b n:T} (h:Pa (if r then .both m false::E else E) a n F):Pa E (.lett f t r m k a b) n F
 | lettB {E F:IE} {f t k:Nat} {r:Bool} {m:List UInt8} {a b n:T} (h:Pa (.both m true::E) b n F):Pa E (.lett f t r m k a b) n F
structure yfy (l:List UInt8) (n d b:T) (hd ds bs:List Tok):Prop where
 ex:∃tl tn te ti:Tok,hd=tl::tn::te::(ds ++ [ti])/\tl.sort=3/\tn.sort=1/\te.sort=15/\ti.sort=5/\n = .lett tl.fr b.to false (zaw l tn.fr tn.to) tn.fr d b
 D:G l .expr ds d
 B:G l .expr bs b
abbrev znz (l l':List UInt8):List Tok->List Tok->Prop:=Cp l l' NoS (.int 0 0 0)
theorem zha (t:Tok):∀q:List Tok,zjo (q ++ [t])↔zes t.sort
 | []=>Iff.rfl
 | [_]=>Iff.rfl
 | _::b::q=>zha t (b::q)
theorem zvt:∀(q:List Tok) {p:List Tok},p ≠ []->zjo p->zjo (q++p)
 | [],_,_,h=>h
 | [a],p,hp,h=>by
  cases p with
  | nil=>exact absurd rfl hp
  | cons b p=>exact h
 | a::b::q,p,hp,h=>zvt (b::q) hp h
def Cl (l:List UInt8) (n d b:T) (F E:IE) (k:GK) (ws:List Tok) (t:T):Prop :=
 ∃pre hd ds bs post,ws=pre++(hd++(bs++post))/\yfy l n d b hd ds bs/\(zjo pre/\(k ≠ .expr->pre ≠ [])) /\
  ∀ {l':List UInt8} {pre' post' bs':List Tok} {b':T} {k':GK},znz l l' pre pre'->znz l l' post post'->G l' .expr bs' b'->KR E k k'->Sb F n b'->∃t',G l' k' (pre'++(bs'++post')) t'/\Sb E t t'
variable {l : List UInt8} {n d b : T} {F : IE}
theorem Cl.wrap {E E1:IE} {k k1:GK} {ws ws1:List Tok} {t t1:T} (h:Cl l n d b F E1 k1 ws1 t1) (pre0 post0:List Tok) (hws:ws=pre0++(ws1++post0)) (hl:k1 = .expr->zjo pre0/\(k ≠ .expr->pre0 ≠ []))
  (hk:∀ {l':List UInt8} {pre0' post0':List Tok} {k':GK},znz l l' pre0 pre0'->znz l l' post0 post0'->KR E k k'->∃k1',KR E1 k1 k1'/\∀ {ws1':List Tok} {t1':T},G l' k1' ws1' t1'->Sb E1 t1 t1'->∃t',G l' k' (pre0'++(ws1'++post0')) t'/\Sb E t t'):Cl l n d b F E k ws t:=by
 obtain ⟨pre,hd,ds,bs,post,rfl,hh,⟨hp1,hp2⟩,hcl⟩:=h
 have hpp:zjo (pre0++pre)/\(k ≠ .expr->pre0++pre ≠ []):=by
  by_cases hp:pre=[]
  ·subst hp
   rw [List.append_nil]
   refine hl ?_
   cases k1 <;> first | rfl | exact absurd rfl (hp2 (by simp))
  ·exact ⟨zvt pre0 hp hp1,fun _=>by simp [hp]⟩
 refine ⟨pre0++pre,hd,ds,bs,post++post0,by rw [hws]; simp only [List.append_assoc],hh,hpp,?_⟩
 intro l' pre' post' bs' b' k' h1 h2 h3 h4 h5
 obtain ⟨p0,p1,rfl,q0,q1⟩:=h1.split
 obtain ⟨s1,s0,rfl,r1,r0⟩:=h2.split
 obtain ⟨k1',kk,hf⟩:=hk q0 r0 h4
 obtain ⟨t1',g1,sb1⟩:=hcl q1 r1 h3 kk h5
 obtain ⟨t',g,s⟩:=hf g1 sb1
 refine ⟨t',?_,s⟩
 simpa only [List.append_assoc] using g
def accK:GK->Option T
 | .chF _ _ a=>some a
 | .caF a=>some a
 | _=>none
theorem zbb {l':List UInt8} {k:GK} {ws ws':List Tok} {t:T} {E:IE} {k':GK} (h:G l k ws t) (hc:znz l l' ws ws') (hk:KR E k k') (hb:Bd E t):∃t',G l' k' ws' t'/\Sb E t t':=zvs h hc hk (hb.okk _)
theorem ydk {k:GK} {ws:List Tok} {t:T} (h:G l k ws t) (hn:∃f0 t0 x k0,n = .lett f0 t0 false x k0 d b):∀ {E:IE},Pa E t n F->Bd E t->(∃a,accK k=some a/\Pa E a n F)\/Cl l n d b F E k ws t:=by
 have keep:∀ {l':List UInt8} {a:Tok} {ws ws':List Tok},znz l l' (a::ws) ws'->∃a' y,ws'=a'::y/\zzp l l' a a'/\znz l l' ws y:=fun h=>h.one (fun _ h=>h)
 have exprOf:∀ {E:IE} {ws:List Tok} {t:T},((∃a,accK .expr=some a/\Pa E a n F)\/Cl l n d b F E .expr ws t)->Cl l n d b F E .expr ws t:=fun h=>by
  rcases h with ⟨a,e,_⟩ | h
  ·cases e
  ·exact h
 induction h with
 | @lett tl tn te ti rcs ds bs rc a c hl hrc hn' he hi hp D B ihD ihB =>
  intro E hP hB
  refine .inr ?_
  cases hP with
  | here =>
   obtain ⟨f0,t0,x,k0,e⟩:=hn
   cases e
   rcases hrc with ⟨rfl,_⟩ | ⟨r,_,_,e⟩
   ·refine ⟨[],tl::tn::te::(ds ++ [ti]),ds,bs,[],by simp,⟨⟨tl,tn,te,ti,rfl,hl,hn',he,hi,rfl⟩,D,B⟩,⟨trivial,fun h=>absurd rfl h⟩,?_⟩
    intro l' pre' post' bs' b' k' h1 h2 h3 h4 h5
    cases h1
    cases h2
    cases h4
    exact ⟨b',by simpa using h3,h5⟩
   ·cases e
  | lettD h =>
   refine (exprOf (ihD h hB.1)).wrap (tl::(rcs ++ [tn,te])) (ti::bs) (by simp) (fun _=>⟨by have:=(zha te (tl::(rcs ++ [tn]))).2 (.inr (.inl he)); simpa using this,fun h=>absurd rfl h⟩) ?_
   intro l' pre0' post0' k' h1 h2 h3
   cases h3
   refine ⟨.expr,.expr,?_⟩
   intro ws1' t1' g s
   obtain ⟨tl',y1,rfl,c1,h1⟩:=keep h1
   obtain ⟨rcs',y2,rfl,hr,h1⟩:=h1.split
   obtain ⟨tn',y3,rfl,c3,h1⟩:=keep h1
   obtain ⟨te',y4,rfl,c4,h1⟩:=keep h1
   cases h1
   obtain ⟨ti',bs',rfl,c6,h2⟩:=keep h2
   obtain ⟨b',B',sb⟩:=zbb B h2 .expr hB.2
   have hrc':(rcs'=[]/\rc=false)\/(∃r,rcs'=[r]/\r.sort=4/\rc=true):=by
    rcases hrc with ⟨rfl,rfl⟩ | ⟨r,rfl,h4,rfl⟩
    ·cases hr; exact .inl ⟨rfl,rfl⟩
    ·obtain ⟨r',z,rfl,q1,q2⟩:=keep hr
     cases q2
     exact .inr ⟨r',rfl,by rw [q1.sort]; exact h4,rfl⟩
   refine ⟨.lett tl'.fr b'.to rc (zaw l' tn'.fr tn'.to) tn'.fr t1' b',?_,?_⟩
   ·have:=G.lett (l:=l') (show tl'.sort=3 by rw [c1.sort]; exact hl) hrc' (show tn'.sort=1 by rw [c3.sort]; exact hn') (show te'.sort=15 by rw [c4.sort]; exact he) (show ti'.sort=5 by rw [c6.sort]; exact hi) (c3.fit hp) g B'
    simpa using this
   ·rw [c3.text]
    exact .lett s sb
  | lettB h =>
   refine (exprOf (ihB h hB.2)).wrap (tl::(rcs++tn::te::(ds ++ [ti]))) [] (by simp) (fun _=>⟨by have:=(zha ti (tl::(rcs++tn::te::ds))).2 (by unfold zes; omega); simpa using this,fun h=>absurd rfl h⟩) ?_
   intro l' pre0' post0' k' h1 h2 h3
   cases h3
   cases h2
   refine ⟨.expr,.expr,?_⟩
   intro ws1' t1' g s
   obtain ⟨tl',y1,rfl,c1,h1⟩:=keep h1
   obtain ⟨rcs',y2,rfl,hr,h1⟩:=h1.split
   obtain ⟨tn',y3,rfl,c3,h1⟩:=keep h1
   obtain ⟨te',y4,rfl,c4,h1⟩:=keep h1
   obtain ⟨ds',y5,rfl,hd,h1⟩:=h1.split
   obtain ⟨ti',y6,rfl,c6,h1⟩:=keep h1
   cases h1
   obtain ⟨a',A',sa⟩:=zbb D hd .expr hB.1
   have hrc':(rcs'=[]/\rc=false)\/(∃r,rcs'=[r]/\r.sort=4/\rc=true):=by
    rcases hrc with ⟨rfl,rfl⟩ | ⟨r,rfl,h4,rfl⟩
    ·cases hr; exact .inl ⟨rfl,rfl⟩
    ·obtain ⟨r',z,rfl,q1,q2⟩:=keep hr
     cases q2
     exact .inr ⟨r',rfl,by rw [q1.sort]; exact h4,rfl⟩
   refine ⟨.lett tl'.fr t1'.to rc (zaw l' tn'.fr tn'.to) tn'.fr a' t1',?_,?_⟩
   ·have:=G.lett (l:=l') (show tl'.sort=3 by rw [c1.sort]; exact hl) hrc' (show tn'.sort=1 by rw [c3.sort]; exact hn') (show te'.sort=15 by rw [c4.sort]; exact he) (show ti'.sort=5 by rw [c6.sort]; exact hi) (c3.fit hp) A' g
    simpa using this
   ·rw [c3.text]
    exact .lett sa s
 | @fn tl tn ta bs c hl hn' ha hp B ihB =>
  intro E hP hB
  refine .inr ?_
  cases hP with
  | here=>obtain ⟨f0,t0,x,k0,e⟩:=hn; cases e
  | fn h =>
   refine (exprOf (ihB h hB)).wrap [tl,tn,ta] [] (by simp) (fun _=>⟨show zes ta.sort by unfold zes; omega,fun h=>absurd rfl h⟩) ?_
   intro l' pre0' post0' k' h1 h2 h3
   cases h3
   cases h2
   refine ⟨.expr,.expr,?_⟩
   intro ws1' t1' g s
   obtain ⟨tl',y1,rfl,c1,h1⟩:=keep h1
   obtain ⟨tn',y3,rfl,c3,h1⟩:=keep h1
   obtain ⟨ta',y4,rfl,c4,h1⟩:=keep h1
   cases h1
   refine ⟨.fn tl'.fr t1'.to (zaw l' tn'.fr tn'.to) tn'.fr t1',?_,?_⟩
   ·have:=G.fn (l:=l') (show tl'.sort=6 by rw [c1.sort]; exact hl) (show tn'.sort=1 by rw [c3.sort]; exact hn') (show ta'.sort=14 by rw [c4.sort]; exact ha) (c3.fit hp) g
    simpa using this
   ·rw [c3.text]
    exact .fn s
 | @cond tl t1 t2 cs xs ys c x y hl h1' h2' C X Y ihC ihX ihY =>
  intro E hP hB
  refine .inr ?_
  cases hP with
  | here=>obtain ⟨f0,t0,x,k0,e⟩:=hn; cases e
  | cond1 h =>
   refine (exprOf (ihC h hB.1)).wrap [tl] (t1::(xs++t2::ys)) (by simp) (fun _=>⟨show zes tl.sort by unfold zes; omega,fun h=>absurd rfl h⟩) ?_
   intro l' pre0' post0' k' h1 h2 h3
   cases h3
   refine ⟨.expr,.expr,?_⟩
   intro ws1' t1' g s
   obtain ⟨tl',y1,rfl,c1,h1⟩:=keep h1
   cases h1
   obtain ⟨u1,y2,rfl,c2,h2⟩:=keep h2
   obtain ⟨xs',y3,rfl,g2,h2⟩:=h2.split
   obtain ⟨u2,ys',rfl,c3,h2⟩:=keep h2
   obtain ⟨x',X',sx⟩:=zbb X g2 .expr hB.2.1
   obtain ⟨y',Y',sy⟩:=zbb Y h2 .expr hB.2.2
   refine ⟨.cond tl'.fr y'.to t1' x' y',?_,.cond s sx sy⟩
   have:=G.cond (l:=l') (show tl'.sort=7 by rw [c1.sort]; exact hl) (show u1.sort=8 by rw [c2.sort]; exact h1') (show u2.sort=9 by rw [c3.sort]; exact h2') g X' Y'
   simpa using this
  | cond2 h =>
   refine (exprOf (ihX h hB.2.1)).wrap (tl::(cs ++ [t1])) (t2::ys) (by simp) (fun _=>⟨by have:=(zha t1 (tl::cs)).2 (by unfold zes; omega); simpa using this,fun h=>absurd rfl h⟩) ?_
   intro l' pre0' post0' k' h1 h2 h3
   cases h3
   refine ⟨.expr,.expr,?_⟩
   intro ws1' t1' g s
   obtain ⟨tl',y1,rfl,c1,h1⟩:=keep h1
   obtain ⟨cs',y3,rfl,g2,h1⟩:=h1.split
   obtain ⟨u1,y2,rfl,c2,h1⟩:=keep h1
   cases h1
   obtain ⟨u2,ys',rfl,c3,h2⟩:=keep h2
   obtain ⟨c',C',sc⟩:=zbb C g2 .expr hB.1
   obtain ⟨y',Y',sy⟩:=zbb Y h2 .expr hB.2.2
   refine ⟨.cond tl'.fr y'.to c' t1' y',?_,.cond sc s sy⟩
   have:=G.cond (l:=l') (show tl'.sort=7 by rw [c1.sort]; exact hl) (show u1.sort=8 by rw [c2.sort]; exact h1') (show u2.sort=9 by rw [c3.sort]; exact h2') C' g Y'
   simpa using this
  | cond3 h =>
   refine (exprOf (ihY h hB.2.2)).wrap (tl::(cs++t1::(xs ++ [t2]))) [] (by simp) (fun _=>⟨by have:=(zha t2 (tl::(cs++t1::xs))).2 (by unfold zes; omega); simpa using this,fun h=>absurd rfl h⟩) ?_
   intro l' pre0' post0' k' h1 h2 h3
   cases h3
   cases h2
   refine ⟨.expr,.expr,?_⟩
   intro ws1' t1' g s
   obtain ⟨tl',y1,rfl,c1,h1⟩:=keep h1
   obtain ⟨cs',y3,rfl,g2,h1⟩:=h1.split
   obtain ⟨u1,y2,rfl,c2,h1⟩:=keep h1
   obtain ⟨xs',y4,rfl,g3,h1⟩:=h1.split
   obtain ⟨u2,y5,rfl,c3,h1⟩:=keep h1
   cases h1
   obtain ⟨c',C',sc⟩:=zbb C g2 .expr hB.1
   obtain ⟨x',X',sx⟩:=zbb X g3 .expr hB.2.1
   refine ⟨.cond tl'.fr t1'.to c' x' t1',?_,.cond sc sx s⟩
   have:=G.cond (l:=l') (show tl'.sort=7 by rw [c1.sort]; exact hl) (show u1.sort=8 by rw [c2.sort]; exact h1') (show u2.sort=9 by rw [c3.sort]; exact h2') C' X' g
   simpa using this
 | ecmp h ih =>
  intro E hP hB
  refine .inr ?_
  rcases ih hP hB with ⟨a,e,_⟩ | hc
  ·cases e
  ·refine hc.wrap [] [] (by simp) (fun e=>by cases e) ?_
   intro l' pre0' post0' k' h1 h2 h3
   cases h1; cases h2; cases h3
   exact ⟨.cmp,.cmp,fun {ws1' t1'} g s=>⟨t1',by simpa using G.ecmp g,s⟩⟩
 | cmp1 h ih =>
  intro E hP hB
  refine .inr ?_
  rcases ih hP hB with ⟨a,e,_⟩ | hc
  ·cases e
  ·refine hc.wrap [] [] (by simp) (fun e=>by cases e) ?_
   intro l' pre0' post0' k' h1 h2 h3
   cases h1; cases h2; cases h3
   exact ⟨.sum,.sum,fun {ws1' t1'} g s=>⟨t1',by simpa using G.cmp1 g,s⟩⟩
 | @cmp2 w1 w2 sg x y X hs Y ihX ihY =>
  intro E hP hB
  refine .inr ?_
  cases hP with
  | here=>obtain ⟨f0,t0,x,k0,e⟩:=hn; cases e
  | binL h =>
   rcases ihX h hB.1 with ⟨a,e,_⟩ | hc
   ·cases e
   ·refine hc.wrap [] (sg::w2) (by simp) (fun e=>by cases e) ?_
    intro l' pre0' post0' k' h1 h2 h3
    cases h1; cases h3
    refine ⟨.sum,.sum,?_⟩
    intro ws1' t1' g s
    obtain ⟨sg',w2',rfl,c1,h2⟩:=keep h2
    obtain ⟨y',Y',sy⟩:=zbb Y h2 .sum hB.2
    refine ⟨.binary t1'.fr y'.to sg'.sort t1' y',by simpa using G.cmp2 g (show sg'.sort=23\/sg'.sort=15 by rw [c1.sort]; exact hs) Y',?_⟩
    rw [c1.sort]
    exact .binary s sy
  | binR h =>
   rcases ihY h hB.2 with ⟨a,e,_⟩ | hc
   ·cases e
   ·refine hc.wrap (w1 ++ [sg]) [] (by simp) (fun e=>by cases e) ?_
    intro l' pre0' post0' k' h1 h2 h3
    cases h2; cases h3
    refine ⟨.sum,.sum,?_⟩
    intro ws1' t1' g s
    obtain ⟨w1',y1,rfl,g1,h1⟩:=h1.split
    obtain ⟨sg',y2,rfl,c1,h1⟩:=keep h1
    cases h1
    obtain ⟨x',X',sx⟩:=zbb X g1 .sum hB.1
    refine ⟨.binary x'.fr t1'.to sg'.sort x' t1',by simpa using G.cmp2 X' (show sg'.sort=23\/sg'.sort=15 by rw [c1.sort]; exact hs) g,?_⟩
    rw [c1.sort]
    exact .binary sx s
 | @sum w1 w2 x t X C ihX ihC =>
  intro E hP hB
  refine .inr ?_
  rcases ihC hP hB with ⟨a,e,hpa⟩ | hc
  ·cases e
   rcases ihX hpa (zh2 (P:=Bd E) (fun _ _ _ _ _ h=>h.1) C rfl hB) with ⟨a,e,_⟩ | hc
   ·cases e
   ·refine hc.wrap [] w2 (by simp) (fun e=>by cases e) ?_
    intro l' pre0' post0' k' h1 h2 h3
    cases h1; cases h3
    refine ⟨.term,.term,?_⟩
    intro ws1' t1' g s
    obtain ⟨t',C',st⟩:=zbb C h2 (.chF (by decide) s) hB
    exact ⟨t',by simpa using G.sum g C',st⟩
  ·refine hc.wrap w1 [] (by simp) (fun e=>by cases e) ?_
   intro l' pre0' post0' k' h1 h2 h3
   cases h2; cases h3
   obtain ⟨x',X',sx⟩:=zbb X h1 .term (zh2 (P:=Bd E) (fun _ _ _ _ _ h=>h.1) C rfl hB)
   refine ⟨.chF .term [19,20] x',.chF (by decide) sx,?_⟩
   intro ws1' t1' g s
   exact ⟨t1',by simpa using G.sum X' g,s⟩
 | @term w1 w2 x t X C ihX ihC =>
  intro E hP hB
  refine .inr ?_
  rcases ihC hP hB with ⟨a,e,hpa⟩ | hc
  ·cases e
   rcases ihX hpa (zh2 (P:=Bd E) (fun _ _ _ _ _ h=>h.1) C rfl hB) with ⟨a,e,_⟩ | hc
   ·cases e
   ·refine hc.wrap [] w2 (by simp) (fun e=>by cases e) ?_
    intro l' pre0' post0' k' h1 h2 h3
    cases h1; cases h3
    refine ⟨.call,.call,?_⟩
    intro ws1' t1' g s
    obtain ⟨t',C',st⟩:=zbb C h2 (.chF (by decide) s) hB
    exact ⟨t',by simpa using G.term g C',st⟩
  ·refine hc.wrap w1 [] (by simp) (fun e=>by cases e) ?_
   intro l' pre0' post0' k' h1 h2 h3
   cases h2; cases h3
   obtain ⟨x',X',sx⟩:=zbb X h1 .call (zh2 (P:=Bd E) (fun _ _ _ _ _ h=>h.1) C rfl hB)
   refine ⟨.chF .call [21,22] x',.chF (by decide) sx,?_⟩
   intro ws1' t1' g s
   exact ⟨t1',by simpa using G.term X' g,s⟩
 | chN=>intro E hP hB; exact .inl ⟨_,rfl,hP⟩
 | @chC p g a sg w1 w2 y t hs Y C ihY ihC =>
  intro E hP hB
  have hb:=zh2 (P:=Bd E) (fun _ _ _ _ _ h=>h.1) C rfl hB
  rcases ihC hP hB with ⟨a0,e,hpa⟩ | hc
  ·cases e
   cases hpa with
   | here=>obtain ⟨f0,t0,x,k0,e⟩:=hn; cases e
   | binL h=>exact .inl ⟨a,rfl,h⟩
   | binR h =>
    refine .inr ?_
    rcases ihY h hb.2 with ⟨a0,e,_⟩ | hc
    ·cases p <;> cases e
    ·refine hc.wrap [sg] w2 (by simp) (fun e=>by cases p <;> cases e) ?_
     intro l' pre0' post0' k' h1 h2 h3
     cases h3 with
     | @chF _ _ _ a' hg sa =>
     refine ⟨pk p,KR.pk E p,?_⟩
     intro ws1' t1' gg s
     obtain ⟨sg',y1,rfl,c1,h1⟩:=keep h1
     cases h1
     obtain ⟨t',C',st⟩:=zbb (k':=.chF p g (.binary a'.fr t1'.to sg'.sort a' t1')) C h2 (.chF hg (by rw [c1.sort]; exact .binary sa s)) hB
     exact ⟨t',by simpa using G.chC (show sg'.sort∈g by rw [c1.sort]; exact hs) gg C',st⟩
  ·refine .inr (hc.wrap (sg::w1) [] (by simp) (fun e=>by cases e) ?_)
   intro l' pre0' post0' k' h1 h2 h3
   cases h2
   cases h3 with
   | @chF _ _ _ a' hg sa =>
   obtain ⟨sg',y1,rfl,c1,h1⟩:=keep h1
   obtain ⟨y',Y',sy⟩:=zbb Y h1 (KR.pk E p) hb.2
   refine ⟨.chF p g (.binary a'.fr y'.to sg'.sort a' y'),.chF hg (by rw [c1.sort]; exact .binary sa sy),?_⟩
   intro ws1' t1' gg s
   exact ⟨t1',by simpa using G.chC (show sg'.sort∈g by rw [c1.sort]; exact hs) Y' gg,s⟩
 | @call w1 w2 x t X C ihX ihC =>
  intro E hP hB
  refine .inr ?_
  rcases ihC hP hB with ⟨a,e,hpa⟩ | hc
  ·cases e
   rcases ihX hpa (znk (P:=Bd E) (fun _ _ _ _ h=>h.1) C rfl hB) with ⟨a,e,_⟩ | hc
   ·cases e
   ·refine hc.wrap [] w2 (by simp) (fun e=>by cases e) ?_
    intro l' pre0' post0' k' h1 h2 h3
    cases h1; cases h3
    refine ⟨.atom,.atom,?_⟩
    intro ws1' t1' g s
    obtain ⟨t',C',st⟩:=zbb C h2 (.caF s) hB
    exact ⟨t',by simpa using G.call g C',st⟩
  ·refine hc.wrap w1 [] (by simp) (fun e=>by cases e) ?_
   intro l' pre0' post0' k' h1 h2 h3
   cases h2; cases h3
   obtain ⟨x',X',sx⟩:=zbb X h1 .atom (znk (P:=Bd E) (fun _ _ _ _ h=>h.1) C rfl hB)
   refine ⟨.caF x',.caF sx,?_⟩
   intro ws1' t1' g s
   exact ⟨t1',by simpa using G.call X' g,s⟩
 | caN=>intro E hP hB; exact .inl ⟨_,rfl,hP⟩
 | @caC a w1 w2 y t Y C ihY ihC =>
  intro E hP hB
  have hb:=znk (P:=Bd E) (fun _ _ _ _ h=>h.1) C rfl hB
  rcases ihC hP hB with ⟨a0,e,hpa⟩ | hc
  ·cases e
   cases hpa with
   | here=>obtain ⟨f0,t0,x,k0,e⟩:=hn; cases e
   | callL h=>exact .inl ⟨a,rfl,h⟩
   | callR h =>
    refine .inr ?_
    rcases ihY h hb.2 with ⟨a0,e,_⟩ | hc
    ·cases e
    ·refine hc.wrap [] w2 (by simp) (fun e=>by cases e) ?_
     intro l' pre0' post0' k' h1 h2 h3
     cases h1
     cases h3 with
     | @caF _ a' sa =>
     refine ⟨.atom,.atom,?_⟩
     intro ws1' t1' gg s
     obtain ⟨t',C',st⟩:=zbb (k':=.caF (.call a'.fr t1'.to a' t1')) C h2 (.caF (.call sa s)) hB
     exact ⟨t',by simpa using G.caC gg C',st⟩
  ·refine .inr (hc.wrap w1 [] (by simp) (fun e=>by cases e) ?_)
   intro l' pre0' post0' k' h1 h2 h3
   cases h2
   cases h3 with
   | @caF _ a' sa =>
   obtain ⟨y',Y',sy⟩:=zbb Y h1 .atom hb.2
   refine ⟨.caF (.call a'.fr y'.to a' y'),.caF (.call sa sy),?_⟩
   intro ws1' t1' gg s
   exact ⟨t1',by simpa using G.caC Y' gg,s⟩
 | @leaf tk x hb h16 hx =>
  intro E hP hB
  exfalso
  obtain ⟨f0,t0,y,k0,rfl⟩:=hn
  unfold zeq at hx
  split at hx
  ·split at hx
   ·obtain ⟨v,_,hx⟩:=zbE.1 hx
    cases hx; cases hP
   ·cases hx
  ·split at hx
   ·cases hx; cases hP
   ·split at hx
    ·cases hx; cases hP
    ·split at hx
     ·cases hx; cases hP
     ·cases hx
 | @bracket ta tc ws x ha hc' X ihX =>
  intro E hP hB
  refine .inr ?_
  cases hP with
  | here=>obtain ⟨f0,t0,x,k0,e⟩:=hn; cases e
  | bracket h =>
   refine (exprOf (ihX h hB)).wrap [ta] [tc] (by simp) (fun _=>⟨show zes ta.sort by unfold zes; omega,fun _=>by simp⟩) ?_
   intro l' pre0' post0' k' h1 h2 h3
   cases h3
   refine ⟨.expr,.expr,?_⟩
   intro ws1' t1' g s
   obtain ⟨ta',y1,rfl,c1,h1⟩:=keep h1
   cases h1
   obtain ⟨tc',y2,rfl,c2,h2⟩:=keep h2
   cases h2
   exact ⟨.bracket ta'.fr tc'.to t1',by simpa using G.bracket (show ta'.sort=16 by rw [c1.sort]; exact ha) (show tc'.sort=17 by rw [c2.sort]; exact hc') g,.bracket s⟩
 | @pair ta tm tc w1 w2 x y ha hm hc' X Y ihX ihY =>
  intro E hP hB
  refine .inr ?_
  cases hP with
  | here=>obtain ⟨f0,t0,x,k0,e⟩:=hn; cases e
  | pairL h =>
   refine (exprOf (ihX h hB.1)).wrap [ta] (tm::(w2 ++ [tc])) (by simp) (fun _=>⟨show zes ta.sort by unfold zes; omega,fun _=>by simp⟩) ?_
   intro l' pre0' post0' k' h1 h2 h3
   cases h3
   refine ⟨.expr,.expr,?_⟩
   intro ws1' t1' g s
   obtain ⟨ta',y1,rfl,c1,h1⟩:=keep h1
   cases h1
   obtain ⟨tm',y2,rfl,c2,h2⟩:=keep h2
   obtain ⟨w2',y3,rfl,g2,h2⟩:=h2.split
   obtain ⟨tc',y4,rfl,c3,h2⟩:=keep h2
   cases h2
   obtain ⟨y',Y',sy⟩:=zbb Y g2 .expr hB.2
   exact ⟨.pair ta'.fr tc'.to t1' y',by simpa using G.pair (show ta'.sort=16 by rw [c1.sort]; exact ha) (show tm'.sort=18 by rw [c2.sort]; exact hm) (show tc'.sort=17 by rw [c3.sort]; exact hc') g Y',.pair s sy⟩
  | pairR h =>
   refine (exprOf (ihY h hB.2)).wrap (ta::(w1 ++ [tm])) [tc] (by simp) (fun _=>⟨by have:=(zha tm (ta::w1)).2 (by unfold zes; omega); simpa using this,fun _=>by simp⟩) ?_
   intro l' pre0' post0' k' h1 h2 h3
   cases h3
   refine ⟨.expr,.expr,?_⟩
   intro ws1' t1' g s
   obtain ⟨ta',y1,rfl,c1,h1⟩:=keep h1
   obtain ⟨w1',y3,rfl,g2,h1⟩:=h1.split
   obtain ⟨tm',y2,rfl,c2,h1⟩:=keep h1
   cases h1
   obtain ⟨tc',y4,rfl,c3,h2⟩:=keep h2
   cases h2
   obtain ⟨x',X',sx⟩:=zbb X g2 .expr hB.1
   exact ⟨.pair ta'.fr tc'.to x' t1',by simpa using G.pair (show ta'.sort=16 by rw [c1.sort]; exact ha) (show tm'.sort=18 by rw [c2.sort]; exact hm) (show tc'.sort=17 by rw [c3.sort]; exact hc') X' g,.pair sx s⟩
end Inl
end Go.Proofs.YtckhafpejefbbaaGreatDoor.Tw 
