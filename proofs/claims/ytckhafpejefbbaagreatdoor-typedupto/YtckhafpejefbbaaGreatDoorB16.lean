import Derived.Test.YtckhafpejefbbaaGreatDoorB15
import Derived.LoopIn
import Derived.LoopNIn

set_option maxRecDepth 100000
set_option maxHeartbeats 4000000
namespace Go.Proofs.YtckhafpejefbbaaGreatDoor
section
open Tw Go.Proofs.Tryz
open Go.RowKit Go.Shelf
attribute [local go_sem] Oper.semAt_some
structure TN where
 t:Tw.T
 v:Value
def NDL(w:World)(hi:Nat):Tw.T->Value->List TN->Prop
 |.name fr to tx,v,L=>nodeAt w 0 hi fr to [ug tx] 83 87 v/\L=[⟨.name fr to tx,v⟩]
 |.int fr to n,v,L=>nodeAt w 0 hi fr to [.int .i64 n] 191 194 v/\L=[⟨.int fr to n,v⟩]
 |.truth fr to b,v,L=>nodeAt w 0 hi fr to [.bool b] 195 198 v/\L=[⟨.truth fr to b,v⟩]
 |.side fr to b,v,L=>nodeAt w 0 hi fr to [.bool b] 199 201 v/\L=[⟨.side fr to b,v⟩]
 |.bracket fr to i,v,L=>∃v1 L1,nodeAt w 0 hi fr to [v1] 204 206 v/\NDL w hi i v1 L1/\L=⟨.bracket fr to i,v⟩::L1
 |.pair fr to l r,v,L=>∃v1 v2 L1 L2,nodeAt w 0 hi fr to [v1,v2] 207 229 v/\NDL w hi l v1 L1/\NDL w hi r v2 L2/\L=⟨.pair fr to l r,v⟩::(L1++L2)
 |.call fr to l r,v,L=>∃v1 v2 L1 L2,nodeAt w 0 hi fr to [v1,v2] 209 319 v/\NDL w hi l v1 L1/\NDL w hi r v2 L2/\L=⟨.call fr to l r,v⟩::(L1++L2)
 |.binary fr to sg l r,v,L=>∃v1 v2 L1 L2,nodeAt w 0 hi fr to [.int .i64 sg,v1,v2] 211 322 v/\NDL w hi l v1 L1/\NDL w hi r v2 L2/\L=⟨.binary fr to sg l r,v⟩::(L1++L2)
 |.cond fr to c t f,v,L=>∃v1 v2 v3 L1 L2 a,nodeAt w 0 hi fr to [v1,v2,v3] 213 326 v/\NDL w hi c v1 L1/\NDL w hi t v2 L2/\NDL w hi f v3 a/\L=⟨.cond fr to c t f,v⟩::(L1++(L2++a))
 |.fn fr to bn bat b,v,L=>∃v1 L1,nodeAt w 0 hi fr to [ug bn,.int .i64 bat,v1] 215 235 v/\NDL w hi b v1 L1/\L=⟨.fn fr to bn bat b,v⟩::L1
 |.lett fr to rc bn bat d b,v,L=>∃v1 v2 L1 L2,nodeAt w 0 hi fr to [.bool rc,ug bn,.int .i64 bat,v1,v2] 136 140 v/\NDL w hi d v1 L1/\NDL w hi b v2 L2/\L=⟨.lett fr to rc bn bat d b,v⟩::(L1++L2)
theorem NDL.of_rep{w:World}{hi:Nat}:∀ {t:Tw.T} {v:Value},Rep w 0 hi t v->∃L,NDL w hi t v L
 |.name ..,_,h=>⟨_,h,rfl⟩
 |.int ..,_,h=>⟨_,h,rfl⟩
 |.truth ..,_,h=>⟨_,h,rfl⟩
 |.side ..,_,h=>⟨_,h,rfl⟩
 |.bracket ..,_,⟨v1,h,r1⟩=>let⟨L,a⟩:=NDL.of_rep r1;⟨_,v1,L,h,a,rfl⟩
 |.pair ..,_,⟨v1,v2,h,r1,r2⟩=>let⟨b,a⟩:=NDL.of_rep r1;let⟨c,d⟩:=NDL.of_rep r2;⟨_,v1,v2,b,c,h,a,d,rfl⟩
 |.call ..,_,⟨v1,v2,h,r1,r2⟩=>let⟨b,a⟩:=NDL.of_rep r1;let⟨c,d⟩:=NDL.of_rep r2;⟨_,v1,v2,b,c,h,a,d,rfl⟩
 |.binary ..,_,⟨v1,v2,h,r1,r2⟩=>let⟨b,a⟩:=NDL.of_rep r1;let⟨c,d⟩:=NDL.of_rep r2;⟨_,v1,v2,b,c,h,a,d,rfl⟩
 |.cond ..,_,⟨v1,v2,v3,h,r1,r2,r3⟩=>let⟨b,a⟩:=NDL.of_rep r1;let⟨c,d⟩:=NDL.of_rep r2;let⟨e,f⟩:=NDL.of_rep r3;⟨_,v1,v2,v3,b,c,e,h,a,d,f,rfl⟩
 |.fn ..,_,⟨v1,h,r1⟩=>let⟨L,a⟩:=NDL.of_rep r1;⟨_,v1,L,h,a,rfl⟩
 |.lett ..,_,⟨v1,v2,h,r1,r2⟩=>let⟨b,a⟩:=NDL.of_rep r1;let⟨c,d⟩:=NDL.of_rep r2;⟨_,v1,v2,b,c,h,a,d,rfl⟩
theorem NDL.rep{w:World}{hi:Nat}:∀ {t:Tw.T} {v:Value} {L:List TN},NDL w hi t v L->Rep w 0 hi t v/\∀x∈L,Rep w 0 hi x.t x.v
 |.name ..,_,_,⟨h,e⟩=>⟨h,by subst e;intro x a;simp only[xB]at a;subst a;exact h⟩
 |.int ..,_,_,⟨h,e⟩=>⟨h,by subst e;intro x a;simp only[xB]at a;subst a;exact h⟩
 |.truth ..,_,_,⟨h,e⟩=>⟨h,by subst e;intro x a;simp only[xB]at a;subst a;exact h⟩
 |.side ..,_,_,⟨h,e⟩=>⟨h,by subst e;intro x a;simp only[xB]at a;subst a;exact h⟩
 |.bracket ..,_,_,⟨v1,L1,h,n1,e⟩=>by
  obtain⟨b,a1⟩:=NDL.rep n1;subst e;refine⟨⟨v1,h,b⟩,λx a=>?_⟩;simp only[zmC]at a;rcases a with rfl|a
  ·exact⟨v1,h,b⟩
  ·exact a1 x a
 |.pair ..,_,_,⟨v1,v2,L1,L2,h,n1,n2,e⟩=>by
  obtain⟨b,a1⟩:=NDL.rep n1;obtain⟨c,d⟩:=NDL.rep n2;subst e;refine⟨⟨v1,v2,h,b,c⟩,λx a=>?_⟩;simp only[zmC,zmA]at a;rcases a with rfl|a|a
  ·exact⟨v1,v2,h,b,c⟩
  ·exact a1 x a
  ·exact d x a
 |.call ..,_,_,⟨v1,v2,L1,L2,h,n1,n2,e⟩=>by
  obtain⟨b,a1⟩:=NDL.rep n1;obtain⟨c,d⟩:=NDL.rep n2;subst e;refine⟨⟨v1,v2,h,b,c⟩,λx a=>?_⟩;simp only[zmC,zmA]at a;rcases a with rfl|a|a
  ·exact⟨v1,v2,h,b,c⟩
  ·exact a1 x a
  ·exact d x a
 |.binary ..,_,_,⟨v1,v2,L1,L2,h,n1,n2,e⟩=>by
  obtain⟨b,a1⟩:=NDL.rep n1;obtain⟨c,d⟩:=NDL.rep n2;subst e;refine⟨⟨v1,v2,h,b,c⟩,λx a=>?_⟩;simp only[zmC,zmA]at a;rcases a with rfl|a|a
  ·exact⟨v1,v2,h,b,c⟩
  ·exact a1 x a
  ·exact d x a
 |.cond ..,_,_,⟨v1,v2,v3,L1,L2,L3,h,n1,n2,n3,e⟩=>by
  obtain⟨b,a1⟩:=NDL.rep n1;obtain⟨c,d⟩:=NDL.rep n2;obtain⟨f,g⟩:=NDL.rep n3;subst e;refine⟨⟨v1,v2,v3,h,b,c,f⟩,λx a=>?_⟩;simp only[zmC,zmA]at a;rcases a with rfl|a|a|a
  ·exact⟨v1,v2,v3,h,b,c,f⟩
  ·exact a1 x a
  ·exact d x a
  ·exact g x a
 |.fn ..,_,_,⟨v1,L1,h,n1,e⟩=>by
  obtain⟨b,a1⟩:=NDL.rep n1;subst e;refine⟨⟨v1,h,b⟩,λx a=>?_⟩;simp only[zmC]at a;rcases a with rfl|a
  ·exact⟨v1,h,b⟩
  ·exact a1 x a
 |.lett ..,_,_,⟨v1,v2,L1,L2,h,n1,n2,e⟩=>by
  obtain⟨b,a1⟩:=NDL.rep n1;obtain⟨c,d⟩:=NDL.rep n2;subst e;refine⟨⟨v1,v2,h,b,c⟩,λx a=>?_⟩;simp only[zmC,zmA]at a;rcases a with rfl|a|a
  ·exact⟨v1,v2,h,b,c⟩
  ·exact a1 x a
  ·exact d x a
theorem NDL.kp{w b:World}{hi:Nat}(a:Kp w b):∀ {t:Tw.T} {v:Value} {L:List TN},NDL w hi t v L->NDL b hi t v L
 |.name ..,_,_,⟨h,e⟩=>⟨h.kp a dZ,e⟩
 |.int ..,_,_,⟨h,e⟩=>⟨h.kp a dZ,e⟩
 |.truth ..,_,_,⟨h,e⟩=>⟨h.kp a dZ,e⟩
 |.side ..,_,_,⟨h,e⟩=>⟨h.kp a dZ,e⟩
 |.bracket ..,_,_,⟨v1,L1,h,n1,e⟩=>⟨v1,L1,h.kp a dZ,NDL.kp a n1,e⟩
 |.pair ..,_,_,⟨v1,v2,L1,L2,h,n1,n2,e⟩=>⟨v1,v2,L1,L2,h.kp a dZ,NDL.kp a n1,NDL.kp a n2,e⟩
 |.call ..,_,_,⟨v1,v2,L1,L2,h,n1,n2,e⟩=>⟨v1,v2,L1,L2,h.kp a dZ,NDL.kp a n1,NDL.kp a n2,e⟩
 |.binary ..,_,_,⟨v1,v2,L1,L2,h,n1,n2,e⟩=>⟨v1,v2,L1,L2,h.kp a dZ,NDL.kp a n1,NDL.kp a n2,e⟩
 |.cond ..,_,_,⟨v1,v2,v3,L1,L2,L3,h,n1,n2,n3,e⟩=>⟨v1,v2,v3,L1,L2,L3,h.kp a dZ,NDL.kp a n1,NDL.kp a n2,NDL.kp a n3,e⟩
 |.fn ..,_,_,⟨v1,L1,h,n1,e⟩=>⟨v1,L1,h.kp a dZ,NDL.kp a n1,e⟩
 |.lett ..,_,_,⟨v1,v2,L1,L2,h,n1,n2,e⟩=>⟨v1,v2,L1,L2,h.kp a dZ,NDL.kp a n1,NDL.kp a n2,e⟩
theorem NDL.iface{w:World}{hi:Nat}{t:Tw.T}{v:Value}{L:List TN}(h:NDL w hi t v L):∃T n,v=.iface T (pT n):=h.rep.1.iface
structure Vi(l:Nat)(L0:List TN)(J Jx:List TN->World->Prop):Prop where
 grown:∀ {s:List TN} {W W':World},J s W->W.grownBy W' none->J s W'
 yield:∀(pre:List TN) (x:TN) (W:World),J pre W->(pre++[x]) <+:L0->YieldAt Fence.wide 0 prog l #[x.v] W fun e W'=>
  (e=.returned (.bool true)/\J (pre++[x]) W'/\Kp W W')\/(e=.returned (.bool false)/\Jx (pre++[x]) W')
def zfx(J Jx:List TN->World->Prop)(pre L:List TN)(w:World)(r:Ending)(a:World):Prop:=
 (r=.returned (.bool true)/\J (pre++L) a/\Kp w a)\/(r=.returned (.bool false)/\∃q,q <+:L/\Jx (pre++q) a)
def zmn(l:Nat)(L0:List TN)(J Jx:List TN->World->Prop)(t:Tw.T):Prop:=∀ {w:World} {hi:Nat} {tv:Value} {pre L:List TN},NDL w hi t tv L->J pre w->(pre++L) <+:L0 ->
 Calls prog 109 #[tv,Fv l] w (zfx J Jx pre L w)
def Fp(Ls:List (List TN))(q:Nat):List TN:=(Ls.take q).flatten
theorem zea(Ls:List (List TN))(q:Nat)(h:q<Ls.length):Fp Ls (q+1)=Fp Ls q++Ls[q]:=by
 unfold Fp;rw[cE h,List.flatten_append];simp
variable {l:Nat}{L0:List TN}{J Jx:List TN -> World -> Prop}
variable{w:World}{t:Tw.T}{hi Bt:Nat}{tv:Value}
theorem Ec(D:Vi l L0 J Jx){h:TypeId}{b:Nat}{x:TN}(s:x.v=.iface h (pT b)){vs:List Value}{Ls:List (List TN)}{pre:List TN}
  (a1:∀W,Kp w W->Calls prog 162 #[.iface h (pT b)] W (Dq W vs))
  (a5:vs.length=Ls.length) (ae:Ls.length<=3) (hK:∀j (i:j<vs.length) (m:j<Ls.length),(∃T n,vs[j]=.iface T (pT n))/\∀W,Kp w W->J ((pre++[x])++Fp Ls j) W->Calls prog 109 #[vs[j],Fv l] W (zfx J Jx ((pre++[x])++Fp Ls j) Ls[j] W))
  (Z:J pre w) (o:pre++(x::Ls.flatten) <+:L0) :
  Calls prog 109 #[.iface h (pT b),Fv l] w (zfx J Jx pre (x::Ls.flatten) w):=by
 have P:=bV a1;have HK:=bV hK;have a6:pre++[x] <+:L0:=by
  obtain⟨v,r⟩:=o;exact⟨Ls.flatten++v,by rw[<-r];simp[List.append_assoc]⟩
 obtain⟨fn,ag,aa,ab,hy,a2⟩:=D.yield pre x w Z a6;rw[s]at hy;have Q:=bV a2;refine(callsIn_wide (n:=1)).1 ?_;refine callsIn_of_wp func109 rfl trivial ?_;simp only[ntmps109,List.size_toArray,zB,zD,Nat.reduceAdd,Nat.reduceSub,Array.replicate_succ,Array.replicate_zero,List.push_toArray,List.append_toArray,rD,pD];gi_wp2_with fail
 (try refine⟨λY=>(by cases Y),?_⟩);refine(uh Q).mono ?_;rintro V U (⟨rfl,hJ2,hk2⟩|⟨rfl,hx2⟩)
 ·have c:=bV hJ2;have e:=bV hk2;gi_wp2_with fail;refine⟨trivial,?_⟩;refine(callsIn_wide.2 (uh P U (uh e))).mono ?_;rintro e1 a ⟨E,a3⟩;have A:Hid (J (pre++[x]) a):=D.grown (uh c) E;have g:Hid (Kp w a):=(uh e).trans (Kp.of_grown E);rcases a3 with⟨rfl,rfl⟩|⟨k,rfl,hk⟩
  ·have a4:Ls=[]:=(by simpa using a5.symm);subst a4;gi_wp2_with fail
   gi_loopw [14] (λd wr=>d=vI 0/\wr=a) (λ_ _=>0)
   case atStart=>exact⟨rfl,rfl⟩
   case round=>
    obtain⟨rfl,rfl⟩:=hrel;gi_wp2_with fail;go_ret;exact .inl ⟨rfl,by simpa using A.o,g.o⟩
  ·have M:Hid (a.heap[k]?=some (.cells (Kt vs) 68 (0,0))):=hk;have ac:prog.cellsOf 68=1:=kR;obtain⟨N,C⟩:∃N,vs.length=N:=⟨_,rfl⟩;rw[C];have R:=bV C;have a0:N=Ls.length:=oM;have z:=bV a0;have ad:N<=3:=oM;gi_wp2_with fail
   gi_loopw [14] (λd wr=>∃q:Nat,q<=N/\d=vI q/\Hid (J ((pre++[x])++Fp Ls q) wr)/\Hid (Kp a wr)) (λd _=>N-(intOf d).toNat)
   case atStart=>exact⟨0,oM,rfl,by simpa[Fp]using A,Kp.refl _⟩
   case round=>
    obtain⟨q,hq,rfl,B,f⟩:=hrel;by_cases G:q<N
    ·have i:q<vs.length:=(by rw[uh R];exact G);have m:q<Ls.length:=(by rw[<-uh z];exact G);obtain⟨⟨T,nn,I⟩,F⟩:=uh HK q i m;rw[I]at F;have hc:wr.cell? (aD k q)=some (.iface T (pT nn)):=by
      rw[mB wr k _ _ _ _ (f.o _ _ _ _ M.o dZ)];simp[Kt,i,I]
     have af:(q:Int)<(N:Int):=oM;have S:=bV (F wr (g.o.trans f.o) B.o);have H:=bV (zea Ls q m);have O:Hid (Fp Ls q++Ls[q] <+:Ls.flatten):=by
      show _ <+:_;rw[<-uh H];exact⟨(Ls.drop (q+1)).flatten,by unfold Fp;rw[<-List.flatten_append,List.take_append_drop]⟩
     generalize Ls[q]=Lq at *;gi_wp2_with fail;refine⟨trivial,?_⟩;refine(callsIn_wide.2 (uh S)).mono ?_;rintro V y (⟨rfl,hj2,hk2⟩|⟨rfl,p,o,s⟩)
     ·have c:Hid (J ((pre++[x])++Fp Ls (q+1)) y):=by show J _ _;rw[uh H,<-wA];exact hj2
      have e:Hid (Kp a y):=f.o.trans hk2;gi_wp2_with fail
      go_roundw
      case measure=>simp[intOf];omega
      case rel=>exact⟨q+1,oM,by go_num,c,e⟩
     ·have X:Hid (∃L,L <+:x::Ls.flatten/\Jx (pre++L) y):=by
       refine⟨[x]++(Fp Ls q++p),?_,by rw[<-wA,<-wA];exact s⟩;obtain⟨v,r⟩:=o;obtain⟨a9,a8⟩:=uh O;exact⟨v++a9,by rw[<-a8,<-r];simp[List.append_assoc]⟩
      gi_wp2_with fail;go_ret;exact .inr ⟨rfl,X.o⟩
    ·have a7:q=N:=oM;have c:Hid (J (pre++(x::Ls.flatten)) wr):=by
      have:=B.o;rw[a7,uh z]at this;unfold Fp at this;rw[List.take_length,wA]at this;exact this
     gi_wp2_with fail;go_ret;exact .inl ⟨rfl,c.o,g.o.trans f.o⟩
 ·gi_wp2;go_ret;exact .inr ⟨rfl,[x],⟨Ls.flatten,sM⟩,hx2⟩
theorem NDL.kid(h:zmn l L0 J Jx t){v:Value}{pre L:List TN}(a:NDL w hi t v L)(d:pre++L <+:L0):(∃T n,v=.iface T (pT n))/\∀W,Kp w W->J pre W->Calls prog 109 #[v,Fv l] W (zfx J Jx pre L W):=
 ⟨a.iface,λ_ c b=>h (a.kp c) b d⟩
theorem Jv{pre L1 L2:List TN}(h:pre++(L1++L2) <+:L0):pre++L1 <+:L0:=by
 obtain⟨r,a⟩:=h;exact⟨L2++r,by rw[<-a];simp[List.append_assoc]⟩
theorem Hf{pre L:List TN}{x:TN}(h:pre++(x::L) <+:L0):(pre++[x])++L <+:L0:=by
 rw[wA];exact h
theorem Em(g:Vi l L0 J Jx):∀t:Tw.T,zmn l L0 J Jx t
 |.name fr to x=>by
  intro j h d;rename_i w hi tv pre L;obtain⟨⟨b,_,_,e,m⟩,rfl⟩:=j
  have:=Ec g (x:=⟨.name fr to x,tv⟩) e (vs:=[]) (Ls:=[]) (λW _=>zd9 W b) rfl sM sM h (by simpa using d);rw[e]at this ⊢;simpa using this
 |.int fr to x=>by
  intro j h d;rename_i w hi tv pre L;obtain⟨⟨b,_,_,e,m⟩,rfl⟩:=j
  have:=Ec g (x:=⟨.int fr to x,tv⟩) e (vs:=[]) (Ls:=[]) (λW _=>Tb W b) rfl sM sM h (by simpa using d);rw[e]at this ⊢;simpa using this
 |.truth fr to x=>by
  intro j h d;rename_i w hi tv pre L;obtain⟨⟨b,_,_,e,m⟩,rfl⟩:=j
  have:=Ec g (x:=⟨.truth fr to x,tv⟩) e (vs:=[]) (Ls:=[]) (λW _=>Ov W b) rfl sM sM h (by simpa using d);rw[e]at this ⊢;simpa using this
 |.side fr to x=>by
  intro j h d;rename_i w hi tv pre L;obtain⟨⟨b,_,_,e,m⟩,rfl⟩:=j
  have:=Ec g (x:=⟨.side fr to x,tv⟩) e (vs:=[]) (Ls:=[]) (λW _=>Qt W b) rfl sM sM h (by simpa using d);rw[e]at this ⊢;simpa using this
 |.bracket fr to i=>by
  intro j h d;rename_i w hi tv pre L;obtain⟨v,o,⟨b,_,_,e,m⟩,s,rfl⟩:=j;have k:=s.kid (Em g i) (Hf d)
  have:=Ec g (x:=⟨.bracket fr to i,tv⟩) e (vs:=[v]) (Ls:=[o]) (λW q=>Lp k.1 (q _ _ _ _ m dZ)) rfl sM (by
   intro r p B
   match r,p with
   |0,_=>simpa[Fp]using k) h (by simpa using d)
  rw[e]at this ⊢;simpa using this
 |.fn fr to bn bat i=>by
  intro j h d;rename_i w hi tv pre L;obtain⟨v,o,⟨b,_,_,e,m⟩,s,rfl⟩:=j;have k:=s.kid (Em g i) (Hf d)
  have:=Ec g (x:=⟨.fn fr to bn bat i,tv⟩) e (vs:=[v]) (Ls:=[o]) (λW q=>zg8 k.1 (q _ _ _ _ m dZ)) rfl sM (by
   intro r p B
   match r,p with
   |0,_=>simpa[Fp]using k) h (by simpa using d)
  rw[e]at this ⊢;simpa using this
 |.pair fr to a c=>by
  intro j h d;rename_i w hi tv pre L;obtain⟨v,A,o,y,⟨b,_,_,e,m⟩,s,z,rfl⟩:=j;have k:=s.kid (Em g a) (Jv (Hf d));have n:=z.kid (Em g c) (by have:=Hf d;rw[<-wA]at this;exact this)
  have:=Ec g (x:=⟨.pair fr to a c,tv⟩) e (vs:=[v,A]) (Ls:=[o,y]) (λW q=>Qu k.1 n.1 (q _ _ _ _ m dZ)) rfl sM (by
   intro r p B
   match r,p with
   |0,_=>simpa[Fp]using k
   |1,_=>simpa[Fp]using n) h (by simpa using d)
  rw[e]at this ⊢;simpa using this
 |.call fr to a c=>by
  intro j h d;rename_i w hi tv pre L;obtain⟨v,A,o,y,⟨b,_,_,e,m⟩,s,z,rfl⟩:=j;have k:=s.kid (Em g a) (Jv (Hf d));have n:=z.kid (Em g c) (by have:=Hf d;rw[<-wA]at this;exact this)
  have:=Ec g (x:=⟨.call fr to a c,tv⟩) e (vs:=[v,A]) (Ls:=[o,y]) (λW q=>Qv k.1 n.1 (q _ _ _ _ m dZ)) rfl sM (by
   intro r p B
   match r,p with
   |0,_=>simpa[Fp]using k
   |1,_=>simpa[Fp]using n) h (by simpa using d)
  rw[e]at this ⊢;simpa using this
 |.binary fr to sg a c=>by
  intro j h d;rename_i w hi tv pre L;obtain⟨v,A,o,y,⟨b,_,_,e,m⟩,s,z,rfl⟩:=j;have k:=s.kid (Em g a) (Jv (Hf d));have n:=z.kid (Em g c) (by have:=Hf d;rw[<-wA]at this;exact this)
  have:=Ec g (x:=⟨.binary fr to sg a c,tv⟩) e (vs:=[v,A]) (Ls:=[o,y]) (λW q=>M8 k.1 n.1 (q _ _ _ _ m dZ)) rfl sM (by
   intro r p B
   match r,p with
   |0,_=>simpa[Fp]using k
   |1,_=>simpa[Fp]using n) h (by simpa using d)
  rw[e]at this ⊢;simpa using this
 |.lett fr to rc bn bat a c=>by
  intro j h d;rename_i w hi tv pre L;obtain⟨v,A,o,y,⟨b,_,_,e,m⟩,s,z,rfl⟩:=j;have k:=s.kid (Em g a) (Jv (Hf d));have n:=z.kid (Em g c) (by have:=Hf d;rw[<-wA]at this;exact this)
  have:=Ec g (x:=⟨.lett fr to rc bn bat a c,tv⟩) e (vs:=[v,A]) (Ls:=[o,y]) (λW q=>zg9 k.1 n.1 (q _ _ _ _ m dZ)) rfl sM (by
   intro r p B
   match r,p with
   |0,_=>simpa[Fp]using k
   |1,_=>simpa[Fp]using n) h (by simpa using d)
  rw[e]at this ⊢;simpa using this
 |.cond fr to c t f=>by
  intro j h d;rename_i w hi tv pre L;obtain⟨v,A,G,o,y,E,⟨b,_,_,e,m⟩,s,z,F,rfl⟩:=j;have k:=s.kid (Em g c) (Jv (Hf d));have C:((pre++[⟨.cond fr to c t f,tv⟩])++o)++(y++E) <+:L0:=by have:=Hf d;rw[<-wA]at this;exact this
  have n:=z.kid (Em g t) (Jv C);have D:=F.kid (Em g f) (by rw[<-wA]at C;exact C)
  have:=Ec g (x:=⟨.cond fr to c t f,tv⟩) e (vs:=[v,A,G]) (Ls:=[o,y,E]) (λW q=>Vx k.1 n.1 D.1 (q _ _ _ _ m dZ)) rfl sM (by
   intro r p B
   match r,p with
   |0,_=>simpa[Fp]using k
   |1,_=>simpa[Fp]using n
   |2,_=>simpa[Fp,List.append_assoc]using D) h (by simpa using d)
  rw[e]at this ⊢;simpa using this
theorem zeb(o:Vi l L0 J Jx)(m:w.heap[Bt]?=some (.cells #[tv] 68 (0,0)))(c:NDL w hi t tv L0)(n:J [] w):
  Calls prog 108 #[Fv l,pT Bt] w λe d=>e=.returned (.tuple #[])/\(J L0 d\/∃q,q <+:L0/\Jx q d):=by
 have i:=bV c;have g:=bV n;obtain⟨j,r,rfl⟩:=c.iface;have s:w.cell? (aD Bt 0)=some (.iface j (pT r)):=zcR m
 go_in;go_wp2_with fail;refine(Em o t (uh i) (pre:=[]) (uh g) sM).mono ?_;rintro k f b;have X:Hid (J L0 f\/∃q,q <+:L0/\Jx q f):=by
  rcases b with⟨_,h,_⟩|⟨_,q,p,h⟩
  ·exact .inl (by simpa using h)
  ·exact .inr ⟨q,p,by simpa using h⟩
 obtain⟨a,rfl⟩:∃a,k=.returned (.bool a):=by
  rcases b with⟨rfl,_⟩|⟨rfl,_⟩
  ·exact⟨_,rfl⟩
  ·exact⟨_,rfl⟩
 go_wp2_with fail;go_end0;exact⟨rfl,X.o⟩
abbrev TNIn(L0:List TN):={x:TN // x∈L0}
abbrev encT(L0:List TN)(x:TNIn L0):Array Value:=#[x.1.v]
theorem zbk{n:Nat}{L0:List TN}(m:w.heap[Bt]?=some (.cells #[tv] 68 (0,0)))(y:NDL w hi t tv L0):
  SeqStopsK Fence.wide n prog 108 #[pT Bt] (encT L0) Kp (λA=>A.map (·.1)=L0) (λpre=>pre.map (·.1) <+:L0) L0.length w:=by
 intro l J Jx W q o B r j;have g:Kp w W:=λk c t C x _=>(q.block k (zgE.1 x).1).trans x;have Y:Vi l L0 (λpre W=>∃p:List (TNIn L0),p.map (·.1)=pre/\J p W) (λpre W=>∃p:List (TNIn L0),p.map (·.1)=pre/\Jx p W):=by
  refine⟨λ{F W b} ⟨p,d,a⟩ s=>⟨p,d,o p W b none a s (λE e=>by cases e)⟩,?_⟩;rintro pre x i ⟨p,rfl,a⟩ h;have f:x∈L0:=h.subset sM;have v:p.length<L0.length:=by
   have:=h.length_le;simp at this;omega
  refine Up (YieldAt.mono (r p ⟨x,f⟩ i a v) ?_);rintro e b (⟨he,hj',hk⟩|⟨he,hj'⟩)
  ·exact .inl ⟨he,⟨p++[⟨x,f⟩],sM,hj'⟩,hk⟩
  ·exact .inr ⟨he,⟨p++[⟨x,f⟩],sM,hj'⟩⟩
 refine callsIn_wide.2 ((zeb Y (g _ _ _ _ m dZ) (y.kp g) ⟨[],rfl,j⟩).mono ?_);rintro e b ⟨rfl,⟨p,d,a⟩|⟨D,z,p,rfl,a⟩⟩
 ·exact⟨⟨_,rfl⟩,.inl ⟨p,d,a⟩⟩
 ·exact⟨⟨_,rfl⟩,.inr ⟨p,z,a⟩⟩
theorem zha(w:World)(a:∃T n,tv=.iface T (pT n)):
  Calls prog 57 #[tv] w λe b=>e=.returned (.func (.func 108) #[] #[pT w.heap.size])/\b=w.alloc (.cells #[tv] 68):=by
 obtain⟨c,d,rfl⟩:=a
 go_in;go_wp2_with fail;go_ret;exact⟨rfl,rfl⟩
end
end Go.Proofs.YtckhafpejefbbaaGreatDoor
