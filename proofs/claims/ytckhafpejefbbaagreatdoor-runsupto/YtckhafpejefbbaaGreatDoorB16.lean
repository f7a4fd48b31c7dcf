import Derived.Test.YtckhafpejefbbaaGreatDoorB15
import Derived.LoopIn
import Derived.LoopNIn

set_option maxRecDepth 100000
set_option maxHeartbeats 4000000
namespace Go.Proofs.YtckhafpejefbbaaGreatDoor
section
open Tw Go.Proofs.Tryz
open Go.RowKit Go.Shelf
section
attribute [local go_sem] Oper.semAt_some
structure TN where
 t:Tw.T
 v:Value
def NDL(w:World)(hi:Nat):Tw.T->Value->List TN->Prop
 |.name fr to tx,v,L=>nodeAt w 0 hi fr to [ug tx] 83 87 v/\L=[⟨.name fr to tx,v⟩]
 |.int fr to n,v,L=>nodeAt w 0 hi fr to [.int .i64 n] 191 194 v/\L=[⟨.int fr to n,v⟩]
 |.Ak fr to b,v,L=>nodeAt w 0 hi fr to [.bool b] 195 198 v/\L=[⟨.Ak fr to b,v⟩]
 |.side fr to b,v,L=>nodeAt w 0 hi fr to [.bool b] 199 201 v/\L=[⟨.side fr to b,v⟩]
 |.bracket fr to i,v,L=>∃v1 L1,nodeAt w 0 hi fr to [v1] 204 206 v/\NDL w hi i v1 L1/\L=⟨.bracket fr to i,v⟩::L1
 |.pair fr to l r,v,L=>∃v1 v2 L1 L2,nodeAt w 0 hi fr to [v1,v2] 207 229 v/\NDL w hi l v1 L1/\NDL w hi r v2 L2/\L=⟨.pair fr to l r,v⟩::(L1++L2)
 |.call fr to l r,v,L=>∃v1 v2 L1 L2,nodeAt w 0 hi fr to [v1,v2] 209 319 v/\NDL w hi l v1 L1/\NDL w hi r v2 L2/\L=⟨.call fr to l r,v⟩::(L1++L2)
 |.binary fr to sg l r,v,L=>∃v1 v2 L1 L2,nodeAt w 0 hi fr to [.int .i64 sg,v1,v2] 211 322 v/\NDL w hi l v1 L1/\NDL w hi r v2 L2/\L=⟨.binary fr to sg l r,v⟩::(L1++L2)
 |.cond fr to c t f,v,L=>∃v1 v2 v3 L1 L2 a,nodeAt w 0 hi fr to [v1,v2,v3] 213 326 v/\NDL w hi c v1 L1/\NDL w hi t v2 L2/\NDL w hi f v3 a/\L=⟨.cond fr to c t f,v⟩::(L1++(L2++a))
 |.fn fr to bn bat b,v,L=>∃v1 L1,nodeAt w 0 hi fr to [ug bn,.int .i64 bat,v1] 215 235 v/\NDL w hi b v1 L1/\L=⟨.fn fr to bn bat b,v⟩::L1
 |.Am fr to rc bn bat d b,v,L=>∃v1 v2 L1 L2,nodeAt w 0 hi fr to [.bool rc,ug bn,.int .i64 bat,v1,v2] 136 140 v/\NDL w hi d v1 L1/\NDL w hi b v2 L2/\L=⟨.Am fr to rc bn bat d b,v⟩::(L1++L2)
theorem NDL.Dl{w:World}{hi:Nat}:∀ {t:Tw.T} {v:Value},Rep w 0 hi t v->∃L,NDL w hi t v L
 |.name ..,_,h=>⟨_,h,rfl⟩
 |.int ..,_,h=>⟨_,h,rfl⟩
 |.Ak ..,_,h=>⟨_,h,rfl⟩
 |.side ..,_,h=>⟨_,h,rfl⟩
 |.bracket ..,_,⟨v1,h,r1⟩=>let⟨L,a⟩:=NDL.Dl r1;⟨_,v1,L,h,a,rfl⟩
 |.pair ..,_,⟨v1,v2,h,r1,r2⟩=>let⟨b,a⟩:=NDL.Dl r1;let⟨c,d⟩:=NDL.Dl r2;⟨_,v1,v2,b,c,h,a,d,rfl⟩
 |.call ..,_,⟨v1,v2,h,r1,r2⟩=>let⟨b,a⟩:=NDL.Dl r1;let⟨c,d⟩:=NDL.Dl r2;⟨_,v1,v2,b,c,h,a,d,rfl⟩
 |.binary ..,_,⟨v1,v2,h,r1,r2⟩=>let⟨b,a⟩:=NDL.Dl r1;let⟨c,d⟩:=NDL.Dl r2;⟨_,v1,v2,b,c,h,a,d,rfl⟩
 |.cond ..,_,⟨v1,v2,v3,h,r1,r2,r3⟩=>let⟨b,a⟩:=NDL.Dl r1;let⟨c,d⟩:=NDL.Dl r2;let⟨e,f⟩:=NDL.Dl r3;⟨_,v1,v2,v3,b,c,e,h,a,d,f,rfl⟩
 |.fn ..,_,⟨v1,h,r1⟩=>let⟨L,a⟩:=NDL.Dl r1;⟨_,v1,L,h,a,rfl⟩
 |.Am ..,_,⟨v1,v2,h,r1,r2⟩=>let⟨b,a⟩:=NDL.Dl r1;let⟨c,d⟩:=NDL.Dl r2;⟨_,v1,v2,b,c,h,a,d,rfl⟩
theorem NDL.rep{w:World}{hi:Nat}:∀ {t:Tw.T} {v:Value} {L:List TN},NDL w hi t v L->Rep w 0 hi t v/\∀x∈L,Rep w 0 hi x.t x.v
 |.name ..,_,_,⟨h,e⟩=>⟨h,by subst e;intro x a;simp only[xB]at a;subst a;exact h⟩
 |.int ..,_,_,⟨h,e⟩=>⟨h,by subst e;intro x a;simp only[xB]at a;subst a;exact h⟩
 |.Ak ..,_,_,⟨h,e⟩=>⟨h,by subst e;intro x a;simp only[xB]at a;subst a;exact h⟩
 |.side ..,_,_,⟨h,e⟩=>⟨h,by subst e;intro x a;simp only[xB]at a;subst a;exact h⟩
 |.bracket ..,_,_,⟨v1,L1,h,n1,e⟩=>by
  have⟨b,a1⟩:=NDL.rep n1;subst e;refine⟨⟨v1,h,b⟩,λx a=>?_⟩;simp only[zmC]at a;rcases a with rfl|a
  ·exact⟨v1,h,b⟩
  ·exact a1 x a
 |.pair ..,_,_,⟨v1,v2,L1,L2,h,n1,n2,e⟩=>by
  have⟨b,a1⟩:=NDL.rep n1;have⟨c,d⟩:=NDL.rep n2;subst e;refine⟨⟨v1,v2,h,b,c⟩,λx a=>?_⟩;simp only[zmC,zmA]at a;rcases a with rfl|a|a
  ·exact⟨v1,v2,h,b,c⟩
  ·exact a1 x a
  ·exact d x a
 |.call ..,_,_,⟨v1,v2,L1,L2,h,n1,n2,e⟩=>by
  have⟨b,a1⟩:=NDL.rep n1;have⟨c,d⟩:=NDL.rep n2;subst e;refine⟨⟨v1,v2,h,b,c⟩,λx a=>?_⟩;simp only[zmC,zmA]at a;rcases a with rfl|a|a
  ·exact⟨v1,v2,h,b,c⟩
  ·exact a1 x a
  ·exact d x a
 |.binary ..,_,_,⟨v1,v2,L1,L2,h,n1,n2,e⟩=>by
  have⟨b,a1⟩:=NDL.rep n1;have⟨c,d⟩:=NDL.rep n2;subst e;refine⟨⟨v1,v2,h,b,c⟩,λx a=>?_⟩;simp only[zmC,zmA]at a;rcases a with rfl|a|a
  ·exact⟨v1,v2,h,b,c⟩
  ·exact a1 x a
  ·exact d x a
 |.cond ..,_,_,⟨v1,v2,v3,L1,L2,L3,h,n1,n2,n3,e⟩=>by
  have⟨b,a1⟩:=NDL.rep n1;have⟨c,d⟩:=NDL.rep n2;have⟨f,g⟩:=NDL.rep n3;subst e;refine⟨⟨v1,v2,v3,h,b,c,f⟩,λx a=>?_⟩;simp only[zmC,zmA]at a;rcases a with rfl|a|a|a
  ·exact⟨v1,v2,v3,h,b,c,f⟩
  ·exact a1 x a
  ·exact d x a
  ·exact g x a
 |.fn ..,_,_,⟨v1,L1,h,n1,e⟩=>by
  have⟨b,a1⟩:=NDL.rep n1;subst e;refine⟨⟨v1,h,b⟩,λx a=>?_⟩;simp only[zmC]at a;rcases a with rfl|a
  ·exact⟨v1,h,b⟩
  ·exact a1 x a
 |.Am ..,_,_,⟨v1,v2,L1,L2,h,n1,n2,e⟩=>by
  have⟨b,a1⟩:=NDL.rep n1;have⟨c,d⟩:=NDL.rep n2;subst e;refine⟨⟨v1,v2,h,b,c⟩,λx a=>?_⟩;simp only[zmC,zmA]at a;rcases a with rfl|a|a
  ·exact⟨v1,v2,h,b,c⟩
  ·exact a1 x a
  ·exact d x a
theorem NDL.kp{w w':World}{hi:Nat}(a:Kp w w'):∀ {t:Tw.T} {v:Value} {L:List TN},NDL w hi t v L->NDL w' hi t v L
 |.name ..,_,_,⟨h,e⟩=>⟨h.kp a dZ,e⟩
 |.int ..,_,_,⟨h,e⟩=>⟨h.kp a dZ,e⟩
 |.Ak ..,_,_,⟨h,e⟩=>⟨h.kp a dZ,e⟩
 |.side ..,_,_,⟨h,e⟩=>⟨h.kp a dZ,e⟩
 |.bracket ..,_,_,⟨v1,L1,h,n1,e⟩=>⟨v1,L1,h.kp a dZ,NDL.kp a n1,e⟩
 |.pair ..,_,_,⟨v1,v2,L1,L2,h,n1,n2,e⟩=>⟨v1,v2,L1,L2,h.kp a dZ,NDL.kp a n1,NDL.kp a n2,e⟩
 |.call ..,_,_,⟨v1,v2,L1,L2,h,n1,n2,e⟩=>⟨v1,v2,L1,L2,h.kp a dZ,NDL.kp a n1,NDL.kp a n2,e⟩
 |.binary ..,_,_,⟨v1,v2,L1,L2,h,n1,n2,e⟩=>⟨v1,v2,L1,L2,h.kp a dZ,NDL.kp a n1,NDL.kp a n2,e⟩
 |.cond ..,_,_,⟨v1,v2,v3,L1,L2,L3,h,n1,n2,n3,e⟩=>⟨v1,v2,v3,L1,L2,L3,h.kp a dZ,NDL.kp a n1,NDL.kp a n2,NDL.kp a n3,e⟩
 |.fn ..,_,_,⟨v1,L1,h,n1,e⟩=>⟨v1,L1,h.kp a dZ,NDL.kp a n1,e⟩
 |.Am ..,_,_,⟨v1,v2,L1,L2,h,n1,n2,e⟩=>⟨v1,v2,L1,L2,h.kp a dZ,NDL.kp a n1,NDL.kp a n2,e⟩
theorem NDL.iface{w:World}{hi:Nat}{t:Tw.T}{v:Value}{L:List TN}(h:NDL w hi t v L):∃T n,v=.iface T (pT n):=h.rep.1.iface
structure Zt(l:Nat)(L0:List TN)(J Jx:List TN->World->Prop):Prop where
 grown:∀ {s:List TN} {W W':World},J s W->W.grownBy W' none->J s W'
 yield:∀(pre:List TN) (x:TN) (W:World),J pre W->(pre++[x]) <+:L0->YieldAt Fence.wide 0 prog l #[x.v] W fun e W'=>
  (e=.returned (.bool true)/\J (pre++[x]) W'/\Kp W W')\/(e=.returned (.bool false)/\Jx (pre++[x]) W')
def zlo(J Jx:List TN->World->Prop)(pre L:List TN)(w:World)(r:Ending)(w':World):Prop:=
 (r=.returned (.bool true)/\J (pre++L) w'/\Kp w w')\/(r=.returned (.bool false)/\∃q,q <+:L/\Jx (pre++q) w')
def zul(l:Nat)(L0:List TN)(J Jx:List TN->World->Prop)(t:Tw.T):Prop:=∀ {w:World} {hi:Nat} {tv:Value} {pre L:List TN},NDL w hi t tv L->J pre w->(pre++L) <+:L0 ->
 Calls prog 109 #[tv,Ht l] w (zlo J Jx pre L w)
def Hm(Ls:List (List TN))(q:Nat):List TN:=(Ls.take q).flatten
theorem zjq(Ls:List (List TN))(q:Nat)(h:q<Ls.length):Hm Ls (q+1)=Hm Ls q++Ls[q]:=by
 unfold Hm;rw[cE h,List.flatten_append];simp
variable {l:Nat}{L0:List TN}{J Jx:List TN -> World -> Prop}
variable{w:World}{t:Tw.T}{hi Bt:Nat}{tv:Value}
theorem Fd(B:Zt l L0 J Jx){g:TypeId}{b:Nat}{x:TN}(r:x.v=.iface g (pT b)){vs:List Value}{Ls:List (List TN)}{pre:List TN}
  (V:∀W,Kp w W->Calls prog 162 #[.iface g (pT b)] W (El W vs))
  (a1:vs.length=Ls.length) (a9:Ls.length<=3) (hK:∀j (h:j<vs.length) (i:j<Ls.length),(∃T n,vs[j]=.iface T (pT n))/\∀W,Kp w W->J ((pre++[x])++Hm Ls j) W->Calls prog 109 #[vs[j],Ht l] W (zlo J Jx ((pre++[x])++Hm Ls j) Ls[j] W))
  (U:J pre w) (m:pre++(x::Ls.flatten) <+:L0) :
  Calls prog 109 #[.iface g (pT b),Ht l] w (zlo J Jx pre (x::Ls.flatten) w):=by
 have a2:pre++[x] <+:L0:=by
  have⟨s,o⟩:=m;exact⟨Ls.flatten++s,by rw[<-o];simp[List.append_assoc]⟩
 have⟨fn,ab,a6,a7,hy,Y⟩:=B.yield pre x w U a2;rw[r]at hy;refine(callsIn_wide (n:=1)).1 ?_;refine callsIn_of_wp func109 rfl trivial ?_;simp[ntmps109,List.size_toArray,List.length_cons,List.length_nil,Nat.reduceAdd,Nat.reduceSub,Array.replicate_succ,Array.replicate_zero,List.push_toArray,List.append_toArray,List.nil_append,List.cons_append];gi_wp2_with fail
 (try refine⟨λS=>(by cases S),?_⟩);refine Y.mono ?_;rintro R Q (⟨rfl,hJ2,hk2⟩|⟨rfl,hx2⟩)
 ·have a:=hJ2;have d:=hk2;gi_wp2_with fail;refine⟨trivial,?_⟩;refine(callsIn_wide.2 (V Q d)).mono ?_;rintro e1 I ⟨C,Z⟩;have v:=B.grown a C;have f:=d.trans (Kp.Ae C);rcases Z with⟨rfl,rfl⟩|⟨k,rfl,hk⟩
  ·have a0:Ls=[]:=(by simpa using a1.symm);subst a0;gi_wp2_with fail
   gi_loopw [14] (λc wr=>c=vI 0/\wr=I) (λ_ _=>0)
   case atStart=>exact⟨rfl,rfl⟩
   case round=>
    obtain⟨rfl,rfl⟩:=hrel;gi_wp2_with fail;go_ret;exact .inl ⟨rfl,by simpa using v,f⟩
  ·have M:=hk;obtain⟨N,A⟩:∃N,vs.length=N:=⟨_,rfl⟩;rw[A];have z:N=Ls.length:=oM;have a8:N<=3:=oM;gi_wp2_with fail
   gi_loopw [14] (λc wr=>∃q:Nat,q<=N/\c=vI q/\(J ((pre++[x])++Hm Ls q) wr)/\(Kp I wr)) (λc _=>N-(intOf c).toNat)
   case atStart=>exact⟨0,oM,rfl,by simpa[Hm]using v,Kp.refl _⟩
   case round=>
    obtain⟨q,hq,rfl,y,e⟩:=hrel;by_cases E:q<N
    ·have h:q<vs.length:=(by rw[A];exact E);have i:q<Ls.length:=(by rw[<-z];exact E);have⟨⟨T,nn,G⟩,D⟩:=hK q h i;rw[G]at D;have hc:wr.cell? (aD k q)=some (.iface T (pT nn)):=by
      rw[mB wr k _ _ _ _ (e _ _ _ _ M dZ)];simp[Wp,h,G]
     have aa:(q:Int)<(N:Int):=oM;have P:=D wr (f.trans e) y;have F:=zjq Ls q i;have O:Hm Ls q++Ls[q] <+:Ls.flatten:=by
      show _ <+:_;rw[<-F];exact⟨(Ls.drop (q+1)).flatten,by unfold Hm;rw[<-List.flatten_append,List.take_append_drop]⟩
     generalize Ls[q]=Lq at *;gi_wp2_with fail;refine⟨trivial,?_⟩;refine(callsIn_wide.2 P).mono ?_;rintro R L (⟨rfl,hj2,hk2⟩|⟨rfl,p,m,r⟩)
     ·have a:J ((pre++[x])++Hm Ls (q+1)) L:=by show J _ _;rw[F,<-wA];exact hj2
      have d:=e.trans hk2;gi_wp2_with fail
      go_roundw
      case measure=>simp[intOf];omega
      case rel=>exact⟨q+1,oM,by go_num,a,d⟩
     ·have X:∃H,H <+:x::Ls.flatten/\Jx (pre++H) L:=by
       refine⟨[x]++(Hm Ls q++p),?_,by rw[<-wA,<-wA];exact r⟩;have⟨s,o⟩:=m;have⟨a5,a4⟩:=O;exact⟨s++a5,by rw[<-a4,<-o];simp[List.append_assoc]⟩
      gi_wp2_with fail;go_ret;exact .inr ⟨rfl,X⟩
    ·have a3:q=N:=oM;have a:J (pre++(x::Ls.flatten)) wr:=by
      have:=y;rw[a3,z]at this;unfold Hm at this;rw[List.take_length,wA]at this;exact this
     gi_wp2_with fail;go_ret;exact .inl ⟨rfl,a,f.trans e⟩
 ·gi_wp2;go_ret;exact .inr ⟨rfl,[x],⟨Ls.flatten,sM⟩,hx2⟩
theorem NDL.kid(h:zul l L0 J Jx t){v:Value}{pre L:List TN}(a:NDL w hi t v L)(d:pre++L <+:L0):(∃T n,v=.iface T (pT n))/\∀W,Kp w W->J pre W->Calls prog 109 #[v,Ht l] W (zlo J Jx pre L W):=
 ⟨a.iface,λ_ c b=>h (a.kp c) b d⟩
theorem M7{pre L1 L2:List TN}(h:pre++(L1++L2) <+:L0):pre++L1 <+:L0:=by
 have⟨r,a⟩:=h;exact⟨L2++r,by rw[<-a];simp[List.append_assoc]⟩
theorem Jf{pre L:List TN}{x:TN}(h:pre++(x::L) <+:L0):(pre++[x])++L <+:L0:=by
 rw[wA];exact h
theorem Fw(e:Zt l L0 J Jx):∀t:Tw.T,zul l L0 J Jx t
 |.name fr to x=>by
  intro h g d;rename_i w hi tv pre L;obtain⟨⟨b,_,_,hv,k⟩,rfl⟩:=h
  have:=Fd e (x:=⟨.name fr to x,tv⟩) hv (vs:=[]) (Ls:=[]) (λW _=>zjp W b) rfl sM sM g (by simpa using d);rw[hv]at this ⊢;simpa using this
 |.int fr to x=>by
  intro h g d;rename_i w hi tv pre L;obtain⟨⟨b,_,_,hv,k⟩,rfl⟩:=h
  have:=Fd e (x:=⟨.int fr to x,tv⟩) hv (vs:=[]) (Ls:=[]) (λW _=>Xh W b) rfl sM sM g (by simpa using d);rw[hv]at this ⊢;simpa using this
 |.Ak fr to x=>by
  intro h g d;rename_i w hi tv pre L;obtain⟨⟨b,_,_,hv,k⟩,rfl⟩:=h
  have:=Fd e (x:=⟨.Ak fr to x,tv⟩) hv (vs:=[]) (Ls:=[]) (λW _=>Sd W b) rfl sM sM g (by simpa using d);rw[hv]at this ⊢;simpa using this
 |.side fr to x=>by
  intro h g d;rename_i w hi tv pre L;obtain⟨⟨b,_,_,hv,k⟩,rfl⟩:=h
  have:=Fd e (x:=⟨.side fr to x,tv⟩) hv (vs:=[]) (Ls:=[]) (λW _=>Uw W b) rfl sM sM g (by simpa using d);rw[hv]at this ⊢;simpa using this
 |.bracket fr to i=>by
  intro h g d;rename_i w hi tv pre L;obtain⟨s,n,⟨b,_,_,hv,k⟩,r,rfl⟩:=h;have j:=r.kid (Fw e i) (Jf d)
  have:=Fd e (x:=⟨.bracket fr to i,tv⟩) hv (vs:=[s]) (Ls:=[n]) (λW p=>Pm j.1 (p _ _ _ _ k dZ)) rfl sM (by
   intro q o A
   match q,o with
   |0,_=>simpa[Hm]using j) g (by simpa using d)
  rw[hv]at this ⊢;simpa using this
 |.fn fr to bn bat i=>by
  intro h g d;rename_i w hi tv pre L;obtain⟨s,n,⟨b,_,_,hv,k⟩,r,rfl⟩:=h;have j:=r.kid (Fw e i) (Jf d)
  have:=Fd e (x:=⟨.fn fr to bn bat i,tv⟩) hv (vs:=[s]) (Ls:=[n]) (λW p=>znd j.1 (p _ _ _ _ k dZ)) rfl sM (by
   intro q o A
   match q,o with
   |0,_=>simpa[Hm]using j) g (by simpa using d)
  rw[hv]at this ⊢;simpa using this
 |.pair fr to a c=>by
  intro h g d;rename_i w hi tv pre L;obtain⟨s,z,n,v,⟨b,_,_,hv,k⟩,r,y,rfl⟩:=h;have j:=r.kid (Fw e a) (M7 (Jf d));have m:=y.kid (Fw e c) (by have:=Jf d;rw[<-wA]at this;exact this)
  have:=Fd e (x:=⟨.pair fr to a c,tv⟩) hv (vs:=[s,z]) (Ls:=[n,v]) (λW p=>Ux j.1 m.1 (p _ _ _ _ k dZ)) rfl sM (by
   intro q o A
   match q,o with
   |0,_=>simpa[Hm]using j
   |1,_=>simpa[Hm]using m) g (by simpa using d)
  rw[hv]at this ⊢;simpa using this
 |.call fr to a c=>by
  intro h g d;rename_i w hi tv pre L;obtain⟨s,z,n,v,⟨b,_,_,hv,k⟩,r,y,rfl⟩:=h;have j:=r.kid (Fw e a) (M7 (Jf d));have m:=y.kid (Fw e c) (by have:=Jf d;rw[<-wA]at this;exact this)
  have:=Fd e (x:=⟨.call fr to a c,tv⟩) hv (vs:=[s,z]) (Ls:=[n,v]) (λW p=>Uy j.1 m.1 (p _ _ _ _ k dZ)) rfl sM (by
   intro q o A
   match q,o with
   |0,_=>simpa[Hm]using j
   |1,_=>simpa[Hm]using m) g (by simpa using d)
  rw[hv]at this ⊢;simpa using this
 |.binary fr to sg a c=>by
  intro h g d;rename_i w hi tv pre L;obtain⟨s,z,n,v,⟨b,_,_,hv,k⟩,r,y,rfl⟩:=h;have j:=r.kid (Fw e a) (M7 (Jf d));have m:=y.kid (Fw e c) (by have:=Jf d;rw[<-wA]at this;exact this)
  have:=Fd e (x:=⟨.binary fr to sg a c,tv⟩) hv (vs:=[s,z]) (Ls:=[n,v]) (λW p=>Qm j.1 m.1 (p _ _ _ _ k dZ)) rfl sM (by
   intro q o A
   match q,o with
   |0,_=>simpa[Hm]using j
   |1,_=>simpa[Hm]using m) g (by simpa using d)
  rw[hv]at this ⊢;simpa using this
 |.Am fr to rc bn bat a c=>by
  intro h g d;rename_i w hi tv pre L;obtain⟨s,z,n,v,⟨b,_,_,hv,k⟩,r,y,rfl⟩:=h;have j:=r.kid (Fw e a) (M7 (Jf d));have m:=y.kid (Fw e c) (by have:=Jf d;rw[<-wA]at this;exact this)
  have:=Fd e (x:=⟨.Am fr to rc bn bat a c,tv⟩) hv (vs:=[s,z]) (Ls:=[n,v]) (λW p=>zne j.1 m.1 (p _ _ _ _ k dZ)) rfl sM (by
   intro q o A
   match q,o with
   |0,_=>simpa[Hm]using j
   |1,_=>simpa[Hm]using m) g (by simpa using d)
  rw[hv]at this ⊢;simpa using this
 |.cond fr to c t f=>by
  intro h g d;rename_i w hi tv pre L;obtain⟨s,z,F,n,v,D,⟨b,_,_,hv,k⟩,r,y,E,rfl⟩:=h;have j:=r.kid (Fw e c) (M7 (Jf d));have B:((pre++[⟨.cond fr to c t f,tv⟩])++n)++(v++D) <+:L0:=by have:=Jf d;rw[<-wA]at this;exact this
  have m:=y.kid (Fw e t) (M7 B);have C:=E.kid (Fw e f) (by rw[<-wA]at B;exact B)
  have:=Fd e (x:=⟨.cond fr to c t f,tv⟩) hv (vs:=[s,z,F]) (Ls:=[n,v,D]) (λW p=>Z6 j.1 m.1 C.1 (p _ _ _ _ k dZ)) rfl sM (by
   intro q o A
   match q,o with
   |0,_=>simpa[Hm]using j
   |1,_=>simpa[Hm]using m
   |2,_=>simpa[Hm,List.append_assoc]using C) g (by simpa using d)
  rw[hv]at this ⊢;simpa using this
theorem zjr(g:Zt l L0 J Jx)(d:zH w Bt #[tv] 68)(b:NDL w hi t tv L0)(f:J [] w):
  Calls prog 108 #[Ht l,pT Bt] w λe w'=>e=.returned (.tuple #[])/\(J L0 w'\/∃q,q <+:L0/\Jx q w'):=by
 obtain⟨c,j,rfl⟩:=b.iface;have k:w.cell? (aD Bt 0)=some (.iface c (pT j)):=zcR d;go_in;go_wp21;go_call (Fw g t b (pre:=[]) f sM) as e1 w1 h1;have X:J L0 w1\/∃q,q <+:L0/\Jx q w1:=by
  rcases h1 with⟨_,h,_⟩|⟨_,q,i,h⟩
  ·exact .inl (by simpa using h)
  ·exact .inr ⟨q,i,by simpa using h⟩
 obtain⟨a,rfl⟩:∃a,e1=.returned (.bool a):=by
  rcases h1 with⟨rfl,_⟩|⟨rfl,_⟩
  ·exact⟨_,rfl⟩
  ·exact⟨_,rfl⟩
 go_wp21;go_end0;exact⟨rfl,X⟩
abbrev zkn(L0:List TN):={x:TN // x∈L0}
abbrev zwr(L0:List TN)(x:zkn L0):Array Value:=#[x.1.v]
theorem zge{n:Nat}{L0:List TN}(m:zH w Bt #[tv] 68)(y:NDL w hi t tv L0):
  SeqStopsK Fence.wide n prog 108 #[pT Bt] (zwr L0) Kp (λA=>A.map (·.1)=L0) (λpre=>pre.map (·.1) <+:L0) L0.length w:=by
 intro l J Jx W q o B r j;have g:Kp w W:=λk c t C x _=>(q.block k (zgE.1 x).1).trans x;have Y:Zt l L0 (λpre W=>∃p:List (zkn L0),p.map (·.1)=pre/\J p W) (λpre W=>∃p:List (zkn L0),p.map (·.1)=pre/\Jx p W):=by
  refine⟨λ{F W b} ⟨p,d,a⟩ s=>⟨p,d,o p W b none a s (λE e=>by cases e)⟩,?_⟩;rintro pre x i ⟨p,rfl,a⟩ h;have f:x∈L0:=h.subset sM;have v:p.length<L0.length:=by
   have:=h.length_le;simp at this;omega
  refine Y1 (YieldAt.mono (r p ⟨x,f⟩ i a v) ?_);rintro e b (⟨he,hj',hk⟩|⟨he,hj'⟩)
  ·exact .inl ⟨he,⟨p++[⟨x,f⟩],sM,hj'⟩,hk⟩
  ·exact .inr ⟨he,⟨p++[⟨x,f⟩],sM,hj'⟩⟩
 refine callsIn_wide.2 ((zjr Y (g _ _ _ _ m dZ) (y.kp g) ⟨[],rfl,j⟩).mono ?_);rintro e b ⟨rfl,⟨p,d,a⟩|⟨D,z,p,rfl,a⟩⟩
 ·exact⟨⟨_,rfl⟩,.inl ⟨p,d,a⟩⟩
 ·exact⟨⟨_,rfl⟩,.inr ⟨p,z,a⟩⟩
theorem znf(w:World)(a:∃T n,tv=.iface T (pT n)):
  Calls prog 57 #[tv] w λe w'=>e=.returned (.func (.func 108) #[] #[pT w.heap.size])/\w'=w.alloc (.cells #[tv] 68):=by
 obtain⟨b,c,rfl⟩:=a;go_in;go_wp21;go_ret;exact⟨rfl,rfl⟩
end
end
end Go.Proofs.YtckhafpejefbbaaGreatDoor
