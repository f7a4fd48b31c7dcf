import Derived.RangeFuncNested
import Derived.RangeFuncBound
import Derived.RangeFuncCalls
import Derived.RangeFuncLeaves
import Derived.Shelf.Abstract
import Derived.Shelf.RegionOpen
import Derived.OwnWalkIn
import Derived.TacticsInMore
import Derived.Test.YtckhafpejefbbaaGreatDoorB12

set_option maxRecDepth 100000
set_option maxHeartbeats 4000000
namespace Go.Proofs.YtckhafpejefbbaaGreatDoor
section
abbrev wA:=@List.append_assoc
end
section
open Tw Go.Proofs.Tryz
open Go.RowKit Go.Shelf
variable{A B w:World}{hi:Nat}{v:Value}
attribute [local go_sem] Oper.semAt_some
structure NB where
 nb:Nat
 fr:Nat
 to:Nat
 tx:List UInt8
 e:Tw.BEn
def NB.k(x:NB):Option Addr:=x.e.look x.tx
def Qm:List TypeId:=[87,194,198,201,206,229,319,322,326,235,140,68,302,182,187,135,130,247,79]
def Kp(W W':World):Prop:=∀(k:Nat) (c:Array Value) (t:TypeId) (m:Nat×Nat),W.heap[k]?=some (.cells c t m)->Qm.contains t=true->W'.heap[k]?=some (.cells c t m)
theorem Kp.refl(W:World):Kp W W:=λ_ _ _ _ h _=>h
theorem Kp.trans{C:World}(h:Kp A B)(k:Kp B C):Kp A C:=λi c t m x y=>k i c t m (h i c t m x y) y
theorem Kp.of_grown(h:A.grownBy B none):Kp A B:=λi _ _ _ x _=>(h.block i (zgE.1 x).1 sM).trans x
def NL(w:World)(hi:Nat):Tw.T->Value->Tw.BEn->List NB->Prop
 |.name fr to tx,v,e,L=>∃b,(v=.iface 83 (.pointer (some ⟨b,0,none⟩))/\w.heap[b]?=some (.cells #[.int .i64 fr,.int .i64 to,ug tx] 87 (0,0)))/\L=[⟨b,fr,to,tx,e⟩]
 |.int fr to n,v,_,L=>nodeAt w 0 hi fr to [.int .i64 n] 191 194 v/\L=[]
 |.truth fr to b,v,_,L=>nodeAt w 0 hi fr to [.bool b] 195 198 v/\L=[]
 |.side fr to b,v,_,L=>nodeAt w 0 hi fr to [.bool b] 199 201 v/\L=[]
 |.bracket fr to i,v,e,L=>∃v1,nodeAt w 0 hi fr to [v1] 204 206 v/\NL w hi i v1 e L
 |.pair fr to l r,v,e,L=>∃v1 v2 L1 L2,nodeAt w 0 hi fr to [v1,v2] 207 229 v/\NL w hi l v1 e L1/\NL w hi r v2 e L2/\L=L1++L2
 |.call fr to l r,v,e,L=>∃v1 v2 L1 L2,nodeAt w 0 hi fr to [v1,v2] 209 319 v/\NL w hi l v1 e L1/\NL w hi r v2 e L2/\L=L1++L2
 |.binary fr to sg l r,v,e,L=>∃v1 v2 L1 L2,nodeAt w 0 hi fr to [.int .i64 sg,v1,v2] 211 322 v/\NL w hi l v1 e L1/\NL w hi r v2 e L2/\L=L1++L2
 |.cond fr to c t f,v,e,L=>∃v1 v2 v3 L1 L2 a,nodeAt w 0 hi fr to [v1,v2,v3] 213 326 v/\NL w hi c v1 e L1/\NL w hi t v2 e L2/\NL w hi f v3 e a/\L=L1++L2++a
 |.fn fr to bn bat b,v,e,L=>∃k v1,(k<hi/\v=.iface 215 (.pointer (some ⟨k,0,none⟩))/\w.heap[k]?=some (.cells #[.int .i64 fr,.int .i64 to,ug bn,.int .i64 bat,v1] 235 (0,0)))/\NL w hi b v1 (.cons bn ⟨k,2,none⟩ e) L
 |.lett fr to rc bn bat d b,v,e,L=>∃k v1 v2 L1 L2,(k<hi/\v=.iface 136 (.pointer (some ⟨k,0,none⟩))/\w.heap[k]?=some (.cells #[.int .i64 fr,.int .i64 to,.bool rc,ug bn,.int .i64 bat,v1,v2] 140 (0,0))) /\
  NL w hi d v1 (if rc then .cons bn ⟨k,3,none⟩ e else e) L1/\NL w hi b v2 (.cons bn ⟨k,3,none⟩ e) L2/\L=L1++L2
theorem nodeAt.kp{b:World}{lo fr to:Nat}{rest:List Value}{a st:TypeId}(h:nodeAt w lo hi fr to rest a st v)(j:Kp w b)(k:Qm.contains st=true):nodeAt b lo hi fr to rest a st v:=by
 obtain⟨d,e,f,g,i⟩:=h;exact⟨d,e,f,g,j _ _ _ _ i k⟩
theorem NL.kp{w d:World}{hi:Nat}(a:Kp w d):∀ {t:Tw.T} {v:Value} {e:Tw.BEn} {L:List NB},NL w hi t v e L->NL d hi t v e L
 |.name ..,_,_,_,⟨b,⟨h1,h2⟩,h3⟩=>⟨b,⟨h1,a _ _ _ _ h2 dZ⟩,h3⟩
 |.int ..,_,_,_,⟨h,hl⟩=>⟨h.kp a dZ,hl⟩
 |.truth ..,_,_,_,⟨h,hl⟩=>⟨h.kp a dZ,hl⟩
 |.side ..,_,_,_,⟨h,hl⟩=>⟨h.kp a dZ,hl⟩
 |.bracket ..,_,_,_,⟨v1,h,r1⟩=>⟨v1,h.kp a dZ,NL.kp a r1⟩
 |.pair ..,_,_,_,⟨v1,v2,L1,L2,h,r1,r2,hl⟩=>⟨v1,v2,L1,L2,h.kp a dZ,NL.kp a r1,NL.kp a r2,hl⟩
 |.call ..,_,_,_,⟨v1,v2,L1,L2,h,r1,r2,hl⟩=>⟨v1,v2,L1,L2,h.kp a dZ,NL.kp a r1,NL.kp a r2,hl⟩
 |.binary ..,_,_,_,⟨v1,v2,L1,L2,h,r1,r2,hl⟩=>⟨v1,v2,L1,L2,h.kp a dZ,NL.kp a r1,NL.kp a r2,hl⟩
 |.cond ..,_,_,_,⟨v1,v2,v3,L1,L2,L3,h,r1,r2,r3,hl⟩=>⟨v1,v2,v3,L1,L2,L3,h.kp a dZ,NL.kp a r1,NL.kp a r2,NL.kp a r3,hl⟩
 |.fn ..,_,_,_,⟨k,v1,⟨h0,h1,h2⟩,r1⟩=>⟨k,v1,⟨h0,h1,a _ _ _ _ h2 dZ⟩,NL.kp a r1⟩
 |.lett ..,_,_,_,⟨k,v1,v2,L1,L2,⟨h0,h1,h2⟩,r1,r2,hl⟩=>⟨k,v1,v2,L1,L2,⟨h0,h1,a _ _ _ _ h2 dZ⟩,NL.kp a r1,NL.kp a r2,hl⟩
theorem BAt.kp{w d:World}(a:Kp w d):∀ {e:Tw.BEn} {v:Value},BAt w e v->BAt d e v
 |.nil,_,h=>h
 |.cons ..,_,⟨b,vo,hv,hb,ho⟩=>⟨b,vo,hv,a _ _ _ _ hb dZ,BAt.kp a ho⟩
theorem NL.of_rep{w:World}{hi:Nat}:∀ {t:Tw.T} {v:Value} (e:Tw.BEn),Rep w 0 hi t v->∃L,NL w hi t v e L
 |.name ..,_,_,⟨b,_,_,h2,h3⟩=>⟨_,b,⟨h2,h3⟩,rfl⟩
 |.int ..,_,_,h=>⟨_,h,rfl⟩
 |.truth ..,_,_,h=>⟨_,h,rfl⟩
 |.side ..,_,_,h=>⟨_,h,rfl⟩
 |.bracket ..,_,e,⟨v1,h,r1⟩=>let⟨L,a⟩:=NL.of_rep e r1;⟨L,v1,h,a⟩
 |.pair ..,_,e,⟨v1,v2,h,r1,r2⟩=>let⟨d,a⟩:=NL.of_rep e r1;let⟨f,g⟩:=NL.of_rep e r2;⟨_,v1,v2,d,f,h,a,g,rfl⟩
 |.call ..,_,e,⟨v1,v2,h,r1,r2⟩=>let⟨d,a⟩:=NL.of_rep e r1;let⟨f,g⟩:=NL.of_rep e r2;⟨_,v1,v2,d,f,h,a,g,rfl⟩
 |.binary ..,_,e,⟨v1,v2,h,r1,r2⟩=>let⟨d,a⟩:=NL.of_rep e r1;let⟨f,g⟩:=NL.of_rep e r2;⟨_,v1,v2,d,f,h,a,g,rfl⟩
 |.cond ..,_,e,⟨v1,v2,v3,h,r1,r2,r3⟩=>let⟨d,a⟩:=NL.of_rep e r1;let⟨f,g⟩:=NL.of_rep e r2;let⟨i,j⟩:=NL.of_rep e r3;⟨_,v1,v2,v3,d,f,i,h,a,g,j,rfl⟩
 |.fn _ _ bn _ _,_,e,⟨v1,⟨b,_,hb,h2,h3⟩,r1⟩=>let⟨L,a⟩:=NL.of_rep (.cons bn (aD b 2) e) r1;⟨L,b,v1,⟨hb,h2,h3⟩,a⟩
 |.lett _ _ rc bn _ _ _,_,e,⟨v1,v2,⟨b,_,hb,h2,h3⟩,r1,r2⟩=>let⟨d,a⟩:=NL.of_rep (if rc then .cons bn (aD b 3) e else e) r1;let⟨f,g⟩:=NL.of_rep (.cons bn (aD b 3) e) r2;⟨_,b,v1,v2,d,f,⟨hb,h2,h3⟩,a,g,rfl⟩
theorem NL.iface{t:Tw.T}{e:Tw.BEn}{L:List NB}(h:NL w hi t v e L):∃T n,v=.iface T (pT n):=by
 cases t with
 |name=>obtain⟨b,⟨h,_⟩,_⟩:=h;exact⟨_,_,h⟩
 |int=>obtain⟨⟨b,_,_,h,_⟩,_⟩:=h;exact⟨_,_,h⟩
 |truth=>obtain⟨⟨b,_,_,h,_⟩,_⟩:=h;exact⟨_,_,h⟩
 |side=>obtain⟨⟨b,_,_,h,_⟩,_⟩:=h;exact⟨_,_,h⟩
 |bracket=>obtain⟨_,⟨b,_,_,h,_⟩,_⟩:=h;exact⟨_,_,h⟩
 |pair=>obtain⟨_,_,_,_,⟨b,_,_,h,_⟩,_⟩:=h;exact⟨_,_,h⟩
 |call=>obtain⟨_,_,_,_,⟨b,_,_,h,_⟩,_⟩:=h;exact⟨_,_,h⟩
 |binary=>obtain⟨_,_,_,_,⟨b,_,_,h,_⟩,_⟩:=h;exact⟨_,_,h⟩
 |cond=>obtain⟨_,_,_,_,_,_,⟨b,_,_,h,_⟩,_⟩:=h;exact⟨_,_,h⟩
 |fn=>obtain⟨_,_,⟨_,h,_⟩,_⟩:=h;exact⟨_,_,h⟩
 |lett=>obtain⟨_,_,_,_,_,⟨_,h,_⟩,_⟩:=h;exact⟨_,_,h⟩
abbrev Fv(l:Nat):Value:=.func (.yield l) #[] #[]
abbrev zkw(F c:Nat):Value:=.func (.func F) #[] #[.pointer (some ⟨c,0,none⟩)]
structure Ub(F c:Nat)(L0:List NB)(J Jx:List NB->World->Prop):Prop where
 enter:∀(args:Array Value) (W:World),Sem.run prog (callFunc F args) W=.ok (.enter F args) W
 grown:∀ {s:List NB} {W W':World},J s W->W.grownBy W' none->J s W'
 call:∀(pre:List NB) (x:NB) (W:World) (ev:Value),J pre W->(pre++[x]) <+:L0->W.heap[x.nb]?=some (.cells #[.int .i64 x.fr,.int .i64 x.to,ug x.tx] 87 (0,0))->BAt W x.e ev ->
  Calls prog F #[.pointer (some ⟨x.nb,0,none⟩),ev,.pointer (some ⟨c,0,none⟩)] W fun e W'=>
  (e=.returned (.bool true)/\J (pre++[x]) W'/\Kp W W')\/(e=.returned (.bool false)/\Jx (pre++[x]) W')
def EPost(J Jx:List NB->World->Prop)(pre L:List NB)(w:World)(r:Ending)(a:World):Prop:=
 (r=.returned (.bool true)/\J (pre++L) a/\Kp w a)\/(r=.returned (.bool false)/\∃q,q <+:L/\Jx (pre++q) a)
def Uy(F c:Nat)(L0:List NB)(J Jx:List NB->World->Prop)(t:Tw.T):Prop:=∀ {w:World} {hi:Nat} {b a:Value} {e:Tw.BEn} {pre L:List NB},NL w hi t b e L->BAt w e a->J pre w->(pre++L) <+:L0 ->
 Calls prog 84 #[b,a,zkw F c] w (EPost J Jx pre L w)
variable {F c:Nat}{L0:List NB}{J Jx:List NB -> World -> Prop}
theorem zg0(b:Ub F c L0 J Jx){fr to:Nat}{x:List UInt8}:Uy F c L0 J Jx (.name fr to x):=by
 intro w hi p g f pre L j d h k;obtain⟨e,⟨rfl,i⟩,rfl⟩:=j;have a:=bV (b.call pre ⟨e,fr,to,x,f⟩ w g h k i d);dsimp only at a;obtain⟨m,rfl⟩:=d.ptr;have o:=Mx
 go_in;go_wp2_with fail;rw[b.enter];refine(uh a).mono ?_;rintro n l (⟨rfl,hJ2,hk2⟩|⟨rfl,hx2⟩)
 ·go_wp2_with fail;go_ret;exact .inl ⟨rfl,hJ2,hk2⟩
 ·go_wp2_with fail;go_ret;exact .inr ⟨rfl,_,List.prefix_refl _,hx2⟩
def KidE(F c:Nat)(J Jx:List NB->World->Prop)(ev v:Value)(w:World)(pre L:List NB):Prop:=∀W:World,Kp w W->J pre W->Calls prog 84 #[v,ev,zkw F c] W (EPost J Jx pre L W)
def Hc(Ls:List (List NB))(q:Nat):List NB:=(Ls.take q).flatten
theorem zdv(Ls:List (List NB))(q:Nat)(h:q<Ls.length):Hc Ls (q+1)=Hc Ls q++Ls[q]:=by
 unfold Hc;rw[cE h,List.flatten_append];simp
theorem Gd(hY:Ub F c L0 J Jx){PT:TypeId}{w:World}{b:Nat}{ev:Value}{vs:List Value}{Ls:List (List NB)}{pre:List NB}
  (q0:TaNo PT 83)
  (q1:TaNo PT 215)
  (q2:TaNo PT 136)
  (hP:Calls prog 162 #[.iface PT (pT b)] w (Dq w vs)) (hea:∃a,ev=.pointer a)
  (hlen:vs.length=Ls.length) (hl3:Ls.length<=3) (hK:∀j (h1:j<vs.length) (h2:j<Ls.length),(∃T n,vs[j]=.iface T (pT n))/\KidE F c J Jx ev vs[j] w (pre++Hc Ls j) Ls[j]) (hJ:J pre w) :
  Calls prog 84 #[.iface PT (pT b),ev,zkw F c] w (EPost J Jx pre Ls.flatten w):=by
 obtain⟨a,rfl⟩:=hea;have HP:=bV hP;have HK:=bV hK;have HJ:=bV hJ
 go_in;go_wp2_with fail;refine(uh HP).mono ?_;rintro e1 w1 ⟨hg,hcase⟩;have G1:Hid (w.grownBy w1 none):=hg;have J1:Hid (J pre w1):=hY.grown (uh HJ) hg;rcases hcase with⟨rfl,rfl⟩|⟨k,rfl,hk⟩
 ·have hk0:Ls=[]:=by simpa using hlen.symm
  subst hk0;go_wp2_with fail;go_loopg[79] 0 (λj iv wr=>iv=vI 0/\wr=w1)
  case atStart=>exact⟨rfl,rfl⟩
  case round=>
   obtain⟨rfl,rfl⟩:=hrel;go_wp2_with fail;go_ret;go_light;exact .inl ⟨rfl,by simpa using J1.o,Kp.of_grown G1.o⟩
 ·have C1:Hid (w1.heap[k]?=some (.cells (Kt vs) 68 (0,0))):=hk;have c65:prog.cellsOf 68=1:=kR;obtain⟨N,hV⟩:∃N,vs.length=N:=⟨_,rfl⟩;rw[hV];have HV:=bV hV;have hLN:N=Ls.length:=oM;have HLN:=bV hLN;have hN3:N<=3:=oM;go_wp2_with fail;go_loopg[79] N (λj iv wr=>∃q:Nat,j+q=N/\q<=N/\iv=vI q/\Hid (J (pre++Hc Ls q) wr)/\Hid (Kp w1 wr))
  case atStart=>exact⟨0,oM,oM,rfl,by simpa[Hc]using J1,Kp.refl _⟩
  case round=>
   obtain⟨q,hjq,hq,rfl,JR,KR⟩:=hrel;by_cases hlt:q<N
   ·have h1:q<vs.length:=(by rw[uh HV];exact hlt);have h2:q<Ls.length:=(by rw[<-uh HLN];exact hlt);obtain⟨⟨T,nn,hv⟩,hks⟩:=uh HK q h1 h2;rw[hv]at hks;have hc:wr.cell? (aD k q)=some (.iface T (pT nn)):=by
     rw[mB wr k _ _ _ _ (KR.o _ _ _ _ C1.o dZ)];simp[Kt,h1,hv]
    have hqi:(q:Int)<(N:Int):=oM;have KS:=bV (hks wr ((Kp.of_grown G1.o).trans KR.o) JR.o);have hss:=bV (zdv Ls q h2);have HL:Hid (Hc Ls q++Ls[q] <+:Ls.flatten):=by
     show _ <+:_;rw[<-uh hss];exact⟨(Ls.drop (q+1)).flatten,by unfold Hc;rw[<-List.flatten_append,List.take_append_drop]⟩
    generalize Ls[q]=Lq at *;go_wp2_with fail;refine(uh KS).mono ?_;rintro e2 w2 (⟨rfl,hj2,hk2⟩|⟨rfl,p,hp,hx⟩)
    ·have J2:Hid (J (pre++Hc Ls (q+1)) w2):=by show J _ _;rw[uh hss,<-wA];exact hj2
     have K2:Hid (Kp w1 w2):=KR.o.trans hk2;go_wp2_with fail;go_roundg (gk-1)
     case measure=>omega
     case rel=>exact⟨q+1,oM,oM,by go_num,J2,K2⟩
    ·have X:Hid (∃p',p' <+:Ls.flatten/\Jx (pre++p') w2):=by
      refine⟨Hc Ls q++p,?_,by rw[<-wA];exact hx⟩;obtain⟨r,hr⟩:=hp;obtain⟨r',hr'⟩:=uh HL;exact⟨r++r',by rw[<-hr',<-hr];simp[List.append_assoc]⟩
     go_wp2_with fail;go_ret;go_light;exact .inr ⟨rfl,X.o⟩
   ·have hqN:q=N:=oM;have J2:Hid (J (pre++Ls.flatten) wr):=by
     have:=JR.o;rw[hqN,uh HLN]at this;unfold Hc at this;rw[List.take_length]at this;exact this
    go_wp2_with fail;go_ret;go_light;exact .inl ⟨rfl,J2.o,(Kp.of_grown G1.o).trans KR.o⟩
end
section
open Tw Go.Proofs.Tryz
open Go.RowKit Go.Shelf
variable {F c:Nat}{L0:List NB}{J Jx:List NB -> World -> Prop}
variable{pre L:List NB}{w w':World}{r:Ending}
theorem EPost.one(h:EPost J Jx pre L w r w'):∃a,r=.returned (.bool a)/\EPost J Jx pre L w (.returned (.bool a)) w':=by
 rcases h with⟨rfl,h⟩|⟨rfl,h⟩
 ·exact⟨true,rfl,.inl ⟨rfl,h⟩⟩
 ·exact⟨false,rfl,.inr ⟨rfl,h⟩⟩
theorem EPost.from{a:World}(h:EPost J Jx pre L w r w')(e:Kp a w):EPost J Jx pre L a r w':=
 h.imp (λ⟨b,d,c⟩=>⟨b,d,e.trans c⟩) id
theorem zi9(y:Ub F c L0 J Jx){fr to bat:Nat}{i:List UInt8}{body:Tw.T}(v:Uy F c L0 J Jx body):Uy F c L0 J Jx (.fn fr to i bat body):=by
  intro w O U N M pre L a k x z;obtain⟨h,V,⟨_,rfl,j⟩,l⟩:=a;have n:=bV k;have s:=bV l;have g:=bV j;have o:=bV x;have p:=bV z;obtain⟨B,P,rfl⟩:=l.iface;obtain⟨_,_,E,_,G⟩:=Ev j;obtain⟨C,rfl⟩:=k.ptr;have Q:=Oo;have R:=Ke;have S:=Kf
  go_in;go_wp2_with fail;have d:Hid (w.grownBy w.drew none):=Ad (Aa _)
  go_region_with (first
      |(go_at_call 161;refine(Yj ((uh n).grown d.o) i (aD h 2)).mono ?_;rintro t A ⟨T,rfl,f,a⟩;have e:Hid (w.grownBy A none):=Ab d.o f;have q:=bV a;have m:=Ev ((Ab d.o f).block h (zgE.1 g.o).1 sM|>.trans g.o);obtain⟨_,_,H,_,I⟩:=m;clear f a)
      |(go_at_call 84;refine(v ((uh s).kp (Kp.of_grown e.o)) (uh q) (y.grown (uh o) e.o) (uh p)).mono ?_;rintro t W b;obtain⟨D,rfl,b⟩:=b.one;have X:=bV (b.from (Kp.of_grown e.o));clear b))
  all_goals (go_wp2_with fail;go_ret;exact X.o)
end
section
open Tw Go.Proofs.Tryz
open Go.RowKit Go.Shelf
variable {F c:Nat}{L0:List NB}{J Jx:List NB -> World -> Prop}
variable{pre:List NB}
theorem zja(hY:Ub F c L0 J Jx){fr to bat:Nat}{rc:Bool}{bn:List UInt8}{d x:Tw.T}(hD:Uy F c L0 J Jx d)(hX:Uy F c L0 J Jx x):Uy F c L0 J Jx (.lett fr to rc bn bat d x):=by
  intro w hi tv ev e pre L hn he hJ hp;obtain⟨b,v1,v2,L1,L2,⟨_,rfl,hb⟩,n1,n2,rfl⟩:=hn;have HE:=bV he;have R1:=bV n1;have R2:=bV n2;have B0:=bV hb;have HJ:=bV hJ;have HP:=bV hp;have HP1:Hid (pre++L1 <+:L0):=by
    obtain⟨r,hr⟩:=hp;exact⟨L2++r,by rw[<-hr];simp[List.append_assoc]⟩
  obtain⟨T1,k1,rfl⟩:=n1.iface;obtain⟨T2,k2,rfl⟩:=n2.iface;obtain⟨c2,c3,c5,c6⟩:=Bg hb;obtain⟨a,rfl⟩:=he.ptr;have q0:=Ot;have q1:=Kg;have q2:=Kh
  go_in;go_wp2_with fail;have D1:Hid (w.grownBy w.drew none):=Ad (Aa _);go_region_held3 (λW=>W.cell? (aD b 3)=some (ug bn)) (go_keep)
    (first
      |(go_at_call 161;refine(Yj ((uh HE).grown D1.o) bn (aD b 3)).mono ?_;rintro e1 w2 ⟨sa,rfl,hg,hn⟩;have G2:Hid (w.grownBy w2 none):=Ab D1.o hg;have N2:=bV hn;have B2:=Bg ((Ab D1.o hg).block b (zgE.1 B0.o).1 sM|>.trans B0.o);obtain⟨d2,d3,d5,d6⟩:=B2;clear hg hn))
  have key:Hid (∃iv,iv=(if rc then .pointer sa else .pointer a:Value)/\BAt w2 (if rc then .cons bn (aD b 3) e else e) iv):=by
    cases rc
    · exact⟨_,rfl,(uh HE).grown G2.o⟩
    · exact⟨_,rfl,uh N2⟩
  cases rc<;>(
    simp only[xA,if_false,if_true]at key R1;obtain⟨iv,rfl,hiv⟩:=key.o;have HIV:=bV hiv;go_wp2_with fail;refine(hD ((uh R1).kp (Kp.of_grown G2.o)) (uh HIV) (hY.grown (uh HJ) G2.o) (uh HP1)).mono ?_;rintro e1 w3 (⟨rfl,hj3,hk3⟩|⟨rfl,q,hq,hx⟩)
    · have J3:=bV hj3
      have K3:Hid (Kp w w3):=(Kp.of_grown G2.o).trans hk3;have N3:=bV ((uh N2).kp hk3);obtain⟨g2,g3,g5,g6⟩:=Bg (K3.o _ _ _ _ B0.o dZ);go_wp2_with fail;refine(hX ((uh R2).kp K3.o) (uh N3) (uh J3) (by rw[wA];exact uh HP)).mono ?_;rintro e1 w4 h4;obtain⟨bv,rfl,h4⟩:=h4.one;have X:Hid (EPost J Jx pre (L1++L2) w (.returned (.bool bv)) w4):=by
        rcases h4 with⟨h0,h1,h2⟩|⟨h0,q,hq,hx⟩
        · exact .inl ⟨h0,by rw[<-wA];exact h1,K3.o.trans h2⟩
        · refine .inr ⟨h0,L1++q,?_,by rw[<-wA];exact hx⟩
          obtain⟨r,hr⟩:=hq;exact⟨r,by rw[<-hr,wA]⟩
      go_wp2_with fail;go_ret;exact X.o
    · have X:Hid (EPost J Jx pre (L1++L2) w (.returned (.bool false)) w3):=by
        refine .inr ⟨rfl,q,?_,hx⟩;obtain⟨r,hr⟩:=hq;exact⟨r++L2,by rw[<-hr,wA]⟩
      go_wp2_with fail;go_ret;exact X.o)
theorem NL.kidE{t:Tw.T}(h:Uy F c L0 J Jx t){w:World}{hi:Nat}{v ev:Value}{e:Tw.BEn}{L:List NB}(b:NL w hi t v e L)(d:BAt w e ev)(g:pre++L <+:L0):(∃T n,v=.iface T (pT n))/\KidE F c J Jx ev v w pre L:=
 ⟨b.iface,λ_ a f=>h (b.kp a) (d.kp a) f g⟩
theorem Mj{L1 L2:List NB}(h:pre++(L1++L2) <+:L0):pre++L1 <+:L0:=by
 obtain⟨r,a⟩:=h;exact⟨L2++r,by rw[<-a];simp[List.append_assoc]⟩
theorem Ek(g:Ub F c L0 J Jx):∀t:Tw.T,Uy F c L0 J Jx t
 |.name fr to x=>zg0 g
 |.int fr to v=>by
  intro k e j h;obtain⟨⟨b,_,_,rfl,m⟩,rfl⟩:=k
  have:=Gd g (vs:=[]) (Ls:=[]) Og J0 J5 (Tb _ b) e.ptr rfl sM sM j;simpa using this
 |.truth fr to v=>by
  intro k e j h;obtain⟨⟨b,_,_,rfl,m⟩,rfl⟩:=k
  have:=Gd g (vs:=[]) (Ls:=[]) Lm Hv Hw (Ov _ b) e.ptr rfl sM sM j;simpa using this
 |.side fr to v=>by
  intro k e j h;obtain⟨⟨b,_,_,rfl,m⟩,rfl⟩:=k
  have:=Gd g (vs:=[]) (Ls:=[]) My I6 I7 (Qt _ b) e.ptr rfl sM sM j;simpa using this
 |.bracket fr to i=>by
  intro k e j h;rename_i L;obtain⟨r,⟨b,_,_,rfl,m⟩,q⟩:=k;have l:=q.kidE (Ek g i) e h
  have:=Gd g (vs:=[r]) (Ls:=[L]) Jh Gb Gc (Lp l.1 m) e.ptr rfl sM (by
   intro p o A
   match p,o with
   |0,_=>simpa[Hc]using l) j
  simpa using this
 |.fn fr to bn bat b=>zi9 g (Ek g b)
 |.lett fr to rc bn bat d b=>zja g (Ek g d) (Ek g b)
 |.pair fr to a c=>by
  intro k e j h;obtain⟨r,z,s,w,⟨b,_,_,rfl,m⟩,q,y,rfl⟩:=k;have l:=q.kidE (Ek g a) e (Mj h);have n:=y.kidE (Ek g c) e (by rw[<-wA]at h;exact h)
  have:=Gd g (vs:=[r,z]) (Ls:=[s,w]) Mz I8 I9 (Qu l.1 n.1 m) e.ptr rfl sM (by
   intro p o A
   match p,o with
   |0,_=>simpa[Hc]using l
   |1,_=>simpa[Hc]using n) j
  simpa using this
 |.call fr to a c=>by
  intro k e j h;obtain⟨r,z,s,w,⟨b,_,_,rfl,m⟩,q,y,rfl⟩:=k;have l:=q.kidE (Ek g a) e (Mj h);have n:=y.kidE (Ek g c) e (by rw[<-wA]at h;exact h)
  have:=Gd g (vs:=[r,z]) (Ls:=[s,w]) M7 Ja Jc (Qv l.1 n.1 m) e.ptr rfl sM (by
   intro p o A
   match p,o with
   |0,_=>simpa[Hc]using l
   |1,_=>simpa[Hc]using n) j
  simpa using this
 |.binary fr to sg a c=>by
  intro k e j h;obtain⟨r,z,s,w,⟨b,_,_,rfl,m⟩,q,y,rfl⟩:=k;have l:=q.kidE (Ek g a) e (Mj h);have n:=y.kidE (Ek g c) e (by rw[<-wA]at h;exact h)
  have:=Gd g (vs:=[r,z]) (Ls:=[s,w]) Kd Gu Gv (M8 l.1 n.1 m) e.ptr rfl sM (by
   intro p o A
   match p,o with
   |0,_=>simpa[Hc]using l
   |1,_=>simpa[Hc]using n) j
  simpa using this
 |.cond fr to c t f=>by
  intro k e j h;obtain⟨r,z,G,s,w,C,⟨b,_,_,rfl,m⟩,q,y,E,rfl⟩:=k;have D:=Mj h;have l:=q.kidE (Ek g c) e (Mj D);have n:=y.kidE (Ek g t) e (by have:=Mj h;rw[<-wA]at this;exact this);have B:=E.kidE (Ek g f) e (by rw[<-wA]at h;exact h)
  have:=Gd g (vs:=[r,z,G]) (Ls:=[s,w,C]) Qq Me Mf (Vx l.1 n.1 B.1 m) e.ptr rfl sM (by
   intro p o A
   match p,o with
   |0,_=>simpa[Hc]using l
   |1,_=>simpa[Hc]using n
   |2,_=>simpa[Hc,List.append_assoc]using B) j
  simpa[List.append_assoc]using this
end
section
abbrev pD:=@List.cons_append
abbrev rD:=@List.nil_append
abbrev zD:=@List.length_nil
end
section
open Tw Go.Proofs.Tryz
open Go.RowKit Go.Shelf
variable{l hi Bt:Nat}{L0:List NB}{J Jx:List NB->World->Prop}{w:World}{t:Tw.T}{tv:Value}
theorem Zs{m i:Nat}{P:Program}{args:Array Value}{W:World}{R:Ending->World->Prop}(h:YieldAt Fence.wide m P l args W R):YieldAt Fence.wide i P l args W R:=by
 obtain⟨f,j,b,d,g,a⟩:=h;exact⟨f,j,b,d,g,a.1,λc e _=>a.2 c e (room_wide _)⟩
structure zas(l:Nat)(L0:List NB)(J Jx:List NB->World->Prop):Prop where
 grown:∀ {s:List NB} {W W':World},J s W->W.grownBy W' none->J s W'
 yield:∀(pre:List NB) (x:NB) (W:World),J pre W->(pre++[x]) <+:L0->YieldAt Fence.wide 0 prog l #[.pointer (some ⟨x.nb,0,none⟩),.pointer x.k] W fun e W'=>
  (e=.returned (.bool true)/\J (pre++[x]) W'/\Kp W W')\/(e=.returned (.bool false)/\Jx (pre++[x]) W')
abbrev znp(l c:Nat)(W:World):Prop:=W.heap[c]?=some (.cells #[Fv l] 182 (0,0))
theorem zl8(e:zas l L0 J Jx)(c:Nat):Ub 85 c L0 (λp W=>J p W/\znp l c W) Jx:=by
 refine⟨λE W=>rfl,λ{Q W C} ⟨z,a⟩ g=>⟨e.grown z g,zbG g a⟩,?_⟩;rintro pre x w N ⟨s,a⟩ A y f;obtain⟨O,R,F,G,P,v⟩:=e.yield pre x w s A;have H:w.cell? ⟨x.nb,2,none⟩=some (ug x.tx):=zcR y;have I:w.cell? (aD c 0)=some (Fv l):=zcR a;have d:=bV f;have i:=bV a;obtain⟨o,rfl⟩:=f.ptr;have m:=bV v;have j:Hid (Calls prog 86 #[.pointer o,ug x.tx] w λB b=>(∃ok,B=.returned (.tuple #[.pointer x.k,.bool ok]))/\w=b):=by
  unfold NB.k;cases h:x.e.look x.tx with
  |none=>exact(zdr (uh d) x.tx h).mono (by rintro q b ⟨rfl,rfl⟩;exact⟨⟨_,rfl⟩,rfl⟩)
  |some k=>exact(zgx (uh d) x.tx h).mono (by rintro q b ⟨rfl,rfl⟩;exact⟨⟨_,rfl⟩,rfl⟩)
 refine(callsIn_wide (n:=1)).1 ?_;refine callsIn_of_wp func85 rfl trivial ?_;simp only[ntmps85,List.size_toArray,zB,zD,Nat.reduceAdd,Nat.reduceSub,Array.replicate_succ,Array.replicate_zero,List.push_toArray,List.append_toArray,rD,pD];gi_wp2_with ((try refine⟨trivial,?_⟩);gi_at_call 86;refine(callsIn_wide.2 (uh j)).mono ?_;rintro L S ⟨⟨ok,rfl⟩,rfl⟩)
 (try refine⟨λr=>(by cases r),?_⟩);refine(uh m).mono ?_;rintro M D (⟨rfl,hJ2,hk2⟩|⟨rfl,hx2⟩)
 ·gi_wp2;go_ret;exact .inl ⟨rfl,⟨hJ2,hk2 _ _ _ _ (uh i) dZ⟩,hk2⟩
 ·gi_wp2;go_ret;exact .inr ⟨rfl,hx2⟩
theorem zdw(b:zas l L0 J Jx)(k:w.heap[Bt]?=some (.cells #[tv] 68 (0,0)))(c:NL w hi t tv .nil L0)(m:J [] w):
  Calls prog 83 #[Fv l,pT Bt] w λe d=>e=.returned (.tuple #[])/\(J L0 d\/∃q,q <+:L0/\Jx q d):=by
 have i:=bV c;have g:=bV m;obtain⟨j,o,rfl⟩:=c.iface;have G:Hid (w.grownBy (w.alloc (.cells #[Fv l] 182)) none):=zwA _ _ none;have r:(w.alloc (.cells #[Fv l] 182)).cell? (aD Bt 0)=some (.iface j (pT o)):=zcR (zbG G.o k)
 go_in;go_wp2_with fail;refine(Ek (zl8 b w.heap.size) t ((uh i).kp (Kp.of_grown G.o)) (show BAt _ .nil (.pointer none)from rfl) ⟨b.grown (uh g) G.o,Ac w _⟩ sM).mono ?_;rintro s f a;obtain⟨p,rfl,a⟩:=a.one;have X:Hid (J L0 f\/∃q,q <+:L0/\Jx q f):=by
  rcases a with⟨_,⟨h,_⟩,_⟩|⟨_,q,n,h⟩
  ·exact .inl (by simpa using h)
  ·exact .inr ⟨q,n,by simpa using h⟩
 go_wp2_with fail;go_end0;exact⟨rfl,X.o⟩
abbrev NBIn(L0:List NB):={x:NB // x∈L0}
abbrev encN(L0:List NB)(x:NBIn L0):Array Value:=#[.pointer (some ⟨x.1.nb,0,none⟩),.pointer x.1.k]
theorem Ul{n:Nat}(m:w.heap[Bt]?=some (.cells #[tv] 68 (0,0)))(y:NL w hi t tv .nil L0):
  SeqStopsK Fence.wide n prog 83 #[pT Bt] (encN L0) Kp (λA=>A.map (·.1)=L0) (λpre=>pre.map (·.1) <+:L0) L0.length w:=by
 intro l J Jx W q o B r j;have g:Kp w W:=λk c t C x _=>(q.block k (zgE.1 x).1).trans x;have Y:zas l L0 (λpre W=>∃p:List (NBIn L0),p.map (·.1)=pre/\J p W) (λpre W=>∃p:List (NBIn L0),p.map (·.1)=pre/\Jx p W):=by
  refine⟨λ{F W b} ⟨p,d,a⟩ s=>⟨p,d,o p W b none a s (λE e=>by cases e)⟩,?_⟩;rintro pre x i ⟨p,rfl,a⟩ h;have f:x∈L0:=h.subset sM;have v:p.length<L0.length:=by
   have:=h.length_le;simp at this;omega
  refine Zs (YieldAt.mono (r p ⟨x,f⟩ i a v) ?_);rintro e b (⟨he,hj',hk⟩|⟨he,hj'⟩)
  ·exact .inl ⟨he,⟨p++[⟨x,f⟩],sM,hj'⟩,hk⟩
  ·exact .inr ⟨he,⟨p++[⟨x,f⟩],sM,hj'⟩⟩
 refine callsIn_wide.2 ((zdw Y (g _ _ _ _ m dZ) (y.kp g) ⟨[],rfl,j⟩).mono ?_);rintro e b ⟨rfl,⟨p,d,a⟩|⟨D,z,p,rfl,a⟩⟩
 ·exact⟨⟨_,rfl⟩,.inl ⟨p,d,a⟩⟩
 ·exact⟨⟨_,rfl⟩,.inr ⟨p,z,a⟩⟩
theorem Yl(w:World)(a:∃T n,tv=.iface T (pT n)):
  Calls prog 48 #[tv] w λe b=>e=.returned (.func (.func 83) #[] #[pT w.heap.size])/\b=w.alloc (.cells #[tv] 68):=by
 obtain⟨c,d,rfl⟩:=a
 go_in;go_wp2_with fail;go_ret;exact⟨rfl,rfl⟩
end
section
abbrev xD:=@List.length_drop
end
section
open Tw Go.Proofs.Tryz
open Go.RowKit Go.Shelf
variable{w w':World}
attribute [local go_sem] Oper.semAt_some
theorem zg2{n:Nat}{P:Program}{b:Type}{g:Operand}{p q d1 d2:Tmp}{k body:Code}{Q:Exit->Act->World->Prop}{a:Act}
  (v:1<=n) {h:Nat} {m:Array Value} (M:a.eval g=.func (.func h) #[] m) (s:∀args w,(callFunc h args).run P w=.ok (.enter h args) w)
  {d e :b -> Value} {Kp:World->World->Prop} {S j:List b -> Prop} {N:Nat} {i:World} (O:SeqStopsK Fence.wide (n-1) P h m (λx=>#[d x,e x]) Kp S j N i)
  (F:∀ {A B C:World},Kp A B->Kp B C->Kp A C) (E:∀(W:World) (l:Nat) (o T:Obj),w.heap.size<=l->W.heap[l]?=some o->o.isCells=false->o.isWalk=false->Kp W (W.putObj l T)) (H:Below i.heap.size i w)
  (I:List b -> World->Prop) (f:Code->List b -> World->Prop) (y:OwnFrom w.heap.size I) (z:∀c,OwnFrom w.heap.size (f c)) (t:I [] w)
  (G:∀(l:Nat) (x :b) (W:World) (K:Act->World->Prop),K {tmps:=(((a.tmps.setIfInBounds p (d x)).setIfInBounds q (e x)).setIfInBounds d1 (d x)).setIfInBounds d2 (e x),defers:=[]} W ->
   k.wpIn (Fence.wide.inRound l) (n-1-1) P (Exit.then K (λ_ _ _=>False)) {tmps:=(a.tmps.setIfInBounds p (d x)).setIfInBounds q (e x),defers:=[]} W)
  (J:∀(l:Nat) (pre:List b) (x :b) (W:World),I pre W->pre.length<N->body.wpIn (Fence.wide.inRound l) (n-1-1) P (ownPostK Kp I f (pre++[x]) W) {tmps:=(((a.tmps.setIfInBounds p (d x)).setIfInBounds q (e x)).setIfInBounds d1 (d x)).setIfInBounds d2 (e x),defers:=[]} W)
  (L:∀(D:Nat) (r:List b) (W:World),w.heap.size<=D->S r->I r W->W.heap[D]?=some (.deferred (some []))->Q .normal {a with defers:={target:=.collected D,args:=#[]}::a.defers} W)
  (R:∀(D:Nat) (c:Code) (pre:List b) (W:World),w.heap.size<=D->j pre->f c pre W->W.heap[D]?=some (.deferred (some []))->c.wpIn Fence.wide n P Q {a with defers:={target:=.collected D,args:=#[]}::a.defers} W) :
  (Code.rangeFunc g #[p,q] k body).wpIn Fence.wide n P Q a w:=
 wpIn_rangeFunc_ownF rfl v M trivial s O F E H (λ_=>rfl) I f y z t (λx=>{tmps:=(((a.tmps.setIfInBounds p (d x)).setIfInBounds q (e x)).setIfInBounds d1 (d x)).setIfInBounds d2 (e x),defers:=[]})
  (λl x W K hK=>by simpa using G l x W K hK) J L R
theorem zjb(W:World)(l:Nat)(o b:Obj)(_:w.heap.size<=l)(h:W.heap[l]?=some o)(a:o.isCells=false)(_:o.isWalk=false):Kp W (W.putObj l b):=by
 intro k c t m x _;have:l≠k:=by
  intro e;subst e;rw[h]at x;cases x;simp[Obj.isCells]at a
 rw[World.putObj,Array.getElem?_setIfInBounds_ne this];exact x
def ze3(S:List TypeId)(t:Tw.T)(shown:List UInt8):Prop:=∀(w:World) (b:Nat) (a:Value),Rep w 0 b t a->Calls prog 34 #[a] w λe w'=>e=.returned (.tuple #[ug shown,.bool true])/\TK w.heap.size S w w'
theorem Iw{l:List UInt8}:∀(fuel k:Nat) (b a:List Tw.Tok),Cb l fuel k b=.ok a->b.length<=k->k<=l.length->0<a.length/\a.length<=l.length+1
 |0,_,_,_,h,_,_=>by simp[Cb]at h
 |n+1,k,b,a,h,ha,hk=>by
  rw[Cb]at h;split at h
  ·rename_i g;have c:0<(l.drop k).length:=(by simp;omega);have e:=Rg (l.drop k) c;have d:=Ph (l.drop k) c;simp only[xD]at e d;split at h
   ·exact Iw n _ _ _ h oM oM
   ·split at h
    ·cases h
    ·rename_i f;exact Iw n _ _ _ h (by simp;omega) oM
  ·cases h;simp;omega
theorem Ym{l:List UInt8}{a:List Tw.Tok}(h:split l=.ok a)(b:l.length<=300):0<a.length/\a.length<=301:=by
 have:=Iw _ _ _ _ h sM oM;omega
theorem Hx(h:Below w.heap.size w w'):w.grownBy w' none:=⟨h.os,h.tape,h.output,h.size,λk a _=>h.block k a⟩
theorem Rep.kp{w w':World}{lo hi:Nat}(a:Kp w w'):∀ {t:Tw.T} {v:Value},Rep w lo hi t v->Rep w' lo hi t v
 |.name ..,_,h=>nodeAt.kp h a dZ
 |.int ..,_,h=>nodeAt.kp h a dZ
 |.truth ..,_,h=>nodeAt.kp h a dZ
 |.side ..,_,h=>nodeAt.kp h a dZ
 |.bracket ..,_,⟨v1,h,r1⟩=>⟨v1,h.kp a dZ,Rep.kp a r1⟩
 |.pair ..,_,⟨v1,v2,h,r1,r2⟩=>⟨v1,v2,h.kp a dZ,Rep.kp a r1,Rep.kp a r2⟩
 |.call ..,_,⟨v1,v2,h,r1,r2⟩=>⟨v1,v2,h.kp a dZ,Rep.kp a r1,Rep.kp a r2⟩
 |.binary ..,_,⟨v1,v2,h,r1,r2⟩=>⟨v1,v2,h.kp a dZ,Rep.kp a r1,Rep.kp a r2⟩
 |.cond ..,_,⟨v1,v2,v3,h,r1,r2,r3⟩=>⟨v1,v2,v3,h.kp a dZ,Rep.kp a r1,Rep.kp a r2,Rep.kp a r3⟩
 |.fn ..,_,⟨v1,h,r1⟩=>⟨v1,h.kp a dZ,Rep.kp a r1⟩
 |.lett ..,_,⟨v1,v2,h,r1,r2⟩=>⟨v1,v2,h.kp a dZ,Rep.kp a r1,Rep.kp a r2⟩
theorem TK.kp{B:Nat}{S:List TypeId}(h:TK B S w w')(a:Qm.all (λt=>!S.contains t)=true):Kp w w':=λ_ _ t _ x y=>
 h.cells x (by have:=List.all_eq_true.1 a t (by simpa using y);simpa using this)
theorem Ge{b:Nat}{x:Value}{t:TypeId}(h:w.heap[b]?=some (.cells #[x] t (0,0))):w.cell? (aD b 0)=some x/\w.frozen? (aD b 0)=false:=by
 refine⟨?_,eB _ _ _ _ _ h⟩;rw[mB w b _ _ _ _ h];rfl
end
section
open Tw Go.Proofs.Tryz
open Go.RowKit Go.Shelf
variable{w W:World}{b p:Nat}{x y z:Value}
attribute [local go_sem] Oper.semAt_some
def Res3(w W:World)(b:Nat)(x y z:Value):Prop:=W.heap[b]?=some (.cells #[x] 68 (0,0))/\W.heap[b+1]?=some (.cells #[y] 27 (0,0))/\W.heap[b+2]?=some (.cells #[z] 3 (0,0))/\b=w.heap.size
theorem Vz(w:World):∃a,((w.alloc (.cells #[.nilIface] 68)).alloc (.cells #[vI 0] 27)).alloc (.cells #[vI 0] 3)=a/\w.grownBy a none/\a.heap.size=w.heap.size+3/\Res3 w a w.heap.size .nilIface (vI 0) (vI 0):=by
 refine⟨_,rfl,Ai (Ai (Ai (Aa _) _) _) _,sM,?_,?_,?_,rfl⟩
 ·exact(Below.heap_alloc _ _ _ (by simp;omega)).trans ((Below.heap_alloc _ _ _ sM).trans (Ac w _))
 ·have:=Ac (w.alloc (.cells #[.nilIface] 68)) (.cells #[vI 0] 27);rw[World.size_alloc]at this;exact(Below.heap_alloc _ _ _ sM).trans this
 ·have:=Ac ((w.alloc (.cells #[.nilIface] 68)).alloc (.cells #[vI 0] 27)) (.cells #[vI 0] 3);rw[World.size_alloc,World.size_alloc]at this;exact this
theorem Res3.kept{W':World}(h:Res3 w W b x y z)(a:∀ {k:Nat} {o:Obj},k<b+3->W.heap[k]?=some o->W'.heap[k]?=some o):Res3 w W' b x y z:=
 ⟨a oM h.1,a oM h.2.1,a oM h.2.2.1,h.2.2.2⟩
theorem Res3.set(h:Res3 w W b x y z)(c d e:Value):∃a,((W.setCell (aD b 0) c).setCell ⟨b+1,0,none⟩ d).setCell ⟨b+1+1,0,none⟩ e=a/\Res3 w a b c d e/\(∀k,k≠b->k≠b+1->k≠b+2->a.heap[k]?=W.heap[k]?)/\a.heap.size=W.heap.size/\a.os=W.os/\a.tape=W.tape/\a.output=W.output:=by
 refine⟨_,rfl,⟨?_,?_,?_,h.2.2.2⟩,λk f g i=>?_,sM,rfl,rfl,rfl⟩
 ·rw[aA _ _ _ _ (by simp;omega),aA _ _ _ _ sM,cD _ _ _ _ _ _ h.1];rfl
 ·rw[aA _ _ _ _ sM,cD _ _ _ _ _ _ (by rw[aA _ _ _ _ sM];exact h.2.1)];rfl
 ·show(World.setCell _ ⟨b+1+1,0,none⟩ _).heap[b+1+1]?=_;rw[cD _ _ _ _ _ _ (by rw[aA _ _ _ _ sM,aA _ _ _ _ (by simp;omega)];exact h.2.2.1)];rfl
 ·rw[aA _ _ _ _ (by simp;omega),aA _ _ _ _ (by simp;omega),aA _ _ _ _ (by simp;omega)]
theorem Res3.cells(h:Res3 w W b x y z):(W.cell? (aD b 0)=some x/\W.frozen? (aD b 0)=false)/\(W.cell? ⟨b+1,0,none⟩=some y/\W.frozen? ⟨b+1,0,none⟩=false)/\W.cell? ⟨b+1+1,0,none⟩=some z/\W.frozen? ⟨b+1+1,0,none⟩=false:=
 ⟨Ge h.1,Ge h.2.1,Ge h.2.2.1⟩
theorem Res3.grown{a:World}(h:Res3 w W b x y z)(c:w.grownBy W none)(j:∀k,k≠b->k≠b+1->k≠b+2->a.heap[k]?=W.heap[k]?)(l:a.heap.size=W.heap.size)(d:a.os=W.os)(e:a.tape=W.tape)(f:a.output=W.output):w.grownBy a none:=
 ⟨d.trans c.os,e.trans c.tape,f.trans c.output,by rw[l];exact c.size,λk g i=>by have:=h.2.2.2;rw[j k oM oM oM];exact c.block k g i⟩
theorem zdx(A:Said.IndexByte)(s:ByteArray)(E:s.size<=300)(r:split s.data.toList=.error p)(w:World):
  Calls prog 32 #[.string s] w λe L=>e=.returned (.tuple #[.nilIface,vI 2,vI p])/\w.grownBy L none:=by
 refine(callsIn_wide (n:=3)).1 ?_;refine callsIn_of_wp_marks func32 rfl trivial ?_;simp only[ntmps32,List.size_toArray,zB,zD,Nat.reduceAdd,Nat.reduceSub,Array.replicate_succ,Array.replicate_zero,List.push_toArray,List.append_toArray,rD,pD];obtain⟨d,T,C,U,t⟩:=Vz w;have k:=bV C;have j:=bV t;gi_wp2_with fail;refine⟨trivial,?_⟩;refine(callsIn_wide.2 (Sw A s d E)).mono ?_;rintro f i ⟨g,c⟩;rw[r]at c;dsimp only at c;subst c;have l:Hid (w.grownBy i none):=Ab k.o (Hx g);have G:∀ {b:Nat} {o:Obj},d.heap[b]?=some o->i.heap[b]?=some o:=λ{b o} h=>by
  rw[g.block b (zgE.1 h).1];exact h
 have a:=bV ((uh j).kept (λ_ h=>G h));obtain⟨⟨N,Q⟩,⟨O,R⟩,P,S⟩:=(uh a).cells;gi_wp2_with fail;obtain⟨M,B,v,D,F,H,I,J⟩:=(uh a).set .nilIface (vI 2) (vI p);rw[B];obtain⟨⟨f,_⟩,⟨m,_⟩,q,_⟩:=v.cells;refine⟨.tuple #[.nilIface,vI 2,vI p],by simp[results,results32,go_sem,f,m,q],rfl,?_⟩;exact(uh a).grown (uh l) D F H I J
theorem zg3(hIB:Said.IndexByte)(hPI:Said.ParseInt)(s:ByteArray)(hs:s.size<=300){ts:List Tw.Tok}(h1:split s.data.toList=.ok ts){fuel:Nat}(h2:Fk s.data.toList ts fuel=some (.error p))(w:World):
  Calls prog 32 #[.string s] w λe w'=>e=.returned (.tuple #[.nilIface,vI 3,vI p])/\w.grownBy w' none:=by
 refine(callsIn_wide (n:=3)).1 ?_;refine callsIn_of_wp_marks func32 rfl trivial ?_;simp only[ntmps32,List.size_toArray,zB,zD,Nat.reduceAdd,Nat.reduceSub,Array.replicate_succ,Array.replicate_zero,List.push_toArray,List.append_toArray,rD,pD];obtain⟨W0,hW0,hg0,z0,hC0⟩:=Vz w;have G0:=bV hg0;have C0:=bV hC0;gi_wp2_with fail;refine⟨trivial,?_⟩;refine(callsIn_wide.2 (Sw hIB s W0 hs)).mono ?_;rintro e1 w1 ⟨hB1,hm⟩;rw[h1]at hm;obtain⟨v,rfl,ho⟩:=hm;have hts:0<ts.length/\ts.length<=301:=Ym h1 (by simpa using hs);obtain⟨gt,cap,cur,rfl,hgt,hTR⟩:=TokRow.ze6 ho hts.1 hts.2;have B1:=bV hB1;have T1:=bV hTR;gi_wp2_with fail;refine⟨trivial,?_⟩;refine(callsIn_wide.2 (zay hPI (uh T1) s hs h2)).mono ?_;rintro e1 w2 ⟨hg,rfl⟩;have G2:Hid (w.grownBy w2 none):=Ab G0.o (Ab (Hx B1.o) hg);have key:∀ {b:Nat} {o:Obj},W0.heap[b]?=some o->w2.heap[b]?=some o:=λ{b o} h=>by
  have hb:=(zgE.1 h).1;rw[hg.block b (by have:=B1.o.size;omega) sM,B1.o.block b hb];exact h
 have C1:=bV ((uh C0).kept (λ_ h=>key h));obtain⟨⟨b1,f1⟩,⟨b2,f2⟩,b3,f3⟩:=(uh C1).cells;gi_wp2_with fail;obtain⟨W6,hW6,hC6,ho,hsz,o1,o2,o3⟩:=(uh C1).set .nilIface (vI 3) (vI p);rw[hW6];obtain⟨⟨e1,_⟩,⟨e2,_⟩,e3,_⟩:=hC6.cells;refine⟨.tuple #[.nilIface,vI 3,vI p],by simp[results,results32,go_sem,e1,e2,e3],rfl,?_⟩;exact(uh C1).grown (uh G2) ho hsz o1 o2 o3
end
end Go.Proofs.YtckhafpejefbbaaGreatDoor
namespace Go.Proofs.YtckhafpejefbbaaGreatDoor.Tw
section
open Go
def T.freeS:T->List (List UInt8)->Option Nat
 |.name fr _ x,env=>if env.contains x then none else some fr
 |.int ..,_=>none
 |.truth ..,_=>none
 |.side ..,_=>none
 |.bracket _ _ i,env=>i.freeS env
 |.pair _ _ l r,env=>(l.freeS env).or (r.freeS env)
 |.call _ _ l r,env=>(l.freeS env).or (r.freeS env)
 |.binary _ _ _ l r,env=>(l.freeS env).or (r.freeS env)
 |.cond _ _ c t f,env=>((c.freeS env).or (t.freeS env)).or (f.freeS env)
 |.fn _ _ bn _ b,env=>b.freeS (bn::env)
 |.lett _ _ rc bn _ d b,env=>(d.freeS (if rc then bn::env else env)).or (b.freeS (bn::env))
inductive RR where
 |fault (k:Nat) (p:Nat)
 |fine (t:T) (shown:List UInt8)
def Ku(fuel:Nat)(t:T):Option RR:=
 match t.freeS []with
 |some p=>some (.fault 4 p)
 |none=>(Ae t .nil).bind λk=>if 2000<k then some (.fault 10 0)else(ofS fuel t).bind λo=>
  match o with
  |none=>some (.fault 5 0)
  |some sh=>some (.fine t sh)
def Qn(b a:Nat)(l:List UInt8):Option RR:=
 match split l with
 |.error p=>some (.fault 2 p)
 |.ok ts=>(Fk l ts b).bind λr=>
  match r with
  |.error p=>some (.fault 3 p)
  |.ok t=>Ku a t
end
section
open Go Go.RowKit
variable{st:SS}{r:Nat}{f:Nat->Nat}
def numT(a:List Nat)(r:Nat):Nat×List Nat:=
 match idxS r a 0 with
 |some i=>(i,a)
 |none=>(a.length,a++[r])
def Ty.tsort:Ty->Int
 |.var _=>0
 |.int=>1
 |.bool=>2
 |.fn .. =>3
 |.pair .. =>4
def brk(b:Bool)(w:List Nat×List UInt8->List Nat×List UInt8)(s:List Nat×List UInt8):List Nat×List UInt8:=
 if b then((w (s.1,putS 400 s.2 [40])).1,putS 400 (w (s.1,putS 400 s.2 [40])).2 [41])else w s
def wrT:Ty->List Nat×List UInt8->List Nat×List UInt8
 |.var p,s=>if 400<s.2.length then s else((numT s.1 p).2,putS 400 s.2 (Fc (numT s.1 p).1))
 |.int,s=>if 400<s.2.length then s else(s.1,putS 400 s.2 [105,110,116])
 |.bool,s=>if 400<s.2.length then s else(s.1,putS 400 s.2 [98,111,111,108])
 |.fn a b,s=>if 400<s.2.length then s else wrT b ((brk (a.tsort==3) (wrT a) s).1,putS 400 (brk (a.tsort==3) (wrT a) s).2 [32,45,62,32])
 |.pair a b,s=>if 400<s.2.length then s else brk (b.tsort==3||b.tsort==4) (wrT b) ((brk (a.tsort==3||a.tsort==4) (wrT a) s).1,putS 400 (brk (a.tsort==3||a.tsort==4) (wrT a) s).2 [32,42,32])
def Ty.shown(a:Ty):List UInt8:=Xd 400 (wrT a ([],[])).2
theorem Kj(c:Nat)(a b:List UInt8):a.length<=(putS c a b).length/\(¬c<a.length->(putS c a b).length=a.length+b.length):=by
 unfold putS;split
 ·exact⟨znL _,λh=>absurd (by assumption) h⟩
 ·exact⟨sM,λ_=>sM⟩
theorem FinT.sortAt{a:Ty}(h:FinT st r a):∃p x,RootOf st r p/\st.shs[p]?=some x/\x.sort=a.tsort:=by
 cases h with
 |var hr hx hs=>exact⟨_,_,hr,hx,hs⟩
 |int hr hx hs=>exact⟨_,_,hr,hx,hs⟩
 |bool hr hx hs=>exact⟨_,_,hr,hx,hs⟩
 |fn hr hx hs=>exact⟨_,_,hr,hx,hs⟩
 |pair hr hx hs=>exact⟨_,_,hr,hx,hs⟩
theorem FinT.lt{a:Ty}(h:FinT st r a):r<st.shs.length:=by
 obtain⟨p,x,b,_⟩:=h.sortAt;exact b.lt.1
theorem Ox{a:Ty}(W:st.Wf f)(h:FinT st r a):∃b st',(∀n,b<=n->Jq n st r=some (a.tsort,st'))/\st'.Wf f/\st.Sim st':=by
 obtain⟨b,p,st',g,l,c,S⟩:=Iv W h.lt;obtain⟨o,x,d,i,j⟩:=h.sortAt
 have:=d.unique l;subst this;obtain⟨y,m,e,_⟩:=S.shape _ _ i;refine⟨b,st',λn k=>?_,c,S⟩;unfold Jq;rw[g n k];simp only[zbS];rw[m];simp only[zbS];rw[e,j]
def Fits(s:List Nat×List UInt8):Prop:=2*s.1.length<=s.2.length
def WrOk(f:Nat->Nat)(a:Ty):Prop:=∀ {st:SS} {r:Nat} {s:List Nat×List UInt8},st.Wf f->FinT st r a->Fits s ->
 ∃c b,(∀n,c<=n->Dr n ⟨st,s.1,s.2⟩ r=some ⟨b,(wrT a s).1,(wrT a s).2⟩)/\b.Wf f/\st.Sim b/\Fits (wrT a s)
theorem Tf{a:Ty}(h:WrOk f a)(b:Bool){s:List Nat×List UInt8}(W:st.Wf f)(e:FinT st r a)(i:Fits s):
  ∃c st',(∀n,c<=n->Ns n ⟨st,s.1,s.2⟩ r b=some ⟨st',(brk b (wrT a) s).1,(brk b (wrT a) s).2⟩)/\st'.Wf f/\st.Sim st'/\Fits (brk b (wrT a) s):=by
 cases b with
 |false=>
  obtain⟨c,st',g,d,S,F⟩:=h W e i;refine⟨c+1,st',λn j=>?_,d,S,F⟩;obtain⟨m,rfl⟩:∃m,n=m+1:=⟨n-1,oM⟩;rw[Ns];exact g m oM
 |true=>
  have k:Fits (s.1,putS 400 s.2 [40]):=by
   have:=(Kj 400 s.2 [40]).1;unfold Fits at i ⊢;simp only;omega
  obtain⟨c,st',g,d,S,F⟩:=h W e k;refine⟨c+1,st',λn j=>?_,d,S,?_⟩
  ·obtain⟨m,rfl⟩:∃m,n=m+1:=⟨n-1,oM⟩;rw[Ns];simp only[if_true];rw[g m oM];rfl
  ·have:=(Kj 400 (wrT a (s.1,putS 400 s.2 [40])).2 [41]).1;unfold Fits at F ⊢;simp only[brk,if_true];omega
theorem zk9{a:List Nat}(h:a.length<=2000):Np a r=some (numT a r):=by
 unfold Np numT;cases idxS r a 0 with
 |some i=>rfl
 |none=>simp only;rw[mA h]
theorem V0(a:List Nat)(r:Nat):(numT a r).2.length<=a.length+1:=by
 unfold numT;cases idxS r a 0 with
 |some i=>simp
 |none=>simp
theorem zg4(k:Nat):2<=(Fc k).length:=by
 unfold Fc;simp
theorem zdy(f:Nat->Nat):∀a:Ty,WrOk f a:=by
 intro a
 induction a with
 |var q=>
  intro st r s W e d;by_cases c:400<s.2.length
  ·refine⟨1,st,λn j=>?_,W,.refl _,by simp only[wrT,mA c];exact d⟩;obtain⟨m,rfl⟩:∃m,n=m+1:=⟨n-1,oM⟩;simp only[Dr,wrT,mA c]
  obtain⟨o,p,z,i,k,w,S⟩:=Iv W e.lt;cases e with
  |var hr' hx hs0=>
   have:=hr'.unique k;subst this;obtain⟨y,l,h,_⟩:=S.shape _ _ hx;have hl:s.1.length<=2000:=(by unfold Fits at d;omega);refine⟨o+1,z,λn j=>?_,w,S,?_⟩
   ·obtain⟨m,rfl⟩:∃m,n=m+1:=⟨n-1,oM⟩;simp only[Dr,wrT,jA c];rw[i m oM];simp only[zbS];rw[l];simp only[zbS];rw[mA (h.trans hs0),zk9 hl];rfl
   ·have h1:=V0 s.1 q;have T:=(Kj 400 s.2 (Fc (numT s.1 q).1)).2 c;have h3:=zg4 (numT s.1 q).1;unfold Fits at d ⊢;simp only[wrT,jA c];omega
 |int=>
  intro st r s W e d;by_cases c:400<s.2.length
  ·refine⟨1,st,λn j=>?_,W,.refl _,by simp only[wrT,mA c];exact d⟩;obtain⟨m,rfl⟩:∃m,n=m+1:=⟨n-1,oM⟩;simp only[Dr,wrT,mA c]
  obtain⟨o,p,z,i,k,w,S⟩:=Iv W e.lt;cases e with
  |int hr' hx hs0=>
   have:=hr'.unique k;subst this;obtain⟨y,l,h,_⟩:=S.shape _ _ hx;refine⟨o+1,z,λn j=>?_,w,S,?_⟩
   ·obtain⟨m,rfl⟩:∃m,n=m+1:=⟨n-1,oM⟩;simp only[Dr,wrT,jA c];rw[i m oM];simp only[zbS];rw[l];simp only[zbS];rw[jA oM,mA (h.trans hs0)]
   ·have T:=(Kj 400 s.2 [105,110,116]).1;unfold Fits at d ⊢;simp only[wrT,jA c];omega
 |bool=>
  intro st r s W e d;by_cases c:400<s.2.length
  ·refine⟨1,st,λn j=>?_,W,.refl _,by simp only[wrT,mA c];exact d⟩;obtain⟨m,rfl⟩:∃m,n=m+1:=⟨n-1,oM⟩;simp only[Dr,wrT,mA c]
  obtain⟨o,p,z,i,k,w,S⟩:=Iv W e.lt;cases e with
  |bool hr' hx hs0=>
   have:=hr'.unique k;subst this;obtain⟨y,l,h,_⟩:=S.shape _ _ hx;refine⟨o+1,z,λn j=>?_,w,S,?_⟩
   ·obtain⟨m,rfl⟩:∃m,n=m+1:=⟨n-1,oM⟩;simp only[Dr,wrT,jA c];rw[i m oM];simp only[zbS];rw[l];simp only[zbS];rw[jA oM,jA oM,mA (h.trans hs0)]
   ·have T:=(Kj 400 s.2 [98,111,111,108]).1;unfold Fits at d ⊢;simp only[wrT,jA c];omega
 |fn a b iha ihb=>
  intro st r s W e d;by_cases c:400<s.2.length
  ·refine⟨1,st,λn j=>?_,W,.refl _,by simp only[wrT,mA c];exact d⟩;obtain⟨m,rfl⟩:∃m,n=m+1:=⟨n-1,oM⟩;simp only[Dr,wrT,mA c]
  obtain⟨o,p,A,i,k,E,g⟩:=Iv W e.lt;cases e with
  |fn hr' hx hs0 ha hb=>
   have:=hr'.unique k;subst this;obtain⟨y,l,h,I,J⟩:=g.shape _ _ hx;have x:FinT A y.left a:=(by rw[I];exact ha.sim g);have C:FinT A y.right b:=(by rw[J];exact hb.sim g);obtain⟨P,a0,L,F,t⟩:=Ox E x;obtain⟨Q,a1,M,G,v,D⟩:=Tf iha (a.tsort==3) F (x.sim t) d;have O:Fits ((brk (a.tsort==3) (wrT a) s).1,putS 400 (brk (a.tsort==3) (wrT a) s).2 [32,45,62,32]):=by
    have:=(Kj 400 (brk (a.tsort==3) (wrT a) s).2 [32,45,62,32]).1;unfold Fits at D ⊢;simp only;omega
   obtain⟨R,U,N,H,B,V⟩:=ihb G ((C.sim t).sim v) O;refine⟨max (max o P) (max Q R)+1,U,λn j=>?_,H,((g.trans t).trans v).trans B,by simp only[wrT,jA c];exact V⟩;obtain⟨m,rfl⟩:∃m,n=m+1:=⟨n-1,oM⟩;simp only[Dr,wrT,jA c];rw[i m oM];simp only[zbS];rw[l];simp only[zbS];rw[jA oM,jA oM,jA oM,mA (h.trans hs0),L m oM];simp only[zbS];rw[M m oM];simp only[zbS];exact N m oM
 |pair a b iha ihb=>
  intro st r s W e d;by_cases c:400<s.2.length
  ·refine⟨1,st,λn j=>?_,W,.refl _,by simp only[wrT,mA c];exact d⟩;obtain⟨m,rfl⟩:∃m,n=m+1:=⟨n-1,oM⟩;simp only[Dr,wrT,mA c]
  obtain⟨o,p,A,i,k,E,g⟩:=Iv W e.lt;cases e with
  |pair hr' hx hs0 ha hb=>
   have:=hr'.unique k;subst this;obtain⟨y,l,h,I,J⟩:=g.shape _ _ hx;have x:FinT A y.left a:=(by rw[I];exact ha.sim g);have C:FinT A y.right b:=(by rw[J];exact hb.sim g);obtain⟨P,a0,L,F,t⟩:=Ox E x;obtain⟨Q,a1,M,G,v,D⟩:=Tf iha (a.tsort==3||a.tsort==4) F (x.sim t) d;have O:Fits ((brk (a.tsort==3||a.tsort==4) (wrT a) s).1,putS 400 (brk (a.tsort==3||a.tsort==4) (wrT a) s).2 [32,42,32]):=by
    have:=(Kj 400 (brk (a.tsort==3||a.tsort==4) (wrT a) s).2 [32,42,32]).1;unfold Fits at D ⊢;simp only;omega
   obtain⟨R,U,N,H,B⟩:=Ox G ((C.sim t).sim v);obtain⟨n5,a2,g5,Z,Y,X⟩:=Tf ihb (b.tsort==3||b.tsort==4) H (((C.sim t).sim v).sim B) O;refine⟨max (max o P) (max Q (max R n5))+1,a2,λn j=>?_,Z,(((g.trans t).trans v).trans B).trans Y,by simp only[wrT,jA c];exact X⟩;obtain⟨m,rfl⟩:∃m,n=m+1:=⟨n-1,oM⟩;simp only[Dr,wrT,jA c];rw[i m oM];simp only[zbS];rw[l];simp only[zbS];rw[jA oM,jA oM,jA oM,jA oM,mA (h.trans hs0),L m oM];simp only[zbS];rw[M m oM];simp only[zbS];rw[N m oM];simp only[zbS];exact g5 m oM
theorem Zt{t:T}{w:Nat}(x:Ae t .nil=some w)(q:w<=2000):∃c g,(∀n,c<=n->ofS n t=some g)/\((g=none/\∀a,¬Typ t .nil a)\/∃a,g=some a.shown/\Most t a):=by
 obtain⟨c,r,st,m,h⟩:=zdn x q;have i:∀n,c<=n->ofS n t=if st.clash then some none else(Mu n st).bind λe=>if e.1 then some none else(Dr n ⟨e.2,[],[]⟩ r).bind λz=>some (some (Xd 400 z.acc)):=λn b=>by
  unfold ofS
  have:=m n b;unfold ss2 at this;rw[this];rfl
 rcases h with⟨d,b⟩|⟨d,e,A,j,h⟩
 ·exact⟨c,none,λn b=>by rw[i n b,d];rfl,.inl ⟨rfl,b⟩⟩
 ·rcases h with⟨rfl,b⟩|⟨rfl,⟨f,l⟩,a,p,v⟩
  ·exact⟨c,none,λn k=>by rw[i n k,d,j n k];rfl,.inl ⟨rfl,b⟩⟩
  ·obtain⟨y,B,o,_⟩:=zdy f a l p (s:=([],[])) (by simp[Fits]);refine⟨max c y,some a.shown,λn b=>?_,.inr ⟨a,rfl,v⟩⟩;rw[i n oM,d,j n oM];simp only[xA,if_false,zbS]
   have:=o n oM;simp only at this;rw[this];rfl
end
end Go.Proofs.YtckhafpejefbbaaGreatDoor.Tw
namespace Go.Proofs.YtckhafpejefbbaaGreatDoor
section
abbrev xB:=@List.mem_singleton
end
section
open Tw Go.Proofs.Tryz
open Go.RowKit Go.Shelf
variable{w:World}{fp:Nat}{res:Tw.RR}
attribute [local go_sem] Oper.semAt_some
def FreeAt(L:List NB):Option Nat->Prop
 |none=>∀y∈L,∃a,y.k=some a
 |some p=>∃pre y post,L=pre++y::post/\(∀z∈pre,∃a,z.k=some a)/\y.k=none/\y.fr=p
theorem FreeAt.append{L1 L2:List NB}{b c:Option Nat}(a:FreeAt L1 b)(d:FreeAt L2 c):FreeAt (L1++L2) (b.or c):=by
 cases b with
 |some p=>
  obtain⟨pre,y,post,rfl,h⟩:=a;exact⟨pre,y,post++L2,sM,h⟩
 |none=>
  cases c with
  |none=>exact λy f=>(zmA.1 f).elim (a y) (d y)
  |some p=>
   obtain⟨pre,y,post,rfl,h,e⟩:=d;exact⟨L1++pre,y,post,sM,λz g=>(zmA.1 g).elim (a z) (h z),e⟩
def EnvB(env:List (List UInt8))(e:Tw.BEn):Prop:=∀x,env.contains x=true↔∃a,e.look x=some a
theorem EnvB.cons{env:List (List UInt8)}{e:Tw.BEn}(h:EnvB env e)(b:List UInt8)(k:Addr):EnvB (b::env) (.cons b k e):=by
 intro x;simp only[Tw.BEn.look,List.contains_cons,Bool.or_eq_true,beq_iff_eq];by_cases c:b=x
 ·simp[c]
 ·rw[jA c];constructor
  ·rintro(a|a)
   ·exact absurd a.symm c
   ·exact(h x).1 a
  ·exact λa=>.inr ((h x).2 a)
theorem NL.free{w:World}{hi:Nat}:∀ {t:Tw.T} {v:Value} {e:Tw.BEn} {L:List NB} {env:List (List UInt8)},NL w hi t v e L->EnvB env e->FreeAt L (t.freeS env)
 |.name fr to x,_,e,_,env,⟨b,_,rfl⟩,hE=>by
  simp only[Tw.T.freeS];by_cases c:env.contains x=true
  ·rw[mA c];intro y f;simp only[xB]at f;subst f;exact(hE x).1 c
  ·rw[jA c];refine⟨[],_,[],rfl,sM,?_,rfl⟩;unfold NB.k;dsimp only;cases g:e.look x with
   |none=>rfl
   |some a=>exact absurd ((hE x).2 ⟨a,g⟩) c
 |.int ..,_,_,_,_,⟨_,rfl⟩,_=>by simp[Tw.T.freeS,FreeAt]
 |.truth ..,_,_,_,_,⟨_,rfl⟩,_=>by simp[Tw.T.freeS,FreeAt]
 |.side ..,_,_,_,_,⟨_,rfl⟩,_=>by simp[Tw.T.freeS,FreeAt]
 |.bracket fr to i,_,e,L,env,⟨_,_,r1⟩,hE=>by
  have:=NL.free r1 hE;simpa[Tw.T.freeS]using this
 |.pair ..,_,_,_,_,⟨_,_,_,_,_,r1,r2,rfl⟩,hE=>(NL.free r1 hE).append (NL.free r2 hE)
 |.call ..,_,_,_,_,⟨_,_,_,_,_,r1,r2,rfl⟩,hE=>(NL.free r1 hE).append (NL.free r2 hE)
 |.binary ..,_,_,_,_,⟨_,_,_,_,_,r1,r2,rfl⟩,hE=>(NL.free r1 hE).append (NL.free r2 hE)
 |.cond ..,_,_,_,_,⟨_,_,_,_,_,_,_,r1,r2,r3,rfl⟩,hE=>((NL.free r1 hE).append (NL.free r2 hE)).append (NL.free r3 hE)
 |.fn fr to bn bat b,_,e,L,env,⟨_,_,_,r1⟩,hE=>by
  have:=NL.free r1 (hE.cons bn _);simpa[Tw.T.freeS]using this
 |.lett fr to rc bn bat d b,_,_,_,_,⟨k,v1,v2,L1,L2,_,r1,r2,rfl⟩,hE=>by
  cases rc with
  |false=>exact(NL.free r1 hE).append (NL.free r2 (hE.cons _ _))
  |true=>exact(NL.free r1 (hE.cons _ _)).append (NL.free r2 (hE.cons _ _))
theorem NL.block{w:World}{hi:Nat}:∀ {t:Tw.T} {v:Value} {e:Tw.BEn} {L:List NB},NL w hi t v e L->∀y∈L,w.heap[y.nb]?=some (.cells #[vI y.fr,vI y.to,ug y.tx] 87 (0,0))
 |.name fr to x,_,e,_,⟨b,⟨_,hb⟩,rfl⟩=>by
  intro y a;simp only[xB]at a;subst a;exact hb
 |.int ..,_,_,_,⟨_,rfl⟩=>sM
 |.truth ..,_,_,_,⟨_,rfl⟩=>sM
 |.side ..,_,_,_,⟨_,rfl⟩=>sM
 |.bracket ..,_,_,_,⟨_,_,r1⟩=>NL.block r1
 |.pair ..,_,_,_,⟨_,_,_,_,_,r1,r2,rfl⟩=>λy a=>(zmA.1 a).elim (NL.block r1 y) (NL.block r2 y)
 |.call ..,_,_,_,⟨_,_,_,_,_,r1,r2,rfl⟩=>λy a=>(zmA.1 a).elim (NL.block r1 y) (NL.block r2 y)
 |.binary ..,_,_,_,⟨_,_,_,_,_,r1,r2,rfl⟩=>λy a=>(zmA.1 a).elim (NL.block r1 y) (NL.block r2 y)
 |.cond ..,_,_,_,⟨_,_,_,_,_,_,_,r1,r2,r3,rfl⟩=>λy a=>(zmA.1 a).elim (λh=>(zmA.1 h).elim (NL.block r1 y) (NL.block r2 y)) (NL.block r3 y)
 |.fn ..,_,_,_,⟨_,_,_,r1⟩=>NL.block r1
 |.lett fr to rc bn bat d b,_,_,_,⟨k,v1,v2,L1,L2,_,r1,r2,rfl⟩=>λy a=>(zmA.1 a).elim (NL.block r1 y) (NL.block r2 y)
theorem FreeAt.first{L init:List NB}{x:NB}{o:Option Nat}(h:FreeAt L o)(k:init++[x] <+:L)(hi:∀z∈init,∃a,z.k=some a)(f:x.k=none):o=some x.fr:=by
 obtain⟨r,rfl⟩:=k;cases o with
 |none=>
  obtain⟨a,c⟩:=h x sM;rw[f]at c;cases c
 |some p=>
  obtain⟨pre,y,post,e,i,j,rfl⟩:=h;have g:init=pre/\x=y:=by
   rw[wA]at e;rcases List.append_eq_append_iff.1 e with⟨m,d,b⟩|⟨m,d,b⟩
   ·cases m with
    |nil=>simp at d b;exact⟨d.symm,b.1⟩
    |cons z m=>
     simp at b;obtain⟨a,c⟩:=i x (by rw[d,<-b.1];simp);rw[f]at c;cases c
   ·cases m with
    |nil=>simp at d b;exact⟨d,b.1.symm⟩
    |cons z m=>
     simp at b;obtain⟨a,c⟩:=hi y (by rw[d,b.1];simp);rw[j]at c;cases c
  rw[g.2]
def zmk(w:World)(res:RR)(e:Ending)(a:World):Prop:=
 match res with
 |.fault k p=>e=.returned (.tuple #[.nilIface,.int .i64 k,.int .i64 p])/\TK w.heap.size WtS w a
 |.fine t _=>∃b,e=.returned (.tuple #[b,.int .i64 0,.int .i64 0])/\Rep a w.heap.size a.heap.size t b/\TK w.heap.size WtS w a
structure Stopped(w W2:World)(fr:Nat)(W:World):Prop where
 res:Res3 w W w.heap.size .nilIface (.int .i64 4) (.int .i64 fr)
 old:∀k,k<W2.heap.size->k≠w.heap.size->k≠w.heap.size+1->k≠w.heap.size+2->W.heap[k]?=W2.heap[k]?
 size:W2.heap.size<=W.heap.size
 os:W.os=W2.os
 tape:W.tape=W2.tape
 output:W.output=W2.output
theorem Stopped.own{a:World}{fr:Nat}{B:Nat}(l:a.heap.size<=B)(n:w.heap.size+3<=a.heap.size){W W':World}{row:Option Nat}(h:Stopped w a fr W)(b:W.grownBy W' row)(f:∀r,row=some r->B<=r):Stopped w a fr W':=by
 have m:=h.size;have d:∀k,k<a.heap.size->W'.heap[k]?=W.heap[k]? :=λk c=>b.block k oM (λe=>by have:=f k e.symm;omega);refine⟨h.res.kept (λ{k o} c x=>by rw[d k oM];exact x),λk c g i j=>by rw[d k c];exact h.old k c g i j,by have:=b.size;omega,b.os.trans h.os,b.tape.trans h.tape,b.output.trans h.output⟩
theorem ze4{b:World}{x y z:Value}{D:Nat}(C:Res3 w b w.heap.size x y z)(K:TK w.heap.size WtS w b)(m:b.heap[D]?=some (.deferred (some [])))(j:w.heap.size+3<=D)(g h i:Value):
  ∃a,((b.setCell (aD w.heap.size 0) g).setCell ⟨w.heap.size+1,0,none⟩ h).setCell ⟨w.heap.size+1+1,0,none⟩ i=a/\a.heap[D]?=some (.deferred (some []))/\Res3 w (a.putObj D (.deferred none)) w.heap.size g h i/\TK w.heap.size WtS w (a.putObj D (.deferred none)) /\
   (∀k,w.heap.size+3<=k->k≠D->(a.putObj D (.deferred none)).heap[k]?=b.heap[k]?)/\(a.putObj D (.deferred none)).heap.size=b.heap.size:=by
 obtain⟨a,n,l,d,p,r,s,t⟩:=C.set g h i;have put:∀e,e≠D->(a.putObj D (.deferred none)).heap[e]?=a.heap[e]? :=λe j=>by
  rw[World.putObj,Array.getElem?_setIfInBounds_ne (Ne.symm j)]
 refine⟨a,n,by rw[d D oM oM oM];exact m,l.kept (λ{k q} f x=>by rw[put k oM];exact x),?_,λk f o=>by rw[put k o,d k oM oM oM],by simp[World.putObj,p]⟩;refine⟨λ{k} x y=>by rw[put k oM,d k oM oM oM];exact K.low x y,r.trans K.os,s.trans K.tape,t.trans K.output,by have:=K.size;simp[World.putObj];omega,λ{k c A v} x y=>?_,λ{k q} x y=>?_⟩
 ·have f:=(zgE.1 x).1;rw[put k oM,d k oM oM oM];exact K.cells x y
 ·have f:=(zgE.1 x).1;rw[put k oM,d k oM oM oM];exact K.other x y
theorem zg5(hIB:Said.IndexByte)(hPI:Said.ParseInt)(hIt:Said.ItoaSmall)(s:ByteArray)(hs:s.size<=300){ts:List Tw.Tok}(h1:split s.data.toList=.ok ts){fuel:Nat}{t:Tw.T}(h2:Fk s.data.toList ts fp=some (.ok t))(h3:Ku fuel t=some res)(w:World):
  Calls prog 32 #[.string s] w (zmk w res):=by
 refine(callsIn_wide (n:=3)).1 ?_;refine callsIn_of_wp_marks func32 rfl trivial ?_;simp only[ntmps32,List.size_toArray,zB,zD,Nat.reduceAdd,Nat.reduceSub,Array.replicate_succ,Array.replicate_zero,List.push_toArray,List.append_toArray,rD,pD];have H3:=bV h3;obtain⟨W0,hW0,hg0,z0,hC0⟩:=Vz w;have G0:=bV hg0;have C0:=bV hC0;gi_wp2_with fail;refine⟨trivial,?_⟩;refine(callsIn_wide.2 (Sw hIB s W0 hs)).mono ?_;rintro e1 w1 ⟨hB1,hm⟩;rw[h1]at hm;obtain⟨v,rfl,ho⟩:=hm;have hts:0<ts.length/\ts.length<=301:=Ym h1 (by simpa using hs);obtain⟨gt,cap,cur,rfl,hgt,hTR⟩:=TokRow.ze6 ho hts.1 hts.2;have B1:=bV hB1;have T1:=bV hTR;gi_wp2_with fail;refine⟨trivial,?_⟩;refine(callsIn_wide.2 (zay hPI (uh T1) s hs h2)).mono ?_;rintro e1 w2 ⟨hg,tv,rfl,hR⟩;have G2:=bV hg;have R2:=bV hR;obtain⟨PT,nt,rfl⟩:=hR.iface;have key0:∀ {b:Nat} {o:Obj},W0.heap[b]?=some o->w2.heap[b]?=some o:=λ{b o} h=>by
  have hb:=(zgE.1 h).1;rw[hg.block b (by have:=B1.o.size;omega) sM,B1.o.block b hb];exact h
 have C2:=bV ((uh C0).kept (λ_ h=>key0 h));have z2:w.heap.size+3<=w2.heap.size:=by have:=B1.o.size;have:=hg.size;omega
 have K2:Hid (TK w.heap.size WtS w w2):=((TK.of_grown _ WtS G0.o).trans (((TK.of_grown _ WtS (Hx B1.o)).trans (TK.of_grown _ WtS hg))));have z1:=B1.o.size;gi_wp2_with fail;refine⟨trivial,?_⟩;refine(callsIn_wide.2 (Yl w2 ⟨PT,nt,rfl⟩)).mono ?_;rintro e1 w3 ⟨rfl,rfl⟩;gi_wp2_with fail;obtain⟨L0,hL0⟩:=NL.of_rep .nil ((uh R2).wide (yD _) (znL _));have hnl:=NL.kp (Kp.of_grown (zwA w2 (.cells #[.iface PT (pT nt)] 68) none)) hL0;have hfree:FreeAt L0 (t.freeS []):=hL0.free (λx=>by simp[Tw.BEn.look]);have hblock:=hnl.block;have hne:=Ac w2 (.cells #[.iface PT (pT nt)] 68);obtain⟨wn,hwn⟩:∃wn,w2.alloc (.cells #[.iface PT (pT nt)] 68)=wn:=⟨_,rfl⟩;have zn:wn.heap.size=w2.heap.size+1:=by rw[<-hwn];simp
 have CN:Hid (Res3 w wn w.heap.size .nilIface (vI 0) (vI 0)):=(uh C2).kept (λ{k o} hk x=>by rw[<-hwn];exact(Below.heap_alloc w2 _ k oM).trans x);have KN:Hid (TK w.heap.size WtS w wn):=(uh K2).trans (TK.of_grown _ WtS (by rw[<-hwn];exact zwA _ _ none));have RN:Hid (Rep wn w1.heap.size w2.heap.size t (.iface PT (pT nt))):=(uh R2).kept (λb _ h2 _=>by rw[<-hwn];exact Below.heap_alloc w2 _ b h2) (znL _) (znL _);rw[hwn]at hnl hblock hne ⊢;refine zg2 (p:=34) (q:=35) (d1:=9) (d2:=10) oM rfl (enters_of func83 kR rfl) (Ul hne hnl) (λh k=>h.trans k) zjb (Below.refl _ _)
  (λpre W=>(∀z∈pre,∃a,z.1.k=some a)/\Below wn.heap.size wn W) (λc pre W=>c=.ret/\∃init x,pre=init++[x]/\(∀z∈init,∃a,z.1.k=some a)/\x.1.k=none/\Stopped w wn x.1.fr W) ?own ?ownx ⟨sM,Below.refl _ _⟩ ?assign ?body ?done ?stop
 case own=>
  intro pre W W' row h hg hr;exact⟨h.1,ownFrom_below (β:=Unit) (znL _) (znL _) () W W' row h.2 hg hr⟩
 case ownx=>
  rintro c pre W W' row ⟨h0,init,x,h1,h2,h3,h4⟩ hg hr;exact⟨h0,init,x,h1,h2,h3,h4.own (znL _) oM hg (λr e=>(hr r e).1)⟩
 case assign=>
  intro l x W K hK;simp only[zsA,zsZ,zsS]at hK ⊢
  gi_wp2;exact hK
 case body=>
  rintro l pre ⟨x,hx⟩ W ⟨hpre,hB⟩ hlt;cases hk:x.k with
  |some a=>
   simp only[zsA,zsZ,zsS]
   try dsimp only
   gi_wp2;refine⟨KeepsOthers.refl _,Kp.refl _,λz hz=>?_,hB⟩;rcases zmA.1 hz with hz|hz
   ·exact hpre z hz
   ·simp only[xB]at hz;subst hz;exact⟨a,hk⟩
  |none=>
   simp only[zsA,zsZ,zsS]
   try dsimp only
   have hb:=hblock x hx;have hb':W.heap[x.nb]?=some (.cells #[vI x.fr,vI x.to,ug x.tx] 87 (0,0)):=(hB.block _ (zgE.1 hb).1).trans hb;obtain⟨q0,_,_,_,_,_⟩:=An hb';have CW:=bV ((uh CN).kept (W':=W) (λ{k o} hk' x'=>(hB.block k oM).trans x'));obtain⟨⟨b1,f1⟩,⟨b2,f2⟩,b3,f3⟩:=(uh CW).cells;have HB:=bV hB;have n1:¬w.heap.size=x.nb:=λe=>(by rw[<-e,(uh CW).1]at hb';simp at hb');have n2:¬w.heap.size+1=x.nb:=λe=>(by rw[<-e,(uh CW).2.1]at hb';simp at hb');have n3:¬w.heap.size+1+1=x.nb:=λe=>(by rw[<-e,(uh CW).2.2.1]at hb';simp at hb');have n4:¬x.nb=w.heap.size:=λe=>n1 e.symm;have n5:¬x.nb=w.heap.size+1:=λe=>n2 e.symm;have n6:¬x.nb=w.heap.size+1+1:=λe=>n3 e.symm;have FIN:Hid (∀W6,((W.drew.setCell (aD w.heap.size 0) .nilIface).setCell ⟨w.heap.size+1,0,none⟩ (vI 4)).setCell ⟨w.heap.size+1+1,0,none⟩ (vI x.fr)=W6->Stopped w wn x.fr W6/\KeepsOthers W W6):=by
    intro W6 hW6;obtain⟨W7,hW7,hC7,ho,hsz,o1,o2,o3⟩:=Res3.set (W:=W.drew) (uh CW) .nilIface (vI 4) (vI x.fr);rw[hW6]at hW7;subst hW7;refine⟨⟨hC7,λk hk' m1 m2 m3=>(ho k m1 m2 m3).trans (hB.block k hk'),by rw[hsz];exact hB.size,o1.trans hB.os,o2.trans hB.tape,o3.trans hB.output⟩,?_⟩;rw[<-hW6];exact((KeepsOthers.drew W).trans (KeepsOthers.setCell _ _ _)).trans ((KeepsOthers.setCell _ _ _).trans (KeepsOthers.setCell _ _ _))
   have HP:=bV hpre
   gi_wp2
   gi_region
   all_goals gi_wp2
   all_goals exact⟨(uh FIN _ rfl).2,rfl,pre,⟨x,hx⟩,rfl,uh HP,hk,(uh FIN _ rfl).1⟩
 case stop=>
  rintro D c pre W hD hsp ⟨rfl,init,x,rfl,hi,hx,hS⟩ hK;have hp:t.freeS []=some x.1.fr:=by
   refine hfree.first (init:=init.map (·.1)) (x:=x.1) (by simpa using hsp) (λz hz=>?_) hx;obtain⟨z',hz',rfl⟩:=List.mem_map.1 hz;exact hi z' hz'
  have h3':=uh H3;rw[Ku,hp]at h3';cases h3';have HS:=bV hS
  gi_wp2;refine⟨sM,.inl ⟨_,_,rfl,run_takeDeferred hK,?_⟩⟩;have put:∀b,b≠D->(W.putObj D (.deferred none)).heap[b]?=W.heap[b]? :=λb hb=>by
   rw[World.putObj,Array.getElem?_setIfInBounds_ne (Ne.symm hb)]
  have hS:=uh HS;obtain⟨⟨e1,_⟩,⟨e2,_⟩,e3,_⟩:=(hS.res.kept (W':=W.putObj D (.deferred none)) (λ{k o} hk x=>by rw[put k oM];exact x)).cells;refine⟨.tuple #[.nilIface,vI 4,vI x.1.fr],by simp[results,results32,go_sem,e1,e2,e3],rfl,?_⟩;have K:=KN.o;have hsz:=hS.size;refine⟨λ{k} x y=>by rw[put k oM,hS.old k oM oM oM oM];exact K.low x y,hS.os.trans K.os,hS.tape.trans K.tape,hS.output.trans K.output,by have:=K.size;simp[World.putObj];omega,λ{k c t m} x y=>?_,λ{k o} x y=>?_⟩
  ·have hk:=(zgE.1 x).1;rw[put k oM,hS.old k oM oM oM oM];exact K.cells x y
  ·have hk:=(zgE.1 x).1;rw[put k oM,hS.old k oM oM oM oM];exact K.other x y
 case done=>
  rintro D xs W hD hxs ⟨hall,hB⟩ hK;have hp:t.freeS []=none:=by
   cases hf:t.freeS []with
   |none=>rfl
   |some p=>
    rw[hf]at hfree;obtain⟨pre,y,post,he,_,hy,_⟩:=hfree;have hm:y∈xs.map (·.1):=(by rw[hxs,he];simp);obtain⟨z,hz,hzy⟩:=List.mem_map.1 hm;obtain⟨a,ha⟩:=hall z hz;rw[hzy,hy]at ha;cases ha
  have h3':=uh H3;rw[Ku,hp]at h3';simp only[zbE]at h3';obtain⟨k,hk0,h3'⟩:=h3';have H4:=bV hk0;have H5:=bV h3';have z3:=hB.size;have RW:Hid (Rep W w1.heap.size w2.heap.size t (.iface PT (pT nt))):=(uh RN).kept (λb _ h2 _=>hB.block b oM) (znL _) (znL _);have CW:=bV ((uh CN).kept (W':=W) (λ{k o} hk x=>(hB.block k oM).trans x));have KW:Hid (TK w.heap.size WtS w W):=KN.o.trans (TK.of_grown _ _ (Hx hB));have HK:=bV hK;gi_wp2_with fail;refine⟨trivial,?_⟩;refine(callsIn_wide.2 (zdq ((uh RW).wide (yD _) (znL _)) (uh H4))).mono ?_;rintro e1 w4 ⟨rfl,hg⟩;have zW:=hg.size;have R4:=bV ((uh RW).grown hg (znL _) (znL _));have K4:Hid (TK w.heap.size WtS w w4):=KW.o.trans (TK.of_grown _ _ hg);have key:∀ {b:Nat} {o:Obj},W.heap[b]?=some o->w4.heap[b]?=some o:=λ{b o} h=>(hg.block b (zgE.1 h).1 sM).trans h;have C4:=bV ((uh CW).kept (λ_ x=>key x));have D4:=bV (key (uh HK));by_cases hk2:2000<k
  ·have h5:=uh H5;rw[mA hk2]at h5;cases h5;have hki:(2000:Int)<k:=oM;obtain⟨⟨b1,f1⟩,⟨b2,f2⟩,b3,f3⟩:=(uh C4).cells;gi_wp2_with fail;obtain⟨W6,hW6,hKD,hC6,hK6,_,_⟩:=ze4 (uh C4) (uh K4) (uh D4) oM .nilIface (vI 10) (vI 0);rw[hW6];obtain⟨⟨e1,_⟩,⟨e2,_⟩,e3,_⟩:=hC6.cells;refine⟨sM,.inl ⟨_,_,rfl,run_takeDeferred hKD,?_⟩⟩;exact⟨.tuple #[.nilIface,vI 10,vI 0],by simp[results,results32,go_sem,e1,e2,e3],rfl,hK6⟩
  ·have h5:=uh H5;rw[jA hk2]at h5;simp only[zbE]at h5;obtain⟨o,ho,h5⟩:=h5;have HO:=bV ho;have hki:¬(2000:Int)<k:=oM;gi_wp2_with fail;refine⟨trivial,?_⟩;refine(callsIn_wide.2 (zi8 hIt ((uh R4).wide (yD _) (znL _)) (uh HO))).mono ?_;rintro e1 w5 ⟨rfl,hk⟩;have z5:=hk.size;have R5:=bV ((uh R4).kp (hk.kp dZ));have K5:Hid (TK w.heap.size WtS w w5):=K4.o.trans (hk.base oM);have C5:Hid (Res3 w w5 w.heap.size .nilIface (vI 0) (vI 0)):=⟨hk.cells (uh C4).1 dZ,hk.cells (uh C4).2.1 dZ,hk.cells (uh C4).2.2.1 dZ,rfl⟩;have D5:=bV (hk.other (uh D4) sM);obtain⟨⟨b1,f1⟩,⟨b2,f2⟩,b3,f3⟩:=(uh C5).cells;cases o with
   |none=>
    cases h5;unfold ofV;gi_wp2_with fail;obtain⟨W6,hW6,hKD,hC6,hK6,_,_⟩:=ze4 (uh C5) (uh K5) (uh D5) oM .nilIface (vI 5) (vI 0);rw[hW6];obtain⟨⟨e1,_⟩,⟨e2,_⟩,e3,_⟩:=hC6.cells;refine⟨sM,.inl ⟨_,_,rfl,run_takeDeferred hKD,?_⟩⟩;exact⟨.tuple #[.nilIface,vI 5,vI 0],by simp[results,results32,go_sem,e1,e2,e3],rfl,hK6⟩
   |some sh=>
    cases h5;unfold ofV;gi_wp2_with fail;obtain⟨W6,hW6,hKD,hC6,hK6,hold,hsz⟩:=ze4 (uh C5) (uh K5) (uh D5) oM (.iface PT (pT nt)) (vI 0) (vI 0);rw[hW6];obtain⟨⟨e1,_⟩,⟨e2,_⟩,e3,_⟩:=hC6.cells;refine⟨sM,.inl ⟨_,_,rfl,run_takeDeferred hKD,?_⟩⟩;refine⟨.tuple #[.iface PT (pT nt),vI 0,vI 0],by simp[results,results32,go_sem,e1,e2,e3],_,rfl,?_,hK6⟩;exact(uh R5).kept (λb hb1 hb2 _=>hold b oM oM) oM oM
theorem V1(b:Said.IndexByte)(f:Said.ParseInt)(j:Said.ItoaSmall)(s:ByteArray)(d:s.size<=300){i:Nat}(h:Qn fp i s.data.toList=some res)(w:World):
  Calls prog 32 #[.string s] w (zmk w res):=by
 unfold Qn at h;cases a:split s.data.toList with
 |error p=>
  rw[a]at h;cases h;exact(zdx b s d a w).mono (λg k ⟨h,c⟩=>⟨h,TK.of_grown _ _ c⟩)
 |ok ts=>
  rw[a]at h;simp only[zbE]at h;obtain⟨r,e,h⟩:=h;cases r with
  |error p=>
   cases h;exact(zg3 b f s d a e w).mono (λg k ⟨h,c⟩=>⟨h,TK.of_grown _ _ c⟩)
  |ok t=>exact zg5 b f j s d a e h w
end
section
open Tw Go.Proofs.Tryz
open Go.RowKit Go.Shelf
variable{w w':World}{bt:Nat}{s:ByteArray}{t:Tw.T}{S:List TypeId}
def TextAt(w:World)(bt:Nat)(s:ByteArray)(t:Tw.T):Prop:=∃b a,w.heap[bt]?=some (.cells #[.string s,a] 72 (0,0))/\Rep w 0 b t a
theorem TextAt.kp(h:TextAt w bt s t)(f:Kp w w')(d:∀c m,w.heap[bt]?=some (.cells c 72 m)->w'.heap[bt]?=some (.cells c 72 m)):TextAt w' bt s t:=by
 obtain⟨e,g,a,b⟩:=h;exact⟨e,g,d _ _ a,b.kp f⟩
theorem TextAt.tk{B:Nat}(h:TextAt w bt s t)(b:TK B S w w')(a:(72::Qm).all (λt=>!S.contains t)=true):TextAt w' bt s t:=by
 rw[List.all_cons]at a;obtain⟨d,e⟩:=Bool.and_eq_true_iff.1 a;exact h.kp (b.kp e) (λc m x=>b.cells x (by simpa using d))
theorem Um(s:ByteArray)(w:World):∃v W,(convert 9 66 (.string s)).run prog w=.ok v W/\(convert 66 9 v).run prog W=.ok (.string s) W/\w.grownBy W none:=by
 refine⟨_,_,run_bytes_of_string w _ _ 5 s underlying9 underlying66 underlying5,?_,Ab (Ad (Aa _)) (zwA _ _ none)⟩
 have:=run_convert_bytes_back (P:=prog) (w.drew.alloc (.cells (bytesRow s (grownCap w s.size 0 5)) 5 ((bytesRow s (grownCap w s.size 0 5)).size,(bytesRow s (grownCap w s.size 0 5)).size+1))) 66 9 5 (aD w.heap.size 0) (grownCap w s.size 0 5) s.data.toList underlying66 underlying5 underlying9 (by
  intro j a;rw[show(Addr.add (aD w.heap.size 0) j)=((aD w.heap.size j):Addr)from by simp[Addr.add];omega];have e:w.heap.size=w.drew.heap.size:=rfl;rw[e,World.cell?_alloc_mark,bytesRow_at s _ j (by rw[Array.length_toList]at a;exact a)];rfl)
 have b:s.data.toList.length=s.size:=Array.length_toList;rw[b]at this;exact this
theorem zdz(h:TextAt w bt s t):
  Calls prog 25 #[pT bt] w λe w'=>e=.returned (.string s)/\w=w':=by
 obtain⟨d,f,a,c⟩:=h;obtain⟨b,_,_,_⟩:=Be a
 go_in;go_wp2_with fail;go_ret;exact⟨rfl,rfl⟩
theorem zjc{shown:List UInt8}(h:TextAt w bt s t)(d:ze3 S t shown):
  Calls prog 22 #[pT bt] w λe w'=>e=.returned (ug shown)/\TK w.heap.size S w w':=by
 obtain⟨k,m,c,a⟩:=h;have R:=bV a;obtain⟨g,l,rfl⟩:=a.iface;obtain⟨_,i,_,_⟩:=Be c;have b:=bV d
 go_in;go_wp2_with fail;refine(uh b _ _ _ (uh R)).mono ?_;rintro j n ⟨rfl,f⟩;have K:=bV f;go_wp2_with fail;go_ret;exact⟨rfl,uh K⟩
end
section
open Tw Go.Proofs.Tryz
open Go.RowKit Go.Shelf
variable{fp fo:Nat}
def Tw.Ie(fp fo:Nat)(l:List UInt8):Option RR:=if 300<l.length then some (.fault 1 0)else Qn fp fo l
def znq(w:World)(s:ByteArray)(c:RR)(e:Ending)(a:World):Prop:=
 match c with
 |.fault k p=>e=.returned (.tuple #[.pointer none,.int .i64 k,.int .i64 p])/\TK w.heap.size WtS w a
 |.fine t _=>∃b,e=.returned (.tuple #[.pointer (some ⟨b,0,none⟩),.int .i64 0,.int .i64 0])/\TextAt a b s t/\TK w.heap.size WtS w a
theorem zjd{l:List UInt8}{k p:Nat}(h:Qn fp fo l=some (.fault k p)):k≠0:=by
 unfold Qn at h;split at h
 ·cases h;omega
 ·simp only[zbE]at h;obtain⟨r,_,h⟩:=h;split at h
  ·cases h;omega
  ·unfold Ku at h;split at h
   ·cases h;omega
   ·simp only[zbE]at h;obtain⟨a,_,h⟩:=h;split at h
    ·cases h;omega
    ·simp only[zbE]at h;obtain⟨o,_,h⟩:=h;cases o with
     |none=>cases h;omega
     |some sh=>cases h
theorem zje(f:Said.IndexByte)(i:Said.ParseInt)(g:Said.ItoaSmall){s:ByteArray}{e:RR}(h:Ie fp fo s.data.toList=some e)(w:World):
  Calls prog 16 #[.string s] w (znq w s e):=by
 unfold Ie at h;have q:s.data.toList.length=s.size:=Array.length_toList;rw[q]at h;by_cases l:300<s.size
 ·rw[mA l]at h;cases h;have r:(300:Int)<s.size:=oM
  go_in;go_wp2_with fail;go_ret3;exact⟨rfl,TK.refl _ _ _⟩
 rw[jA l]at h;obtain⟨C,W,x,y,o⟩:=Um s w;have G:=bV o;have c:=bV h;have r:¬(300:Int)<s.size:=oM;cases e with
 |fault k p=>
  have a:=zjd (uh c);have z:¬(k:Int)=0:=oM
  go_in;go_wp2_with fail;refine(V1 f i g s oM (uh c) W).mono ?_;rintro n b ⟨rfl,a⟩;have d:Hid (TK w.heap.size WtS w b):=(TK.of_grown _ _ G.o).trans (a.base G.o.size);go_wp2_with fail;go_ret3;exact⟨rfl,d.o⟩
 |fine t sh=>
  go_in;go_wp2_with fail;refine(V1 f i g s oM (uh c) W).mono ?_;rintro n b ⟨B,rfl,j,a⟩;have m:=bV j;obtain⟨v,A,rfl⟩:=j.iface;have d:Hid (TK w.heap.size WtS w b):=(TK.of_grown _ _ G.o).trans (a.base G.o.size);go_wp2_with fail;go_ret3;exact⟨_,rfl,⟨_,_,Ac b _,(uh m).grown (zwA _ _ none) (yD _) (znL _)⟩,d.o.trans (TK.of_grown _ _ (zwA _ _ none))⟩
end
end Go.Proofs.YtckhafpejefbbaaGreatDoor
