import Derived.Test.YtckhafpejefbbaaGreatDoorB10
import Derived.RangeFuncNested
import Derived.RangeFuncBound
import Derived.Shelf.RegionOpen
import Derived.OwnWalkIn
import Derived.Test.YtckhafpejefbbaaGreatDoorB12

set_option maxRecDepth 100000
set_option maxHeartbeats 4000000
namespace Go.Proofs.YtckhafpejefbbaaGreatDoor
abbrev wA:=@List.append_assoc
section
open Tw Go.Proofs.Tryz
open Go.RowKit Go.Shelf
section
variable{A B w:World}{hi:Nat}{v:Value}
attribute [local go_sem] Oper.semAt_some
structure NB where
 nb:Nat
 fr:Nat
 to:Nat
 tx:List UInt8
 e:Tw.BEn
def NB.k(x:NB):Option Addr:=x.e.look x.tx
def Su:List TypeId:=[87,194,198,201,206,229,319,322,326,235,140,68,302,182,187,135,130,247,79]
def Kp(W W':World):Prop:=∀(k:Nat) (c:Array Value) (t:TypeId) (m:Nat×Nat),W.heap[k]?=some (.cells c t m)->Su.contains t=true->W'.heap[k]?=some (.cells c t m)
theorem Kp.refl(W:World):Kp W W:=λ_ _ _ _ h _=>h
theorem Kp.trans{C:World}(h:Kp A B)(k:Kp B C):Kp A C:=λi c t m x y=>k i c t m (h i c t m x y) y
theorem Kp.Ae(h:zG A B):Kp A B:=λi _ _ _ x _=>(h.block i (zgE.1 x).1 sM).trans x
def NL(w:World)(hi:Nat):Tw.T->Value->Tw.BEn->List NB->Prop
 |.name fr to tx,v,e,L=>∃b,(v=.iface 83 (.pointer (some ⟨b,0,none⟩))/\w.heap[b]?=some (.cells #[.int .i64 fr,.int .i64 to,ug tx] 87 (0,0)))/\L=[⟨b,fr,to,tx,e⟩]
 |.int fr to n,v,_,L=>nodeAt w 0 hi fr to [.int .i64 n] 191 194 v/\L=[]
 |.Ak fr to b,v,_,L=>nodeAt w 0 hi fr to [.bool b] 195 198 v/\L=[]
 |.side fr to b,v,_,L=>nodeAt w 0 hi fr to [.bool b] 199 201 v/\L=[]
 |.bracket fr to i,v,e,L=>∃v1,nodeAt w 0 hi fr to [v1] 204 206 v/\NL w hi i v1 e L
 |.pair fr to l r,v,e,L=>∃v1 v2 L1 L2,nodeAt w 0 hi fr to [v1,v2] 207 229 v/\NL w hi l v1 e L1/\NL w hi r v2 e L2/\L=L1++L2
 |.call fr to l r,v,e,L=>∃v1 v2 L1 L2,nodeAt w 0 hi fr to [v1,v2] 209 319 v/\NL w hi l v1 e L1/\NL w hi r v2 e L2/\L=L1++L2
 |.binary fr to sg l r,v,e,L=>∃v1 v2 L1 L2,nodeAt w 0 hi fr to [.int .i64 sg,v1,v2] 211 322 v/\NL w hi l v1 e L1/\NL w hi r v2 e L2/\L=L1++L2
 |.cond fr to c t f,v,e,L=>∃v1 v2 v3 L1 L2 a,nodeAt w 0 hi fr to [v1,v2,v3] 213 326 v/\NL w hi c v1 e L1/\NL w hi t v2 e L2/\NL w hi f v3 e a/\L=L1++L2++a
 |.fn fr to bn bat b,v,e,L=>∃k v1,(k<hi/\v=.iface 215 (.pointer (some ⟨k,0,none⟩))/\w.heap[k]?=some (.cells #[.int .i64 fr,.int .i64 to,ug bn,.int .i64 bat,v1] 235 (0,0)))/\NL w hi b v1 (.cons bn ⟨k,2,none⟩ e) L
 |.Am fr to rc bn bat d b,v,e,L=>∃k v1 v2 L1 L2,(k<hi/\v=.iface 136 (.pointer (some ⟨k,0,none⟩))/\w.heap[k]?=some (.cells #[.int .i64 fr,.int .i64 to,.bool rc,ug bn,.int .i64 bat,v1,v2] 140 (0,0))) /\
  NL w hi d v1 (if rc then .cons bn ⟨k,3,none⟩ e else e) L1/\NL w hi b v2 (.cons bn ⟨k,3,none⟩ e) L2/\L=L1++L2
theorem nodeAt.kp{w':World}{lo fr to:Nat}{rest:List Value}{a st:TypeId}(h:nodeAt w lo hi fr to rest a st v)(i:Kp w w')(j:Su.contains st=true):nodeAt w' lo hi fr to rest a st v:=by
 have⟨b,d,e,f,g⟩:=h;exact⟨b,d,e,f,i _ _ _ _ g j⟩
theorem NL.kp{w w':World}{hi:Nat}(a:Kp w w'):∀ {t:Tw.T} {v:Value} {e:Tw.BEn} {L:List NB},NL w hi t v e L->NL w' hi t v e L
 |.name ..,_,_,_,⟨b,⟨h1,h2⟩,h3⟩=>⟨b,⟨h1,a _ _ _ _ h2 dZ⟩,h3⟩
 |.int ..,_,_,_,⟨h,hl⟩=>⟨h.kp a dZ,hl⟩
 |.Ak ..,_,_,_,⟨h,hl⟩=>⟨h.kp a dZ,hl⟩
 |.side ..,_,_,_,⟨h,hl⟩=>⟨h.kp a dZ,hl⟩
 |.bracket ..,_,_,_,⟨v1,h,r1⟩=>⟨v1,h.kp a dZ,NL.kp a r1⟩
 |.pair ..,_,_,_,⟨v1,v2,L1,L2,h,r1,r2,hl⟩=>⟨v1,v2,L1,L2,h.kp a dZ,NL.kp a r1,NL.kp a r2,hl⟩
 |.call ..,_,_,_,⟨v1,v2,L1,L2,h,r1,r2,hl⟩=>⟨v1,v2,L1,L2,h.kp a dZ,NL.kp a r1,NL.kp a r2,hl⟩
 |.binary ..,_,_,_,⟨v1,v2,L1,L2,h,r1,r2,hl⟩=>⟨v1,v2,L1,L2,h.kp a dZ,NL.kp a r1,NL.kp a r2,hl⟩
 |.cond ..,_,_,_,⟨v1,v2,v3,L1,L2,L3,h,r1,r2,r3,hl⟩=>⟨v1,v2,v3,L1,L2,L3,h.kp a dZ,NL.kp a r1,NL.kp a r2,NL.kp a r3,hl⟩
 |.fn ..,_,_,_,⟨k,v1,⟨h0,h1,h2⟩,r1⟩=>⟨k,v1,⟨h0,h1,a _ _ _ _ h2 dZ⟩,NL.kp a r1⟩
 |.Am ..,_,_,_,⟨k,v1,v2,L1,L2,⟨h0,h1,h2⟩,r1,r2,hl⟩=>⟨k,v1,v2,L1,L2,⟨h0,h1,a _ _ _ _ h2 dZ⟩,NL.kp a r1,NL.kp a r2,hl⟩
theorem BAt.kp{w w':World}(a:Kp w w'):∀ {e:Tw.BEn} {v:Value},BAt w e v->BAt w' e v
 |.nil,_,h=>h
 |.cons ..,_,⟨b,vo,hv,hb,ho⟩=>⟨b,vo,hv,a _ _ _ _ hb dZ,BAt.kp a ho⟩
theorem NL.Dl{w:World}{hi:Nat}:∀ {t:Tw.T} {v:Value} (e:Tw.BEn),Rep w 0 hi t v->∃L,NL w hi t v e L
 |.name ..,_,_,⟨b,_,_,h2,h3⟩=>⟨_,b,⟨h2,h3⟩,rfl⟩
 |.int ..,_,_,h=>⟨_,h,rfl⟩
 |.Ak ..,_,_,h=>⟨_,h,rfl⟩
 |.side ..,_,_,h=>⟨_,h,rfl⟩
 |.bracket ..,_,e,⟨v1,h,r1⟩=>let⟨L,a⟩:=NL.Dl e r1;⟨L,v1,h,a⟩
 |.pair ..,_,e,⟨v1,v2,h,r1,r2⟩=>let⟨d,a⟩:=NL.Dl e r1;let⟨f,g⟩:=NL.Dl e r2;⟨_,v1,v2,d,f,h,a,g,rfl⟩
 |.call ..,_,e,⟨v1,v2,h,r1,r2⟩=>let⟨d,a⟩:=NL.Dl e r1;let⟨f,g⟩:=NL.Dl e r2;⟨_,v1,v2,d,f,h,a,g,rfl⟩
 |.binary ..,_,e,⟨v1,v2,h,r1,r2⟩=>let⟨d,a⟩:=NL.Dl e r1;let⟨f,g⟩:=NL.Dl e r2;⟨_,v1,v2,d,f,h,a,g,rfl⟩
 |.cond ..,_,e,⟨v1,v2,v3,h,r1,r2,r3⟩=>let⟨d,a⟩:=NL.Dl e r1;let⟨f,g⟩:=NL.Dl e r2;let⟨i,j⟩:=NL.Dl e r3;⟨_,v1,v2,v3,d,f,i,h,a,g,j,rfl⟩
 |.fn _ _ bn _ _,_,e,⟨v1,⟨b,_,hb,h2,h3⟩,r1⟩=>let⟨L,a⟩:=NL.Dl (.cons bn (aD b 2) e) r1;⟨L,b,v1,⟨hb,h2,h3⟩,a⟩
 |.Am _ _ rc bn _ _ _,_,e,⟨v1,v2,⟨b,_,hb,h2,h3⟩,r1,r2⟩=>let⟨d,a⟩:=NL.Dl (if rc then .cons bn (aD b 3) e else e) r1;let⟨f,g⟩:=NL.Dl (.cons bn (aD b 3) e) r2;⟨_,b,v1,v2,d,f,⟨hb,h2,h3⟩,a,g,rfl⟩
theorem NL.iface{t:Tw.T}{e:Tw.BEn}{L:List NB}(h:NL w hi t v e L):∃T n,v=.iface T (pT n):=by
 cases t with
 |name=>obtain⟨b,⟨h,_⟩,_⟩:=h;exact⟨_,_,h⟩
 |int=>obtain⟨⟨b,_,_,h,_⟩,_⟩:=h;exact⟨_,_,h⟩
 |Ak=>obtain⟨⟨b,_,_,h,_⟩,_⟩:=h;exact⟨_,_,h⟩
 |side=>obtain⟨⟨b,_,_,h,_⟩,_⟩:=h;exact⟨_,_,h⟩
 |bracket=>obtain⟨_,⟨b,_,_,h,_⟩,_⟩:=h;exact⟨_,_,h⟩
 |pair=>obtain⟨_,_,_,_,⟨b,_,_,h,_⟩,_⟩:=h;exact⟨_,_,h⟩
 |call=>obtain⟨_,_,_,_,⟨b,_,_,h,_⟩,_⟩:=h;exact⟨_,_,h⟩
 |binary=>obtain⟨_,_,_,_,⟨b,_,_,h,_⟩,_⟩:=h;exact⟨_,_,h⟩
 |cond=>obtain⟨_,_,_,_,_,_,⟨b,_,_,h,_⟩,_⟩:=h;exact⟨_,_,h⟩
 |fn=>obtain⟨_,_,⟨_,h,_⟩,_⟩:=h;exact⟨_,_,h⟩
 |Am=>obtain⟨_,_,_,_,_,⟨_,h,_⟩,_⟩:=h;exact⟨_,_,h⟩
abbrev Ht(l:Nat):Value:=.func (.yield l) #[] #[]
abbrev zre(F c:Nat):Value:=.func (.func F) #[] #[.pointer (some ⟨c,0,none⟩)]
structure Yd(F c:Nat)(L0:List NB)(J Jx:List NB->World->Prop):Prop where
 enter:∀(args:Array Value) (W:World),Sem.run prog (callFunc F args) W=.ok (.enter F args) W
 grown:∀ {s:List NB} {W W':World},J s W->W.grownBy W' none->J s W'
 call:∀(pre:List NB) (x:NB) (W:World) (ev:Value),J pre W->(pre++[x]) <+:L0->W.heap[x.nb]?=some (.cells #[.int .i64 x.fr,.int .i64 x.to,ug x.tx] 87 (0,0))->BAt W x.e ev ->
  Calls prog F #[.pointer (some ⟨x.nb,0,none⟩),ev,.pointer (some ⟨c,0,none⟩)] W fun e W'=>
  (e=.returned (.bool true)/\J (pre++[x]) W'/\Kp W W')\/(e=.returned (.bool false)/\Jx (pre++[x]) W')
def EPost(J Jx:List NB->World->Prop)(pre L:List NB)(w:World)(r:Ending)(w':World):Prop:=
 (r=.returned (.bool true)/\J (pre++L) w'/\Kp w w')\/(r=.returned (.bool false)/\∃q,q <+:L/\Jx (pre++q) w')
def Zc(F c:Nat)(L0:List NB)(J Jx:List NB->World->Prop)(t:Tw.T):Prop:=∀ {w:World} {hi:Nat} {b a:Value} {e:Tw.BEn} {pre L:List NB},NL w hi t b e L->BAt w e a->J pre w->(pre++L) <+:L0 ->
 Calls prog 84 #[b,a,zre F c] w (EPost J Jx pre L w)
variable {F c:Nat}{L0:List NB}{J Jx:List NB -> World -> Prop}
theorem zmr(b:Yd F c L0 J Jx){fr to:Nat}{x:zU}:Zc F c L0 J Jx (.name fr to x):=by
 intro w hi n g f pre L j d h k;obtain⟨e,⟨rfl,i⟩,rfl⟩:=j;have a:=b.call pre ⟨e,fr,to,x,f⟩ w g h k i d;dsimp only at a;obtain⟨l,rfl⟩:=d.ptr;have m:=Mm;go_in;go_wp21;rw[b.enter];go_call a as e2 W2 (⟨rfl,hJ2,hk2⟩|⟨rfl,hx2⟩)
 ·go_wp21;go_ret;exact .inl ⟨rfl,hJ2,hk2⟩
 ·go_wp21;go_ret;exact .inr ⟨rfl,_,List.prefix_refl _,hx2⟩
def zwg(F c:Nat)(J Jx:List NB->World->Prop)(ev v:Value)(w:World)(pre L:List NB):Prop:=∀W:World,Kp w W->J pre W->Calls prog 84 #[v,ev,zre F c] W (EPost J Jx pre L W)
def I8(Ls:List (List NB))(q:Nat):List NB:=(Ls.take q).flatten
theorem zi4(Ls:List (List NB))(q:Nat)(h:q<Ls.length):I8 Ls (q+1)=I8 Ls q++Ls[q]:=by
 unfold I8;rw[cE h,List.flatten_append];simp
theorem Ia(M:Yd F c L0 J Jx){d:TypeId}{w:World}{b:Nat}{ev:Value}{vs:List Value}{Ls:List (List NB)}{pre:List NB}
  (q0:Bo d 83)
  (q1:Bo d 215)
  (q2:Bo d 136)
  (L:Calls prog 162 #[.iface d (pT b)] w (El w vs)) (O:∃a,ev=.pointer a)
  (R:vs.length=Ls.length) (a2:Ls.length<=3) (hK:∀j (h:j<vs.length) (i:j<Ls.length),(∃T n,vs[j]=.iface T (pT n))/\zwg F c J Jx ev vs[j] w (pre++I8 Ls j) Ls[j]) (I:J pre w) :
  Calls prog 84 #[.iface d (pT b),ev,zre F c] w (EPost J Jx pre Ls.flatten w):=by
 obtain⟨a,rfl⟩:=O;go_in;go_wp21;go_call L as e1 w1 ⟨hg,hcase⟩;have f:=hg;have m:=M.grown I hg;rcases hcase with⟨rfl,rfl⟩|⟨k,rfl,P⟩
 ·have Q:Ls=[]:=by simpa using R.symm
  subst Q;go_wp21;go_loopg[79] 0 (λj l wr=>l=vI 0/\wr=w1)
  case atStart=>exact⟨rfl,rfl⟩
  case round=>
   obtain⟨rfl,rfl⟩:=hrel;go_wp21;go_ret;go_light;exact .inl ⟨rfl,by simpa using m,Kp.Ae f⟩
 ·have D:=P;obtain⟨N,s⟩:∃N,vs.length=N:=⟨_,rfl⟩;rw[s];have r:N=Ls.length:=oM;have a0:N<=3:=oM;go_wp21;go_loopg[79] N (λj l wr=>∃q:Nat,j+q=N/\q<=N/\l=vI q/\(J (pre++I8 Ls q) wr)/\(Kp w1 wr))
  case atStart=>exact⟨0,oM,oM,rfl,by simpa[I8]using m,Kp.refl _⟩
  case round=>
   obtain⟨q,a1,hq,rfl,o,e⟩:=hrel;by_cases x:q<N
   ·have h:q<vs.length:=(by rw[s];exact x);have i:q<Ls.length:=(by rw[<-r];exact x);have⟨⟨T,W,z⟩,t⟩:=hK q h i;rw[z]at t;have hc:wr.cell? (aD k q)=some (.iface T (pT W)):=by
     rw[mB wr k _ _ _ _ (e _ _ _ _ D dZ)];simp[Wp,h,z]
    have a3:(q:Int)<(N:Int):=oM;have H:=t wr ((Kp.Ae f).trans e) o;have y:=zi4 Ls q i;have E:I8 Ls q++Ls[q] <+:Ls.flatten:=by
     show _ <+:_;rw[<-y];exact⟨(Ls.drop (q+1)).flatten,by unfold I8;rw[<-List.flatten_append,List.take_append_drop]⟩
    generalize Ls[q]=Lq at *;go_wp21;go_call H as e2 w2 (⟨rfl,hj2,hk2⟩|⟨rfl,p,hp,hx⟩)
    ·have g:J (pre++I8 Ls (q+1)) w2:=by show J _ _;rw[y,<-wA];exact hj2
     have G:=e.trans hk2;go_wp21;go_roundg (gk-1)
     case measure=>omega
     case rel=>exact⟨q+1,oM,oM,by go_num,g,G⟩
    ·have X:∃C,C <+:Ls.flatten/\Jx (pre++C) w2:=by
      refine⟨I8 Ls q++p,?_,by rw[<-wA];exact hx⟩;have⟨Y,U⟩:=hp;have⟨Z,V⟩:=E;exact⟨Y++Z,by rw[<-V,<-U];simp[List.append_assoc]⟩
     go_wp21;go_ret;go_light;exact .inr ⟨rfl,X⟩
   ·have S:q=N:=oM;have g:J (pre++Ls.flatten) wr:=by
     have:=o;rw[S,r]at this;unfold I8 at this;rw[List.take_length]at this;exact this
    go_wp21;go_ret;go_light;exact .inl ⟨rfl,g,(Kp.Ae f).trans e⟩
end
section
variable {F c:Nat}{L0:List NB}{J Jx:List NB -> World -> Prop}
variable{pre L:List NB}{w w':World}{r:Ending}
theorem EPost.one(h:EPost J Jx pre L w r w'):∃a,r=.returned (.bool a)/\EPost J Jx pre L w (.returned (.bool a)) w':=by
 rcases h with⟨rfl,h⟩|⟨rfl,h⟩
 ·exact⟨true,rfl,.inl ⟨rfl,h⟩⟩
 ·exact⟨false,rfl,.inr ⟨rfl,h⟩⟩
theorem EPost.from{a:World}(h:EPost J Jx pre L w r w')(e:Kp a w):EPost J Jx pre L a r w':=
 h.imp (λ⟨b,d,c⟩=>⟨b,d,e.trans c⟩) id
theorem zpi(q:Yd F c L0 J Jx){fr to bat:Nat}{bn:zU}{body:Tw.T}(o:Zc F c L0 J Jx body):Zc F c L0 J Jx (.fn fr to bn bat body):=by
  intro w E N D C pre L a i p s;obtain⟨h,O,⟨_,rfl,f⟩,j⟩:=a;have l:=bV s;obtain⟨t,G,rfl⟩:=j.iface;have⟨_,_,y,_,z⟩:=Ea f;obtain⟨v,rfl⟩:=i.ptr;have H:=Ot;have I:=Km;go_in;go_wp21;have d:w.grownBy w.drew none:=Ad (Aa _)
  go_region_with (first
      |(go_at_call 161;refine(zct (i.grown d) bn (aD h 2)).mono ?_;rintro n P ⟨M,rfl,g,a⟩;have e:=Ab d g;have m:=bV a;have k:=Ea ((Ab d g).block h (zgE.1 f).1 sM|>.trans f);have⟨_,_,A,_,B⟩:=k;clear g a)
      |(go_at_call 84;refine(o (j.kp (Kp.Ae e)) (uh m) (q.grown p e) (uh l)).mono ?_;rintro n Q b;obtain⟨x,rfl,b⟩:=b.one;have X:=b.from (Kp.Ae e);clear b))
  all_goals (go_wp21;go_ret;exact X)
end
section
variable {F c:Nat}{L0:List NB}{J Jx:List NB -> World -> Prop}
variable{pre:List NB}
theorem zpj(hY:Yd F c L0 J Jx){fr to bat:Nat}{rc:Bool}{bn:zU}{d x:Tw.T}(hD:Zc F c L0 J Jx d)(hX:Zc F c L0 J Jx x):Zc F c L0 J Jx (.Am fr to rc bn bat d x):=by
  intro w hi tv ev e pre L hn he hJ hp;obtain⟨b,v1,v2,L1,L2,⟨_,rfl,hb⟩,n1,n2,rfl⟩:=hn;have HJ:=bV hJ;have HP:=bV hp;have HP1:pre++L1 <+:L0:=by
    have⟨r,hr⟩:=hp;exact⟨L2++r,by rw[<-hr];simp[List.append_assoc]⟩
  obtain⟨T1,k1,rfl⟩:=n1.iface;obtain⟨T2,k2,rfl⟩:=n2.iface;have⟨c2,c3,c5,c6⟩:=Ba hb;obtain⟨a,rfl⟩:=he.ptr;have q0:=Ou;have q1:=Kn;have q2:=Ko;go_in;go_wp21;have D1:w.grownBy w.drew none:=Ad (Aa _);go_region_held3 (λW=>W.cell? (aD b 3)=some (ug bn)) (go_keep)
    (first
      |(go_at_call 161;refine(zct (he.grown D1) bn (aD b 3)).mono ?_;rintro e1 w2 ⟨sa,rfl,hg,hn⟩;have G2:zG w w2:=Ab D1 hg;have N2:=bV hn;have B2:=Ba ((Ab D1 hg).block b (zgE.1 hb).1 sM|>.trans hb);have⟨d2,d3,d5,d6⟩:=B2;clear hg hn))
  have key:∃iv,iv=(if rc then .pointer sa else .pointer a:Value)/\BAt w2 (if rc then .cons bn (aD b 3) e else e) iv:=by
    cases rc
    · exact⟨_,rfl,he.grown G2⟩
    · exact⟨_,rfl,uh N2⟩
  cases rc<;>(
    simp only[xA,if_false,if_true]at key n1;obtain⟨iv,rfl,hiv⟩:=key;have HIV:=bV hiv;go_wp21;go_call hD (n1.kp (Kp.Ae G2)) (uh HIV) (hY.grown (uh HJ) G2) HP1 as e1 w3 (⟨rfl,hj3,hk3⟩|⟨rfl,q,hq,hx⟩)
    · have J3:=hj3
      have K3:=(Kp.Ae G2).trans hk3;have N3:=(uh N2).kp hk3;have⟨g2,g3,g5,g6⟩:=Ba (K3 _ _ _ _ hb dZ);go_wp21;go_call hX (n2.kp K3) N3 J3 (by rw[wA];exact uh HP) as e1 w4 h4;obtain⟨bv,rfl,h4⟩:=h4.one;have X:EPost J Jx pre (L1++L2) w (.returned (.bool bv)) w4:=by
        rcases h4 with⟨h0,h1,h2⟩|⟨h0,q,hq,hx⟩
        · exact .inl ⟨h0,by rw[<-wA];exact h1,K3.trans h2⟩
        · refine .inr ⟨h0,L1++q,?_,by rw[<-wA];exact hx⟩
          have⟨r,hr⟩:=hq;exact⟨r,by rw[<-hr,wA]⟩
      go_wp21;go_ret;exact X
    · have X:EPost J Jx pre (L1++L2) w (.returned (.bool false)) w3:=by
        refine .inr ⟨rfl,q,?_,hx⟩;have⟨r,hr⟩:=hq;exact⟨r++L2,by rw[<-hr,wA]⟩
      go_wp21;go_ret;exact X)
theorem NL.zck{t:Tw.T}(h:Zc F c L0 J Jx t){w:World}{hi:Nat}{v ev:Value}{e:Tw.BEn}{L:List NB}(b:NL w hi t v e L)(d:BAt w e ev)(g:pre++L <+:L0):(∃T n,v=.iface T (pT n))/\zwg F c J Jx ev v w pre L:=
 ⟨b.iface,λ_ a f=>h (b.kp a) (d.kp a) f g⟩
theorem Pw{L1 L2:List NB}(h:pre++(L1++L2) <+:L0):pre++L1 <+:L0:=by
 have⟨r,a⟩:=h;exact⟨L2++r,by rw[<-a];simp[List.append_assoc]⟩
theorem Fv(g:Yd F c L0 J Jx):∀t:Tw.T,Zc F c L0 J Jx t
 |.name fr to x=>zmr g
 |.int fr to v=>by
  intro k e j h;obtain⟨⟨b,_,_,rfl,m⟩,rfl⟩:=k
  have:=Ia g (vs:=[]) (Ls:=[]) On Ng Nh (Xh _ b) e.ptr rfl sM sM j;simpa using this
 |.Ak fr to v=>by
  intro k e j h;obtain⟨⟨b,_,_,rfl,m⟩,rfl⟩:=k
  have:=Ia g (vs:=[]) (Ls:=[]) Li Mn Mo (Sd _ b) e.ptr rfl sM sM j;simpa using this
 |.side fr to v=>by
  intro k e j h;obtain⟨⟨b,_,_,rfl,m⟩,rfl⟩:=k
  have:=Ia g (vs:=[]) (Ls:=[]) Mp Oo Oq (Uw _ b) e.ptr rfl sM sM j;simpa using this
 |.bracket fr to i=>by
  intro k e j h;rename_i L;obtain⟨r,⟨b,_,_,rfl,m⟩,q⟩:=k;have l:=q.zck (Fv g i) e h
  have:=Ia g (vs:=[r]) (Ls:=[L]) Jd Ni Nj (Pm l.1 m) e.ptr rfl sM (by
   intro p o A
   match p,o with
   |0,_=>simpa[I8]using l) j
  simpa using this
 |.fn fr to bn bat b=>zpi g (Fv g b)
 |.Am fr to rc bn bat d b=>zpj g (Fv g d) (Fv g b)
 |.pair fr to a c=>by
  intro k e j h;obtain⟨r,z,s,w,⟨b,_,_,rfl,m⟩,q,y,rfl⟩:=k;have l:=q.zck (Fv g a) e (Pw h);have n:=y.zck (Fv g c) e (by rw[<-wA]at h;exact h)
  have:=Ia g (vs:=[r,z]) (Ls:=[s,w]) Mq Rt Ru (Ux l.1 n.1 m) e.ptr rfl sM (by
   intro p o A
   match p,o with
   |0,_=>simpa[I8]using l
   |1,_=>simpa[I8]using n) j
  simpa using this
 |.call fr to a c=>by
  intro k e j h;obtain⟨r,z,s,w,⟨b,_,_,rfl,m⟩,q,y,rfl⟩:=k;have l:=q.zck (Fv g a) e (Pw h);have n:=y.zck (Fv g c) e (by rw[<-wA]at h;exact h)
  have:=Ia g (vs:=[r,z]) (Ls:=[s,w]) Mr Rv Rw (Uy l.1 n.1 m) e.ptr rfl sM (by
   intro p o A
   match p,o with
   |0,_=>simpa[I8]using l
   |1,_=>simpa[I8]using n) j
  simpa using this
 |.binary fr to sg a c=>by
  intro k e j h;obtain⟨r,z,s,w,⟨b,_,_,rfl,m⟩,q,y,rfl⟩:=k;have l:=q.zck (Fv g a) e (Pw h);have n:=y.zck (Fv g c) e (by rw[<-wA]at h;exact h)
  have:=Ia g (vs:=[r,z]) (Ls:=[s,w]) Jv Pf Pg (Qm l.1 n.1 m) e.ptr rfl sM (by
   intro p o A
   match p,o with
   |0,_=>simpa[I8]using l
   |1,_=>simpa[I8]using n) j
  simpa using this
 |.cond fr to c t f=>by
  intro k e j h;obtain⟨r,z,G,s,w,C,⟨b,_,_,rfl,m⟩,q,y,E,rfl⟩:=k;have D:=Pw h;have l:=q.zck (Fv g c) e (Pw D);have n:=y.zck (Fv g t) e (by have:=Pw h;rw[<-wA]at this;exact this);have B:=E.zck (Fv g f) e (by rw[<-wA]at h;exact h)
  have:=Ia g (vs:=[r,z,G]) (Ls:=[s,w,C]) Qk Xc Xd (Z6 l.1 n.1 B.1 m) e.ptr rfl sM (by
   intro p o A
   match p,o with
   |0,_=>simpa[I8]using l
   |1,_=>simpa[I8]using n
   |2,_=>simpa[I8,List.append_assoc]using B) j
  simpa[List.append_assoc]using this
end
section
variable{l hi Bt:Nat}{L0:List NB}{J Jx:List NB->World->Prop}{w:World}{t:Tw.T}{tv:Value}
theorem zd5{m i:Nat}{P:Program}{args:Array Value}{W:World}{R:Ending->World->Prop}(h:YieldAt Fence.wide m P l args W R):YieldAt Fence.wide i P l args W R:=by
 have⟨f,j,b,d,g,a⟩:=h;exact⟨f,j,b,d,g,a.1,λc e _=>a.2 c e (room_wide _)⟩
structure ze8(l:Nat)(L0:List NB)(J Jx:List NB->World->Prop):Prop where
 grown:∀ {s:List NB} {W W':World},J s W->W.grownBy W' none->J s W'
 yield:∀(pre:List NB) (x:NB) (W:World),J pre W->(pre++[x]) <+:L0->YieldAt Fence.wide 0 prog l #[.pointer (some ⟨x.nb,0,none⟩),.pointer x.k] W fun e W'=>
  (e=.returned (.bool true)/\J (pre++[x]) W'/\Kp W W')\/(e=.returned (.bool false)/\Jx (pre++[x]) W')
abbrev zvw(l c:Nat)(W:World):Prop:=W.heap[c]?=some (.cells #[Ht l] 182 (0,0))
theorem ztq(e:ze8 l L0 J Jx)(c:Nat):Yd 85 c L0 (λp W=>J p W/\zvw l c W) Jx:=by
 refine⟨λB W=>rfl,λ{N W z} ⟨s,a⟩ f=>⟨e.grown s f,zbG f a⟩,?_⟩;rintro pre x w I ⟨o,a⟩ v r b;have⟨L,O,C,D,M,q⟩:=e.yield pre x w o v;have E:w.cell? ⟨x.nb,2,none⟩=some (ug x.tx):=zcR r;have F:w.cell? (aD c 0)=some (Ht l):=zcR a;obtain⟨i,rfl⟩:=b.ptr;have h:Calls prog 86 #[.pointer i,ug x.tx] w λy d=>(∃ok,y=.returned (.tuple #[.pointer x.k,.bool ok]))/\w=d:=by
  unfold NB.k;cases g:x.e.look x.tx with
  |none=>exact(zi0 b x.tx g).mono (by rintro j d ⟨rfl,rfl⟩;exact⟨⟨_,rfl⟩,rfl⟩)
  |some k=>exact(zmo b x.tx g).mono (by rintro j d ⟨rfl,rfl⟩;exact⟨⟨_,rfl⟩,rfl⟩)
 refine(callsIn_wide (n:=1)).1 ?_;refine callsIn_of_wp func85 rfl trivial ?_;simp[ntmps85,List.size_toArray,List.length_cons,List.length_nil,Nat.reduceAdd,Nat.reduceSub,Array.replicate_succ,Array.replicate_zero,List.push_toArray,List.append_toArray,List.nil_append,List.cons_append];gi_wp2_with ((try refine⟨trivial,?_⟩);gi_at_call 86;refine(callsIn_wide.2 h).mono ?_;rintro G P ⟨⟨ok,rfl⟩,rfl⟩)
 (try refine⟨λm=>(by cases m),?_⟩);refine q.mono ?_;rintro H A (⟨rfl,hJ2,hk2⟩|⟨rfl,hx2⟩)
 ·gi_wp2;go_ret;exact .inl ⟨rfl,⟨hJ2,hk2 _ _ _ _ a dZ⟩,hk2⟩
 ·gi_wp2;go_ret;exact .inr ⟨rfl,hx2⟩
theorem zi5(b:ze8 l L0 J Jx)(f:zH w Bt #[tv] 68)(c:NL w hi t tv .nil L0)(g:J [] w):
  Calls prog 83 #[Ht l,pT Bt] w λe w'=>e=.returned (.tuple #[])/\(J L0 w'\/∃q,q <+:L0/\Jx q w'):=by
 obtain⟨d,j,rfl⟩:=c.iface;have G:w.grownBy (w.alloc (.cells #[Ht l] 182)) none:=zwA _ _ none;have m:(w.alloc (.cells #[Ht l] 182)).cell? (aD Bt 0)=some (.iface d (pT j)):=zcR (zbG G f);go_in;go_wp21;go_call Fv (ztq b w.heap.size) t (c.kp (Kp.Ae G)) (show BAt _ .nil (.pointer none)from rfl) ⟨b.grown g G,Ac w _⟩ sM as e1 w1 a;obtain⟨k,rfl,a⟩:=a.one;have X:J L0 w1\/∃q,q <+:L0/\Jx q w1:=by
  rcases a with⟨_,⟨h,_⟩,_⟩|⟨_,q,i,h⟩
  ·exact .inl (by simpa using h)
  ·exact .inr ⟨q,i,by simpa using h⟩
 go_wp21;go_end0;exact⟨rfl,X⟩
abbrev zko(L0:List NB):={x:NB // x∈L0}
abbrev zwi(L0:List NB)(x:zko L0):Array Value:=#[.pointer (some ⟨x.1.nb,0,none⟩),.pointer x.1.k]
theorem Ys{n:Nat}(m:zH w Bt #[tv] 68)(y:NL w hi t tv .nil L0):
  SeqStopsK Fence.wide n prog 83 #[pT Bt] (zwi L0) Kp (λA=>A.map (·.1)=L0) (λpre=>pre.map (·.1) <+:L0) L0.length w:=by
 intro l J Jx W q o B r j;have g:Kp w W:=λk c t C x _=>(q.block k (zgE.1 x).1).trans x;have Y:ze8 l L0 (λpre W=>∃p:List (zko L0),p.map (·.1)=pre/\J p W) (λpre W=>∃p:List (zko L0),p.map (·.1)=pre/\Jx p W):=by
  refine⟨λ{F W b} ⟨p,d,a⟩ s=>⟨p,d,o p W b none a s (λE e=>by cases e)⟩,?_⟩;rintro pre x i ⟨p,rfl,a⟩ h;have f:x∈L0:=h.subset sM;have v:p.length<L0.length:=by
   have:=h.length_le;simp at this;omega
  refine zd5 (YieldAt.mono (r p ⟨x,f⟩ i a v) ?_);rintro e b (⟨he,hj',hk⟩|⟨he,hj'⟩)
  ·exact .inl ⟨he,⟨p++[⟨x,f⟩],sM,hj'⟩,hk⟩
  ·exact .inr ⟨he,⟨p++[⟨x,f⟩],sM,hj'⟩⟩
 refine callsIn_wide.2 ((zi5 Y (g _ _ _ _ m dZ) (y.kp g) ⟨[],rfl,j⟩).mono ?_);rintro e b ⟨rfl,⟨p,d,a⟩|⟨D,z,p,rfl,a⟩⟩
 ·exact⟨⟨_,rfl⟩,.inl ⟨p,d,a⟩⟩
 ·exact⟨⟨_,rfl⟩,.inr ⟨p,z,a⟩⟩
theorem zcv(w:World)(a:∃T n,tv=.iface T (pT n)):
  Calls prog 48 #[tv] w λe w'=>e=.returned (.func (.func 83) #[] #[pT w.heap.size])/\w'=w.alloc (.cells #[tv] 68):=by
 obtain⟨b,c,rfl⟩:=a;go_in;go_wp21;go_ret;exact⟨rfl,rfl⟩
end
section
variable{w w':World}
attribute [local go_sem] Oper.semAt_some
theorem zms{n:Nat}{P:Program}{b:Type}{g:Operand}{p q d1 d2:Tmp}{k body:Code}{Q:Exit->Act->World->Prop}{a:Act}
  (v:1<=n) {h:Nat} {m:Array Value} (M:a.eval g=.func (.func h) #[] m) (s:∀args w,(callFunc h args).run P w=.ok (.enter h args) w)
  {d e :b -> Value} {Kp:World->World->Prop} {S j:List b -> Prop} {N:Nat} {i:World} (O:SeqStopsK Fence.wide (n-1) P h m (λx=>#[d x,e x]) Kp S j N i)
  (F:∀ {A B C:World},Kp A B->Kp B C->Kp A C) (E:∀(W:World) (l:Nat) (o T:Obj),w.heap.size<=l->W.heap[l]?=some o->o.isCells=false->o.isWalk=false->Kp W (W.putObj l T)) (H:Below i.heap.size i w)
  (I:List b -> World->Prop) (f:Code->List b -> World->Prop) (y:OwnFrom w.heap.size I) (z:∀c,OwnFrom w.heap.size (f c)) (t:I [] w)
  (G:∀(l:Nat) (x :b) (W:World) (K:Act->World->Prop),K {tmps:=(((a.tmps.setIfInBounds p (d x)).setIfInBounds q (e x)).setIfInBounds d1 (d x)).setIfInBounds d2 (e x),defers:=[]} W ->
   k.wpIn (Fence.wide.inRound l) (n-1-1) P (Exit.then K (λ_ _ _=>False)) {tmps:=(a.tmps.setIfInBounds p (d x)).setIfInBounds q (e x),defers:=[]} W)
  (J:∀(l:Nat) (pre:List b) (x :b) (W:World),I pre W->pre.length<N->body.wpIn (Fence.wide.inRound l) (n-1-1) P (ownPostK Kp I f (pre++[x]) W) {tmps:=(((a.tmps.setIfInBounds p (d x)).setIfInBounds q (e x)).setIfInBounds d1 (d x)).setIfInBounds d2 (e x),defers:=[]} W)
  (L:∀(D:Nat) (r:List b) (W:World),w.heap.size<=D->S r->I r W->W.heap[D]?=some (.deferred (some []))->Q .normal {a with defers:={target:=.collected D,args:=#[]}::a.defers} W)
  (R:∀(D:Nat) (c:Code) (pre:List b) (W:World),w.heap.size<=D->j pre->f c pre W->W.heap[D]?=some (.deferred (some []))->c.wpIn Fence.wide n P Q {a with defers:={target:=.collected D,args:=#[]}::a.defers} W) :
  (Code.rangeFunc g #[p,q] k body).wpIn Fence.wide n P Q a w:=
 wpIn_rangeFunc_ownF rfl v M trivial s O F E H (λ_=>rfl) I f y z t (λx=>{tmps:=(((a.tmps.setIfInBounds p (d x)).setIfInBounds q (e x)).setIfInBounds d1 (d x)).setIfInBounds d2 (e x),defers:=[]})
  (λl x W K hK=>by simpa using G l x W K hK) J L R
theorem zpk(W:World)(l:Nat)(o b:Obj)(_:w.heap.size<=l)(h:W.heap[l]?=some o)(a:o.isCells=false)(_:o.isWalk=false):Kp W (W.putObj l b):=by
 intro k c t m x _;have:l≠k:=by
  intro e;subst e;rw[h]at x;cases x;simp[Obj.isCells]at a
 rw[World.putObj,Array.getElem?_setIfInBounds_ne this];exact x
def zrf(S:List TypeId)(t:Tw.T)(shown:zU):Prop:=∀(w:World) (b:Nat) (a:Value),Rep w 0 b t a->Calls prog 34 #[a] w λe w'=>e=.returned (.tuple #[ug shown,.bool true])/\TK w.heap.size S w w'
theorem Ll{l:zU}:∀(fuel k:Nat) (b a:List Tw.Tok),Ct l fuel k b=.ok a->b.length<=k->k<=l.length->0<a.length/\a.length<=l.length+1
 |0,_,_,_,h,_,_=>by simp[Ct]at h
 |n+1,k,b,a,h,ha,hk=>by
  rw[Ct]at h;split at h
  ·rename_i g;have c:0<(l.drop k).length:=(by simp;omega);have e:=Vj (l.drop k) c;have d:=Tf (l.drop k) c;simp[List.length_drop]at e d;split at h
   ·exact Ll n _ _ _ h oM oM
   ·split at h
    ·cases h
    ·rename_i f;exact Ll n _ _ _ h (by simp;omega) oM
  ·cases h;simp;omega
theorem zcw{l:zU}{a:List Tw.Tok}(h:split l=.ok a)(b:l.length<=300):0<a.length/\a.length<=301:=by
 have:=Ll _ _ _ _ h sM oM;omega
theorem Jz(h:Below w.heap.size w w'):zG w w':=⟨h.os,h.tape,h.output,h.size,λk a _=>h.block k a⟩
theorem Rep.kp{w w':World}{lo hi:Nat}(a:Kp w w'):∀ {t:Tw.T} {v:Value},Rep w lo hi t v->Rep w' lo hi t v
 |.name ..,_,h=>nodeAt.kp h a dZ
 |.int ..,_,h=>nodeAt.kp h a dZ
 |.Ak ..,_,h=>nodeAt.kp h a dZ
 |.side ..,_,h=>nodeAt.kp h a dZ
 |.bracket ..,_,⟨v1,h,r1⟩=>⟨v1,h.kp a dZ,Rep.kp a r1⟩
 |.pair ..,_,⟨v1,v2,h,r1,r2⟩=>⟨v1,v2,h.kp a dZ,Rep.kp a r1,Rep.kp a r2⟩
 |.call ..,_,⟨v1,v2,h,r1,r2⟩=>⟨v1,v2,h.kp a dZ,Rep.kp a r1,Rep.kp a r2⟩
 |.binary ..,_,⟨v1,v2,h,r1,r2⟩=>⟨v1,v2,h.kp a dZ,Rep.kp a r1,Rep.kp a r2⟩
 |.cond ..,_,⟨v1,v2,v3,h,r1,r2,r3⟩=>⟨v1,v2,v3,h.kp a dZ,Rep.kp a r1,Rep.kp a r2,Rep.kp a r3⟩
 |.fn ..,_,⟨v1,h,r1⟩=>⟨v1,h.kp a dZ,Rep.kp a r1⟩
 |.Am ..,_,⟨v1,v2,h,r1,r2⟩=>⟨v1,v2,h.kp a dZ,Rep.kp a r1,Rep.kp a r2⟩
theorem TK.kp{B:Nat}{S:List TypeId}(h:TK B S w w')(a:Su.all (λt=>!S.contains t)=true):Kp w w':=λ_ _ t _ x y=>
 h.cells x (by have:=List.all_eq_true.1 a t (by simpa using y);simpa using this)
theorem Hg{b:Nat}{x:Value}{t:TypeId}(h:zH w b #[x] t):w.cell? (aD b 0)=some x/\w.frozen? (aD b 0)=false:=by
 refine⟨?_,eB _ _ _ _ _ h⟩;rw[mB w b _ _ _ _ h];rfl
end
end
abbrev pD:=@List.cons_append
abbrev rD:=@List.nil_append
abbrev zD:=@List.length_nil
section
open Tw Go.Proofs.Tryz
open Go.RowKit Go.Shelf
section
variable{w W:World}{b p:Nat}{x y z:Value}
attribute [local go_sem] Oper.semAt_some
def Sy(w W:World)(b:Nat)(x y z:Value):Prop:=W.heap[b]?=some (.cells #[x] 68 (0,0))/\W.heap[b+1]?=some (.cells #[y] 27 (0,0))/\W.heap[b+2]?=some (.cells #[z] 3 (0,0))/\b=w.heap.size
theorem Z8(w:World):∃a,((w.alloc (.cells #[.nilIface] 68)).alloc (.cells #[vI 0] 27)).alloc (.cells #[vI 0] 3)=a/\zG w a/\a.heap.size=w.heap.size+3/\Sy w a w.heap.size .nilIface (vI 0) (vI 0):=by
 refine⟨_,rfl,Aj (Aj (Aj (Aa _) _) _) _,sM,?_,?_,?_,rfl⟩
 ·exact(Below.heap_alloc _ _ _ (by simp;omega)).trans ((Below.heap_alloc _ _ _ sM).trans (Ac w _))
 ·have:=Ac (w.alloc (.cells #[.nilIface] 68)) (.cells #[vI 0] 27);rw[World.size_alloc]at this;exact(Below.heap_alloc _ _ _ sM).trans this
 ·have:=Ac ((w.alloc (.cells #[.nilIface] 68)).alloc (.cells #[vI 0] 27)) (.cells #[vI 0] 3);rw[World.size_alloc,World.size_alloc]at this;exact this
theorem Sy.kept{W':World}(h:Sy w W b x y z)(a:∀ {k:Nat} {o:Obj},k<b+3->W.heap[k]?=some o->W'.heap[k]?=some o):Sy w W' b x y z:=
 ⟨a oM h.1,a oM h.2.1,a oM h.2.2.1,h.2.2.2⟩
theorem Sy.set(h:Sy w W b x y z)(c d e:Value):∃a,((W.setCell (aD b 0) c).setCell ⟨b+1,0,none⟩ d).setCell ⟨b+1+1,0,none⟩ e=a/\Sy w a b c d e/\(∀k,k≠b->k≠b+1->k≠b+2->a.heap[k]?=W.heap[k]?)/\a.heap.size=W.heap.size/\a.os=W.os/\a.tape=W.tape/\a.output=W.output:=by
 refine⟨_,rfl,⟨?_,?_,?_,h.2.2.2⟩,λk f g i=>?_,sM,rfl,rfl,rfl⟩
 ·rw[aA _ _ _ _ (by simp;omega),aA _ _ _ _ sM,cD _ _ _ _ _ _ h.1];rfl
 ·rw[aA _ _ _ _ sM,cD _ _ _ _ _ _ (by rw[aA _ _ _ _ sM];exact h.2.1)];rfl
 ·show(World.setCell _ ⟨b+1+1,0,none⟩ _).heap[b+1+1]?=_;rw[cD _ _ _ _ _ _ (by rw[aA _ _ _ _ sM,aA _ _ _ _ (by simp;omega)];exact h.2.2.1)];rfl
 ·rw[aA _ _ _ _ (by simp;omega),aA _ _ _ _ (by simp;omega),aA _ _ _ _ (by simp;omega)]
theorem Sy.cells(h:Sy w W b x y z):(W.cell? (aD b 0)=some x/\W.frozen? (aD b 0)=false)/\(W.cell? ⟨b+1,0,none⟩=some y/\W.frozen? ⟨b+1,0,none⟩=false)/\W.cell? ⟨b+1+1,0,none⟩=some z/\W.frozen? ⟨b+1+1,0,none⟩=false:=
 ⟨Hg h.1,Hg h.2.1,Hg h.2.2.1⟩
theorem Sy.grown{a:World}(h:Sy w W b x y z)(c:zG w W)(j:∀k,k≠b->k≠b+1->k≠b+2->a.heap[k]?=W.heap[k]?)(l:a.heap.size=W.heap.size)(d:a.os=W.os)(e:a.tape=W.tape)(f:a.output=W.output):zG w a:=
 ⟨d.trans c.os,e.trans c.tape,f.trans c.output,by rw[l];exact c.size,λk g i=>by have:=h.2.2.2;rw[j k oM oM oM];exact c.block k g i⟩
theorem zi6(r:Ew.Hs)(s:ByteArray)(B:s.size<=300)(l:split s.data.toList=.error p)(w:World):
  Calls prog 32 #[.string s] w λe w'=>e=.returned (.tuple #[.nilIface,vI 2,vI p])/\zG w w':=by
 refine(callsIn_wide (n:=3)).1 ?_;refine callsIn_of_wp_marks func32 rfl trivial ?_;simp only[ntmps32,List.size_toArray,zB,zD,Nat.reduceAdd,Nat.reduceSub,Array.replicate_succ,Array.replicate_zero,List.push_toArray,List.append_toArray,rD,pD];have⟨d,Q,v,R,m⟩:=Z8 w;gi_wp2_with fail;refine⟨trivial,?_⟩;refine(callsIn_wide.2 (Wz r s d B)).mono ?_;rintro f H ⟨g,c⟩;rw[l]at c;dsimp only at c;subst c;have i:=Ab v (Jz g);have D:∀ {b:Nat} {o:Obj},d.heap[b]?=some o->H.heap[b]?=some o:=λ{b o} h=>by
  rw[g.block b (zgE.1 h).1];exact h
 have a:=m.kept (λ_ h=>D h);have⟨⟨J,N⟩,⟨L,O⟩,M,P⟩:=a.cells;gi_wp2_with fail;have⟨I,t,q,A,C,E,F,G⟩:=a.set .nilIface (vI 2) (vI p);rw[t];have⟨⟨f,_⟩,⟨j,_⟩,k,_⟩:=q.cells;refine⟨.tuple #[.nilIface,vI 2,vI p],by simp[results,results32,go_sem,f,j,k],rfl,?_⟩;exact a.grown i A C E F G
theorem zmt(hIB:Ew.Hs)(hPI:Ew.Ho)(s:ByteArray)(hs:s.size<=300){ts:List Tw.Tok}(h1:split s.data.toList=.ok ts){fuel:Nat}(h2:Gj s.data.toList ts fuel=some (.error p))(w:World):
  Calls prog 32 #[.string s] w λe w'=>e=.returned (.tuple #[.nilIface,vI 3,vI p])/\zG w w':=by
 refine(callsIn_wide (n:=3)).1 ?_;refine callsIn_of_wp_marks func32 rfl trivial ?_;simp only[ntmps32,List.size_toArray,zB,zD,Nat.reduceAdd,Nat.reduceSub,Array.replicate_succ,Array.replicate_zero,List.push_toArray,List.append_toArray,rD,pD];have⟨W0,hW0,hg0,z0,hC0⟩:=Z8 w;gi_wp2_with fail;refine⟨trivial,?_⟩;refine(callsIn_wide.2 (Wz hIB s W0 hs)).mono ?_;rintro e1 w1 ⟨hB1,hm⟩;rw[h1]at hm;obtain⟨v,rfl,ho⟩:=hm;have hts:=zcw h1 (by simpa using hs);obtain⟨gt,cap,cur,rfl,hgt,hTR⟩:=zbm.zkx ho hts.1 hts.2;gi_wp2_with fail;refine⟨trivial,?_⟩;refine(callsIn_wide.2 (zfi hPI hTR s hs h2)).mono ?_;rintro e1 w2 ⟨hg,rfl⟩;have G2:=Ab hg0 (Ab (Jz hB1) hg);have key:∀ {b:Nat} {o:Obj},W0.heap[b]?=some o->w2.heap[b]?=some o:=λ{b o} h=>by
  have hb:=(zgE.1 h).1;rw[hg.block b (by have:=hB1.size;omega) sM,hB1.block b hb];exact h
 have C1:=hC0.kept (λ_ h=>key h);have⟨⟨b1,f1⟩,⟨b2,f2⟩,b3,f3⟩:=C1.cells;gi_wp2_with fail;have⟨W6,hW6,hC6,ho,hsz,o1,o2,o3⟩:=C1.set .nilIface (vI 3) (vI p);rw[hW6];have⟨⟨e1,_⟩,⟨e2,_⟩,e3,_⟩:=hC6.cells;refine⟨.tuple #[.nilIface,vI 3,vI p],by simp[results,results32,go_sem,e1,e2,e3],rfl,?_⟩;exact C1.grown G2 ho hsz o1 o2 o3
end
end
namespace Tw
section
open Go
def T.freeS:T->List zU->Option Nat
 |.name fr _ x,env=>if env.contains x then none else some fr
 |.int ..,_=>none
 |.Ak ..,_=>none
 |.side ..,_=>none
 |.bracket _ _ i,env=>i.freeS env
 |.pair _ _ l r,env=>(l.freeS env).or (r.freeS env)
 |.call _ _ l r,env=>(l.freeS env).or (r.freeS env)
 |.binary _ _ _ l r,env=>(l.freeS env).or (r.freeS env)
 |.cond _ _ c t f,env=>((c.freeS env).or (t.freeS env)).or (f.freeS env)
 |.fn _ _ bn _ b,env=>b.freeS (bn::env)
 |.Am _ _ rc bn _ d b,env=>(d.freeS (if rc then bn::env else env)).or (b.freeS (bn::env))
inductive RR where
 |fault (k:Nat) (p:Nat)
 |Ja (t:T) (shown:List UInt8)
def Oa(fuel:Nat)(t:T):Option RR:=
 match t.freeS []with
 |some p=>some (.fault 4 p)
 |none=>(Ah t .nil).bind λk=>if 2000<k then some (.fault 10 0)else(ofS fuel t).bind λo=>
  match o with
  |none=>some (.fault 5 0)
  |some sh=>some (.Ja t sh)
def Un(b a:Nat)(l:zU):Option RR:=
 match split l with
 |.error p=>some (.fault 2 p)
 |.ok ts=>(Gj l ts b).bind λr=>
  match r with
  |.error p=>some (.fault 3 p)
  |.ok t=>Oa a t
end
section
open Go Go.RowKit
section
variable{st:SS}{r:Nat}{f:Nat->Nat}
def Oi(a:List Nat)(r:Nat):Nat×List Nat:=
 match idxS r a 0 with
 |some i=>(i,a)
 |none=>(a.length,a++[r])
def Ty.tsort:Ty->Int
 |.var _=>0
 |.int=>1
 |.bool=>2
 |.fn .. =>3
 |.pair .. =>4
def brk(b:Bool)(w:List Nat×zU->List Nat×zU)(s:List Nat×zU):List Nat×zU:=
 if b then((w (s.1,Ei 400 s.2 [40])).1,Ei 400 (w (s.1,Ei 400 s.2 [40])).2 [41])else w s
def wrT:Ty->List Nat×zU->List Nat×zU
 |.var p,s=>if 400<s.2.length then s else((Oi s.1 p).2,Ei 400 s.2 (Hl (Oi s.1 p).1))
 |.int,s=>if 400<s.2.length then s else(s.1,Ei 400 s.2 [105,110,116])
 |.bool,s=>if 400<s.2.length then s else(s.1,Ei 400 s.2 [98,111,111,108])
 |.fn a b,s=>if 400<s.2.length then s else wrT b ((brk (a.tsort==3) (wrT a) s).1,Ei 400 (brk (a.tsort==3) (wrT a) s).2 [32,45,62,32])
 |.pair a b,s=>if 400<s.2.length then s else brk (b.tsort==3||b.tsort==4) (wrT b) ((brk (a.tsort==3||a.tsort==4) (wrT a) s).1,Ei 400 (brk (a.tsort==3||a.tsort==4) (wrT a) s).2 [32,42,32])
def Ty.shown(a:Ty):zU:=Lx 400 (wrT a ([],[])).2
theorem Nt(c:Nat)(a b:zU):a.length<=(Ei c a b).length/\(¬c<a.length->(Ei c a b).length=a.length+b.length):=by
 unfold Ei;split
 ·exact⟨znL _,λh=>absurd (by assumption) h⟩
 ·exact⟨sM,λ_=>sM⟩
theorem Gm.zr4{a:Ty}(h:Gm st r a):∃p x,Aw st r p/\st.shs[p]?=some x/\x.sort=a.tsort:=by
 cases h with
 |var hr hx hs=>exact⟨_,_,hr,hx,hs⟩
 |int hr hx hs=>exact⟨_,_,hr,hx,hs⟩
 |bool hr hx hs=>exact⟨_,_,hr,hx,hs⟩
 |fn hr hx hs=>exact⟨_,_,hr,hx,hs⟩
 |pair hr hx hs=>exact⟨_,_,hr,hx,hs⟩
theorem Gm.lt{a:Ty}(h:Gm st r a):r<st.shs.length:=by
 obtain⟨p,x,b,_⟩:=h.zr4;exact b.lt.1
theorem Sf{a:Ty}(W:st.Wf f)(h:Gm st r a):∃b st',(∀n,b<=n->Mt n st r=some (a.tsort,st'))/\st'.Wf f/\st.Sim st':=by
 obtain⟨b,p,st',g,l,c,S⟩:=Lj W h.lt;obtain⟨o,x,d,i,j⟩:=h.zr4
 have:=d.unique l;subst this;obtain⟨y,m,e,_⟩:=S.shape _ _ i;refine⟨b,st',λn k=>?_,c,S⟩;unfold Mt;rw[g n k];simp only[zbS];rw[m];simp only[zbS];rw[e,j]
def Fits(s:List Nat×zU):Prop:=2*s.1.length<=s.2.length
def zv6(f:Nat->Nat)(a:Ty):Prop:=∀ {st:SS} {r:Nat} {s:List Nat×zU},st.Wf f->Gm st r a->Fits s ->
 ∃c b,(∀n,c<=n->Em n ⟨st,s.1,s.2⟩ r=some ⟨b,(wrT a s).1,(wrT a s).2⟩)/\b.Wf f/\st.Sim b/\Fits (wrT a s)
theorem Xl{a:Ty}(h:zv6 f a)(b:Bool){s:List Nat×zU}(W:st.Wf f)(e:Gm st r a)(i:Fits s):
  ∃c st',(∀n,c<=n->Q6 n ⟨st,s.1,s.2⟩ r b=some ⟨st',(brk b (wrT a) s).1,(brk b (wrT a) s).2⟩)/\st'.Wf f/\st.Sim st'/\Fits (brk b (wrT a) s):=by
 cases b with
 |false=>
  obtain⟨c,st',g,d,S,F⟩:=h W e i;refine⟨c+1,st',λn j=>?_,d,S,F⟩;obtain⟨m,rfl⟩:∃m,n=m+1:=⟨n-1,oM⟩;rw[Q6];exact g m oM
 |true=>
  have k:Fits (s.1,Ei 400 s.2 [40]):=by
   have:=(Nt 400 s.2 [40]).1;unfold Fits at i ⊢;simp only;omega
  obtain⟨c,st',g,d,S,F⟩:=h W e k;refine⟨c+1,st',λn j=>?_,d,S,?_⟩
  ·obtain⟨m,rfl⟩:∃m,n=m+1:=⟨n-1,oM⟩;rw[Q6];simp only[if_true];rw[g m oM];rfl
  ·have:=(Nt 400 (wrT a (s.1,Ei 400 s.2 [40])).2 [41]).1;unfold Fits at F ⊢;simp only[brk,if_true];omega
theorem zsb{a:List Nat}(h:a.length<=2000):Q4 a r=some (Oi a r):=by
 unfold Q4 Oi;cases idxS r a 0 with
 |some i=>rfl
 |none=>simp only;rw[mA h]
theorem Z9(a:List Nat)(r:Nat):(Oi a r).2.length<=a.length+1:=by
 unfold Oi;cases idxS r a 0 with
 |some i=>simp
 |none=>simp
theorem zmu(k:Nat):2<=(Hl k).length:=by
 unfold Hl;simp
theorem zi7(f:Nat->Nat):∀a:Ty,zv6 f a:=by
 intro a
 induction a with
 |var q=>
  intro st r s W e d;by_cases c:400<s.2.length
  ·refine⟨1,st,λn j=>?_,W,.refl _,by simp only[wrT,mA c];exact d⟩;obtain⟨m,rfl⟩:∃m,n=m+1:=⟨n-1,oM⟩;simp only[Em,wrT,mA c]
  obtain⟨o,p,z,i,k,w,S⟩:=Lj W e.lt;cases e with
  |var hr' hx hs0=>
   have:=hr'.unique k;subst this;obtain⟨y,l,h,_⟩:=S.shape _ _ hx;have hl:s.1.length<=2000:=(by unfold Fits at d;omega);refine⟨o+1,z,λn j=>?_,w,S,?_⟩
   ·obtain⟨m,rfl⟩:∃m,n=m+1:=⟨n-1,oM⟩;simp only[Em,wrT,jA c];rw[i m oM];simp only[zbS];rw[l];simp only[zbS];rw[mA (h.trans hs0),zsb hl];rfl
   ·have h1:=Z9 s.1 q;have T:=(Nt 400 s.2 (Hl (Oi s.1 q).1)).2 c;have h3:=zmu (Oi s.1 q).1;unfold Fits at d ⊢;simp only[wrT,jA c];omega
 |int=>
  intro st r s W e d;by_cases c:400<s.2.length
  ·refine⟨1,st,λn j=>?_,W,.refl _,by simp only[wrT,mA c];exact d⟩;obtain⟨m,rfl⟩:∃m,n=m+1:=⟨n-1,oM⟩;simp only[Em,wrT,mA c]
  obtain⟨o,p,z,i,k,w,S⟩:=Lj W e.lt;cases e with
  |int hr' hx hs0=>
   have:=hr'.unique k;subst this;obtain⟨y,l,h,_⟩:=S.shape _ _ hx;refine⟨o+1,z,λn j=>?_,w,S,?_⟩
   ·obtain⟨m,rfl⟩:∃m,n=m+1:=⟨n-1,oM⟩;simp only[Em,wrT,jA c];rw[i m oM];simp only[zbS];rw[l];simp only[zbS];rw[jA oM,mA (h.trans hs0)]
   ·have T:=(Nt 400 s.2 [105,110,116]).1;unfold Fits at d ⊢;simp only[wrT,jA c];omega
 |bool=>
  intro st r s W e d;by_cases c:400<s.2.length
  ·refine⟨1,st,λn j=>?_,W,.refl _,by simp only[wrT,mA c];exact d⟩;obtain⟨m,rfl⟩:∃m,n=m+1:=⟨n-1,oM⟩;simp only[Em,wrT,mA c]
  obtain⟨o,p,z,i,k,w,S⟩:=Lj W e.lt;cases e with
  |bool hr' hx hs0=>
   have:=hr'.unique k;subst this;obtain⟨y,l,h,_⟩:=S.shape _ _ hx;refine⟨o+1,z,λn j=>?_,w,S,?_⟩
   ·obtain⟨m,rfl⟩:∃m,n=m+1:=⟨n-1,oM⟩;simp only[Em,wrT,jA c];rw[i m oM];simp only[zbS];rw[l];simp only[zbS];rw[jA oM,jA oM,mA (h.trans hs0)]
   ·have T:=(Nt 400 s.2 [98,111,111,108]).1;unfold Fits at d ⊢;simp only[wrT,jA c];omega
 |fn a b iha ihb=>
  intro st r s W e d;by_cases c:400<s.2.length
  ·refine⟨1,st,λn j=>?_,W,.refl _,by simp only[wrT,mA c];exact d⟩;obtain⟨m,rfl⟩:∃m,n=m+1:=⟨n-1,oM⟩;simp only[Em,wrT,mA c]
  obtain⟨o,p,A,i,k,E,g⟩:=Lj W e.lt;cases e with
  |fn hr' hx hs0 ha hb=>
   have:=hr'.unique k;subst this;obtain⟨y,l,h,I,J⟩:=g.shape _ _ hx;have x:Gm A y.left a:=(by rw[I];exact ha.sim g);have C:Gm A y.right b:=(by rw[J];exact hb.sim g);obtain⟨P,a0,L,F,t⟩:=Sf E x;obtain⟨Q,a1,M,G,v,D⟩:=Xl iha (a.tsort==3) F (x.sim t) d;have O:Fits ((brk (a.tsort==3) (wrT a) s).1,Ei 400 (brk (a.tsort==3) (wrT a) s).2 [32,45,62,32]):=by
    have:=(Nt 400 (brk (a.tsort==3) (wrT a) s).2 [32,45,62,32]).1;unfold Fits at D ⊢;simp only;omega
   obtain⟨R,U,N,H,B,V⟩:=ihb G ((C.sim t).sim v) O;refine⟨max (max o P) (max Q R)+1,U,λn j=>?_,H,((g.trans t).trans v).trans B,by simp only[wrT,jA c];exact V⟩;obtain⟨m,rfl⟩:∃m,n=m+1:=⟨n-1,oM⟩;simp only[Em,wrT,jA c];rw[i m oM];simp only[zbS];rw[l];simp only[zbS];rw[jA oM,jA oM,jA oM,mA (h.trans hs0),L m oM];simp only[zbS];rw[M m oM];simp only[zbS];exact N m oM
 |pair a b iha ihb=>
  intro st r s W e d;by_cases c:400<s.2.length
  ·refine⟨1,st,λn j=>?_,W,.refl _,by simp only[wrT,mA c];exact d⟩;obtain⟨m,rfl⟩:∃m,n=m+1:=⟨n-1,oM⟩;simp only[Em,wrT,mA c]
  obtain⟨o,p,A,i,k,E,g⟩:=Lj W e.lt;cases e with
  |pair hr' hx hs0 ha hb=>
   have:=hr'.unique k;subst this;obtain⟨y,l,h,I,J⟩:=g.shape _ _ hx;have x:Gm A y.left a:=(by rw[I];exact ha.sim g);have C:Gm A y.right b:=(by rw[J];exact hb.sim g);obtain⟨P,a0,L,F,t⟩:=Sf E x;obtain⟨Q,a1,M,G,v,D⟩:=Xl iha (a.tsort==3||a.tsort==4) F (x.sim t) d;have O:Fits ((brk (a.tsort==3||a.tsort==4) (wrT a) s).1,Ei 400 (brk (a.tsort==3||a.tsort==4) (wrT a) s).2 [32,42,32]):=by
    have:=(Nt 400 (brk (a.tsort==3||a.tsort==4) (wrT a) s).2 [32,42,32]).1;unfold Fits at D ⊢;simp only;omega
   obtain⟨R,U,N,H,B⟩:=Sf G ((C.sim t).sim v);obtain⟨n5,a2,g5,Z,Y,X⟩:=Xl ihb (b.tsort==3||b.tsort==4) H (((C.sim t).sim v).sim B) O;refine⟨max (max o P) (max Q (max R n5))+1,a2,λn j=>?_,Z,(((g.trans t).trans v).trans B).trans Y,by simp only[wrT,jA c];exact X⟩;obtain⟨m,rfl⟩:∃m,n=m+1:=⟨n-1,oM⟩;simp only[Em,wrT,jA c];rw[i m oM];simp only[zbS];rw[l];simp only[zbS];rw[jA oM,jA oM,jA oM,jA oM,mA (h.trans hs0),L m oM];simp only[zbS];rw[M m oM];simp only[zbS];rw[N m oM];simp only[zbS];exact g5 m oM
theorem zd6{t:T}{w:Nat}(x:Ah t .nil=some w)(q:w<=2000):∃c g,(∀n,c<=n->ofS n t=some g)/\((g=none/\∀a,¬Typ t .nil a)\/∃a,g=some a.shown/\Ws t a):=by
 obtain⟨c,r,st,m,h⟩:=ziw x q;have i:∀n,c<=n->ofS n t=if st.Ar then some none else(Ss n st).bind λe=>if e.1 then some none else(Em n ⟨e.2,[],[]⟩ r).bind λz=>some (some (Lx 400 z.acc)):=λn b=>by
  unfold ofS
  have:=m n b;unfold ss2 at this;rw[this];rfl
 rcases h with⟨d,b⟩|⟨d,e,A,j,h⟩
 ·exact⟨c,none,λn b=>by rw[i n b,d];rfl,.inl ⟨rfl,b⟩⟩
 ·rcases h with⟨rfl,b⟩|⟨rfl,⟨f,l⟩,a,p,v⟩
  ·exact⟨c,none,λn k=>by rw[i n k,d,j n k];rfl,.inl ⟨rfl,b⟩⟩
  ·obtain⟨y,B,o,_⟩:=zi7 f a l p (s:=([],[])) (by simp[Fits]);refine⟨max c y,some a.shown,λn b=>?_,.inr ⟨a,rfl,v⟩⟩;rw[i n oM,d,j n oM];simp only[xA,if_false,zbS]
   have:=o n oM;simp only at this;rw[this];rfl
end
end
end Tw
abbrev xB:=@List.mem_singleton
section
open Tw Go.Proofs.Tryz
open Go.RowKit Go.Shelf
section
variable{w:World}{fp:Nat}{res:Tw.RR}
attribute [local go_sem] Oper.semAt_some
def FreeAt(L:List NB):Option Nat->Prop
 |none=>∀y∈L,∃a,y.k=some a
 |some p=>∃pre y post,L=pre++y::post/\(∀z∈pre,∃a,z.k=some a)/\y.k=none/\y.fr=p
theorem FreeAt.append{L1 L2:List NB}{b c:Option Nat}(a:FreeAt L1 b)(d:FreeAt L2 c):FreeAt (L1++L2) (b.or c):=by
 cases b with
 |some p=>
  obtain⟨pre,y,post,rfl,h⟩:=a;exact⟨pre,y,post++L2,sM,h⟩
 |none=>
  cases c with
  |none=>exact λy f=>(zmA.1 f).elim (a y) (d y)
  |some p=>
   obtain⟨pre,y,post,rfl,h,e⟩:=d;exact⟨L1++pre,y,post,sM,λz g=>(zmA.1 g).elim (a z) (h z),e⟩
def zt1(env:List zU)(e:Tw.BEn):Prop:=∀x,env.contains x=true↔∃a,e.look x=some a
theorem zt1.cons{env:List zU}{e:Tw.BEn}(h:zt1 env e)(bn:zU)(k:Addr):zt1 (bn::env) (.cons bn k e):=by
 intro x;simp only[Tw.BEn.look,List.contains_cons,Bool.or_eq_true,beq_iff_eq];by_cases b:bn=x
 ·simp[b]
 ·rw[jA b];constructor
  ·rintro(a|a)
   ·exact absurd a.symm b
   ·exact(h x).1 a
  ·exact λa=>.inr ((h x).2 a)
theorem NL.free{w:World}{hi:Nat}:∀ {t:Tw.T} {v:Value} {e:Tw.BEn} {L:List NB} {env:List zU},NL w hi t v e L->zt1 env e->FreeAt L (t.freeS env)
 |.name fr to x,_,e,_,env,⟨b,_,rfl⟩,hE=>by
  simp only[Tw.T.freeS];by_cases c:env.contains x=true
  ·rw[mA c];intro y f;simp only[xB]at f;subst f;exact(hE x).1 c
  ·rw[jA c];refine⟨[],_,[],rfl,sM,?_,rfl⟩;unfold NB.k;dsimp only;cases g:e.look x with
   |none=>rfl
   |some a=>exact absurd ((hE x).2 ⟨a,g⟩) c
 |.int ..,_,_,_,_,⟨_,rfl⟩,_=>by simp[Tw.T.freeS,FreeAt]
 |.Ak ..,_,_,_,_,⟨_,rfl⟩,_=>by simp[Tw.T.freeS,FreeAt]
 |.side ..,_,_,_,_,⟨_,rfl⟩,_=>by simp[Tw.T.freeS,FreeAt]
 |.bracket fr to i,_,e,L,env,⟨_,_,r1⟩,hE=>by
  have:=NL.free r1 hE;simpa[Tw.T.freeS]using this
 |.pair ..,_,_,_,_,⟨_,_,_,_,_,r1,r2,rfl⟩,hE=>(NL.free r1 hE).append (NL.free r2 hE)
 |.call ..,_,_,_,_,⟨_,_,_,_,_,r1,r2,rfl⟩,hE=>(NL.free r1 hE).append (NL.free r2 hE)
 |.binary ..,_,_,_,_,⟨_,_,_,_,_,r1,r2,rfl⟩,hE=>(NL.free r1 hE).append (NL.free r2 hE)
 |.cond ..,_,_,_,_,⟨_,_,_,_,_,_,_,r1,r2,r3,rfl⟩,hE=>((NL.free r1 hE).append (NL.free r2 hE)).append (NL.free r3 hE)
 |.fn fr to bn bat b,_,e,L,env,⟨_,_,_,r1⟩,hE=>by
  have:=NL.free r1 (hE.cons bn _);simpa[Tw.T.freeS]using this
 |.Am fr to rc bn bat d b,_,_,_,_,⟨k,v1,v2,L1,L2,_,r1,r2,rfl⟩,hE=>by
  cases rc with
  |false=>exact(NL.free r1 hE).append (NL.free r2 (hE.cons _ _))
  |true=>exact(NL.free r1 (hE.cons _ _)).append (NL.free r2 (hE.cons _ _))
theorem NL.block{w:World}{hi:Nat}:∀ {t:Tw.T} {v:Value} {e:Tw.BEn} {L:List NB},NL w hi t v e L->∀y∈L,zH w y.nb #[vI y.fr,vI y.to,ug y.tx] 87
 |.name fr to x,_,e,_,⟨b,⟨_,hb⟩,rfl⟩=>by
  intro y a;simp only[xB]at a;subst a;exact hb
 |.int ..,_,_,_,⟨_,rfl⟩=>sM
 |.Ak ..,_,_,_,⟨_,rfl⟩=>sM
 |.side ..,_,_,_,⟨_,rfl⟩=>sM
 |.bracket ..,_,_,_,⟨_,_,r1⟩=>NL.block r1
 |.pair ..,_,_,_,⟨_,_,_,_,_,r1,r2,rfl⟩=>λy a=>(zmA.1 a).elim (NL.block r1 y) (NL.block r2 y)
 |.call ..,_,_,_,⟨_,_,_,_,_,r1,r2,rfl⟩=>λy a=>(zmA.1 a).elim (NL.block r1 y) (NL.block r2 y)
 |.binary ..,_,_,_,⟨_,_,_,_,_,r1,r2,rfl⟩=>λy a=>(zmA.1 a).elim (NL.block r1 y) (NL.block r2 y)
 |.cond ..,_,_,_,⟨_,_,_,_,_,_,_,r1,r2,r3,rfl⟩=>λy a=>(zmA.1 a).elim (λh=>(zmA.1 h).elim (NL.block r1 y) (NL.block r2 y)) (NL.block r3 y)
 |.fn ..,_,_,_,⟨_,_,_,r1⟩=>NL.block r1
 |.Am fr to rc bn bat d b,_,_,_,⟨k,v1,v2,L1,L2,_,r1,r2,rfl⟩=>λy a=>(zmA.1 a).elim (NL.block r1 y) (NL.block r2 y)
theorem FreeAt.first{L init:List NB}{x:NB}{o:Option Nat}(h:FreeAt L o)(k:init++[x] <+:L)(hi:∀z∈init,∃a,z.k=some a)(f:x.k=none):o=some x.fr:=by
 obtain⟨r,rfl⟩:=k;cases o with
 |none=>
  have⟨a,c⟩:=h x sM;rw[f]at c;cases c
 |some p=>
  obtain⟨pre,y,post,e,i,j,rfl⟩:=h;have g:init=pre/\x=y:=by
   rw[wA]at e;rcases List.append_eq_append_iff.1 e with⟨m,d,b⟩|⟨m,d,b⟩
   ·cases m with
    |nil=>simp at d b;exact⟨d.symm,b.1⟩
    |cons z m=>
     simp at b;have⟨a,c⟩:=i x (by rw[d,<-b.1];simp);rw[f]at c;cases c
   ·cases m with
    |nil=>simp at d b;exact⟨d,b.1.symm⟩
    |cons z m=>
     simp at b;have⟨a,c⟩:=hi y (by rw[d,b.1];simp);rw[j]at c;cases c
  rw[g.2]
def zui(w:World)(res:RR)(e:Ending)(w':World):Prop:=
 match res with
 |.fault k p=>e=.returned (.tuple #[.nilIface,.int .i64 k,.int .i64 p])/\TK w.heap.size WtS w w'
 |.Ja t _=>∃a,e=.returned (.tuple #[a,.int .i64 0,.int .i64 0])/\Rep w' w.heap.size w'.heap.size t a/\TK w.heap.size WtS w w'
structure Wq(w W2:World)(fr:Nat)(W:World):Prop where
 res:Sy w W w.heap.size .nilIface (.int .i64 4) (.int .i64 fr)
 old:∀k,k<W2.heap.size->k≠w.heap.size->k≠w.heap.size+1->k≠w.heap.size+2->W.heap[k]?=W2.heap[k]?
 size:W2.heap.size<=W.heap.size
 os:W.os=W2.os
 tape:W.tape=W2.tape
 output:W.output=W2.output
theorem Wq.own{a:World}{fr:Nat}{B:Nat}(l:a.heap.size<=B)(n:w.heap.size+3<=a.heap.size){W W':World}{row:Option Nat}(h:Wq w a fr W)(b:W.grownBy W' row)(f:∀r,row=some r->B<=r):Wq w a fr W':=by
 have m:=h.size;have d:∀k,k<a.heap.size->W'.heap[k]?=W.heap[k]? :=λk c=>b.block k oM (λe=>by have:=f k e.symm;omega);refine⟨h.res.kept (λ{k o} c x=>by rw[d k oM];exact x),λk c g i j=>by rw[d k c];exact h.old k c g i j,by have:=b.size;omega,b.os.trans h.os,b.tape.trans h.tape,b.output.trans h.output⟩
theorem zkl{b:World}{x y z:Value}{D:Nat}(C:Sy w b w.heap.size x y z)(K:TK w.heap.size WtS w b)(m:b.heap[D]?=some (.deferred (some [])))(j:w.heap.size+3<=D)(g h i:Value):
  ∃a,((b.setCell (aD w.heap.size 0) g).setCell ⟨w.heap.size+1,0,none⟩ h).setCell ⟨w.heap.size+1+1,0,none⟩ i=a/\a.heap[D]?=some (.deferred (some []))/\Sy w (a.putObj D (.deferred none)) w.heap.size g h i/\TK w.heap.size WtS w (a.putObj D (.deferred none)) /\
   (∀k,w.heap.size+3<=k->k≠D->(a.putObj D (.deferred none)).heap[k]?=b.heap[k]?)/\(a.putObj D (.deferred none)).heap.size=b.heap.size:=by
 have⟨a,n,l,d,p,r,s,t⟩:=C.set g h i;have put:∀e,e≠D->(a.putObj D (.deferred none)).heap[e]?=a.heap[e]? :=λe j=>by
  rw[World.putObj,Array.getElem?_setIfInBounds_ne (Ne.symm j)]
 refine⟨a,n,by rw[d D oM oM oM];exact m,l.kept (λ{k q} f x=>by rw[put k oM];exact x),?_,λk f o=>by rw[put k o,d k oM oM oM],by simp[World.putObj,p]⟩;refine⟨λ{k} x y=>by rw[put k oM,d k oM oM oM];exact K.low x y,r.trans K.os,s.trans K.tape,t.trans K.output,by have:=K.size;simp[World.putObj];omega,λ{k c A v} x y=>?_,λ{k q} x y=>?_⟩
 ·have f:=(zgE.1 x).1;rw[put k oM,d k oM oM oM];exact K.cells x y
 ·have f:=(zgE.1 x).1;rw[put k oM,d k oM oM oM];exact K.other x y
theorem zmv(hIB:Ew.Hs)(hPI:Ew.Ho)(hIt:Ew.Fs)(s:ByteArray)(hs:s.size<=300){ts:List Tw.Tok}(h1:split s.data.toList=.ok ts){fuel:Nat}{t:Tw.T}(h2:Gj s.data.toList ts fp=some (.ok t))(h3:Oa fuel t=some res)(w:World):
  Calls prog 32 #[.string s] w (zui w res):=by
 refine(callsIn_wide (n:=3)).1 ?_;refine callsIn_of_wp_marks func32 rfl trivial ?_;simp only[ntmps32,List.size_toArray,zB,zD,Nat.reduceAdd,Nat.reduceSub,Array.replicate_succ,Array.replicate_zero,List.push_toArray,List.append_toArray,rD,pD];have H3:=h3;have⟨W0,hW0,hg0,z0,hC0⟩:=Z8 w;gi_wp2_with fail;refine⟨trivial,?_⟩;refine(callsIn_wide.2 (Wz hIB s W0 hs)).mono ?_;rintro e1 w1 ⟨hB1,hm⟩;rw[h1]at hm;obtain⟨v,rfl,ho⟩:=hm;have hts:=zcw h1 (by simpa using hs);obtain⟨gt,cap,cur,rfl,hgt,hTR⟩:=zbm.zkx ho hts.1 hts.2;gi_wp2_with fail;refine⟨trivial,?_⟩;refine(callsIn_wide.2 (zfi hPI hTR s hs h2)).mono ?_;rintro e1 w2 ⟨hg,tv,rfl,hR⟩;obtain⟨PT,nt,rfl⟩:=hR.iface;have key0:∀ {b:Nat} {o:Obj},W0.heap[b]?=some o->w2.heap[b]?=some o:=λ{b o} h=>by
  have hb:=(zgE.1 h).1;rw[hg.block b (by have:=hB1.size;omega) sM,hB1.block b hb];exact h
 have C2:=hC0.kept (λ_ h=>key0 h);have z2:w.heap.size+3<=w2.heap.size:=by have:=hB1.size;have:=hg.size;omega
 have K2:TK w.heap.size WtS w w2:=((TK.Ae _ WtS hg0).trans (((TK.Ae _ WtS (Jz hB1)).trans (TK.Ae _ WtS hg))));have z1:=hB1.size;gi_wp2_with fail;refine⟨trivial,?_⟩;refine(callsIn_wide.2 (zcv w2 ⟨PT,nt,rfl⟩)).mono ?_;rintro e1 w3 ⟨rfl,rfl⟩;gi_wp2_with fail;have⟨L0,hL0⟩:=NL.Dl .nil (hR.wide (yD _) (znL _));have hnl:=NL.kp (Kp.Ae (zwA w2 (.cells #[.iface PT (pT nt)] 68) none)) hL0;have hfree:FreeAt L0 (t.freeS []):=hL0.free (λx=>by simp[Tw.BEn.look]);have hblock:=hnl.block;have hne:=Ac w2 (.cells #[.iface PT (pT nt)] 68);obtain⟨wn,hwn⟩:∃wn,w2.alloc (.cells #[.iface PT (pT nt)] 68)=wn:=⟨_,rfl⟩;have zn:wn.heap.size=w2.heap.size+1:=by rw[<-hwn];simp
 have CN:Sy w wn w.heap.size .nilIface (vI 0) (vI 0):=C2.kept (λ{k o} hk x=>by rw[<-hwn];exact(Below.heap_alloc w2 _ k oM).trans x);have KN:TK w.heap.size WtS w wn:=K2.trans (TK.Ae _ WtS (by rw[<-hwn];exact zwA _ _ none));have RN:Rep wn w1.heap.size w2.heap.size t (.iface PT (pT nt)):=hR.kept (λb _ h2 _=>by rw[<-hwn];exact Below.heap_alloc w2 _ b h2) (znL _) (znL _);rw[hwn]at hnl hblock hne ⊢;refine zms (p:=34) (q:=35) (d1:=9) (d2:=10) oM rfl (enters_of func83 kR rfl) (Ys hne hnl) (λh k=>h.trans k) zpk (Below.refl _ _)
  (λpre W=>(∀z∈pre,∃a,z.1.k=some a)/\Below wn.heap.size wn W) (λc pre W=>c=.ret/\∃init x,pre=init++[x]/\(∀z∈init,∃a,z.1.k=some a)/\x.1.k=none/\Wq w wn x.1.fr W) ?own ?ownx ⟨sM,Below.refl _ _⟩ ?assign ?body ?done ?stop
 case own=>
  intro pre W W' row h hg hr;exact⟨h.1,ownFrom_below (β:=Unit) (znL _) (znL _) () W W' row h.2 hg hr⟩
 case ownx=>
  rintro c pre W W' row ⟨h0,init,x,h1,h2,h3,h4⟩ hg hr;exact⟨h0,init,x,h1,h2,h3,h4.own (znL _) oM hg (λr e=>(hr r e).1)⟩
 case assign=>
  intro l x W K hK;simp only[zsA,zsZ,zsS]at hK ⊢
  gi_wp2;exact hK
 case body=>
  rintro l pre ⟨x,hx⟩ W ⟨hpre,hB⟩ hlt;cases hk:x.k with
  |some a=>
   simp only[zsA,zsZ,zsS]
   try dsimp only
   gi_wp2;refine⟨KeepsOthers.refl _,Kp.refl _,λz hz=>?_,hB⟩;rcases zmA.1 hz with hz|hz
   ·exact hpre z hz
   ·simp only[xB]at hz;subst hz;exact⟨a,hk⟩
  |none=>
   simp only[zsA,zsZ,zsS]
   try dsimp only
   have hb:=hblock x hx;have hb':W.heap[x.nb]?=some (.cells #[vI x.fr,vI x.to,ug x.tx] 87 (0,0)):=(hB.block _ (zgE.1 hb).1).trans hb;have⟨q0,_,_,_,_,_⟩:=Ag hb';have CW:=CN.kept (W':=W) (λ{k o} hk' x'=>(hB.block k oM).trans x');have⟨⟨b1,f1⟩,⟨b2,f2⟩,b3,f3⟩:=CW.cells;have n1:¬w.heap.size=x.nb:=λe=>(by rw[<-e,CW.1]at hb';simp at hb');have n2:¬w.heap.size+1=x.nb:=λe=>(by rw[<-e,CW.2.1]at hb';simp at hb');have n3:¬w.heap.size+1+1=x.nb:=λe=>(by rw[<-e,CW.2.2.1]at hb';simp at hb');have n4:¬x.nb=w.heap.size:=λe=>n1 e.symm;have n5:¬x.nb=w.heap.size+1:=λe=>n2 e.symm;have n6:¬x.nb=w.heap.size+1+1:=λe=>n3 e.symm;have FIN:∀W6,((W.drew.setCell (aD w.heap.size 0) .nilIface).setCell ⟨w.heap.size+1,0,none⟩ (vI 4)).setCell ⟨w.heap.size+1+1,0,none⟩ (vI x.fr)=W6->Wq w wn x.fr W6/\KeepsOthers W W6:=by
    intro W6 hW6;have⟨W7,hW7,hC7,ho,hsz,o1,o2,o3⟩:=Sy.set (W:=W.drew) CW .nilIface (vI 4) (vI x.fr);rw[hW6]at hW7;subst hW7;refine⟨⟨hC7,λk hk' m1 m2 m3=>(ho k m1 m2 m3).trans (hB.block k hk'),by rw[hsz];exact hB.size,o1.trans hB.os,o2.trans hB.tape,o3.trans hB.output⟩,?_⟩;rw[<-hW6];exact((KeepsOthers.drew W).trans (KeepsOthers.setCell _ _ _)).trans ((KeepsOthers.setCell _ _ _).trans (KeepsOthers.setCell _ _ _))
   gi_wp2
   gi_region
   all_goals gi_wp2
   all_goals exact⟨(FIN _ rfl).2,rfl,pre,⟨x,hx⟩,rfl,hpre,hk,(FIN _ rfl).1⟩
 case stop=>
  rintro D c pre W hD hsp ⟨rfl,init,x,rfl,hi,hx,hS⟩ hK;have hp:t.freeS []=some x.1.fr:=by
   refine hfree.first (init:=init.map (·.1)) (x:=x.1) (by simpa using hsp) (λz hz=>?_) hx;obtain⟨z',hz',rfl⟩:=List.mem_map.1 hz;exact hi z' hz'
  have h3':=H3;rw[Oa,hp]at h3';cases h3';have HS:=hS
  gi_wp2;refine⟨sM,.inl ⟨_,_,rfl,run_takeDeferred hK,?_⟩⟩;have put:∀b,b≠D->(W.putObj D (.deferred none)).heap[b]?=W.heap[b]? :=λb hb=>by
   rw[World.putObj,Array.getElem?_setIfInBounds_ne (Ne.symm hb)]
  have hS:=HS;have⟨⟨e1,_⟩,⟨e2,_⟩,e3,_⟩:=(hS.res.kept (W':=W.putObj D (.deferred none)) (λ{k o} hk x=>by rw[put k oM];exact x)).cells;refine⟨.tuple #[.nilIface,vI 4,vI x.1.fr],by simp[results,results32,go_sem,e1,e2,e3],rfl,?_⟩;have K:=KN;have hsz:=hS.size;refine⟨λ{k} x y=>by rw[put k oM,hS.old k oM oM oM oM];exact K.low x y,hS.os.trans K.os,hS.tape.trans K.tape,hS.output.trans K.output,by have:=K.size;simp[World.putObj];omega,λ{k c t m} x y=>?_,λ{k o} x y=>?_⟩
  ·have hk:=(zgE.1 x).1;rw[put k oM,hS.old k oM oM oM oM];exact K.cells x y
  ·have hk:=(zgE.1 x).1;rw[put k oM,hS.old k oM oM oM oM];exact K.other x y
 case done=>
  rintro D xs W hD hxs ⟨hall,hB⟩ hK;have hp:t.freeS []=none:=by
   cases hf:t.freeS []with
   |none=>rfl
   |some p=>
    rw[hf]at hfree;have⟨pre,y,post,he,_,hy,_⟩:=hfree;have hm:y∈xs.map (·.1):=(by rw[hxs,he];simp);have⟨z,hz,hzy⟩:=List.mem_map.1 hm;have⟨a,ha⟩:=hall z hz;rw[hzy,hy]at ha;cases ha
  have h3':=H3;rw[Oa,hp]at h3';simp only[zbE]at h3';have⟨k,hk0,h3'⟩:=h3';have z3:=hB.size;have RW:=RN.kept (λb _ h2 _=>hB.block b oM) (znL _) (znL _);have CW:=CN.kept (W':=W) (λ{k o} hk x=>(hB.block k oM).trans x);have KW:=KN.trans (TK.Ae _ _ (Jz hB));gi_wp2_with fail;refine⟨trivial,?_⟩;refine(callsIn_wide.2 (ziz (RW.wide (yD _) (znL _)) hk0)).mono ?_;rintro e1 w4 ⟨rfl,hg⟩;have zW:=hg.size;have R4:=RW.grown hg (znL _) (znL _);have K4:=KW.trans (TK.Ae _ _ hg);have key:∀ {b:Nat} {o:Obj},W.heap[b]?=some o->w4.heap[b]?=some o:=λ{b o} h=>(hg.block b (zgE.1 h).1 sM).trans h;have C4:=CW.kept (λ_ x=>key x);have D4:=key hK;by_cases hk2:2000<k
  ·have h5:=h3';rw[mA hk2]at h5;cases h5;have hki:(2000:Int)<k:=oM;have⟨⟨b1,f1⟩,⟨b2,f2⟩,b3,f3⟩:=C4.cells;gi_wp2_with fail;have⟨W6,hW6,hKD,hC6,hK6,_,_⟩:=zkl C4 K4 D4 oM .nilIface (vI 10) (vI 0);rw[hW6];have⟨⟨e1,_⟩,⟨e2,_⟩,e3,_⟩:=hC6.cells;refine⟨sM,.inl ⟨_,_,rfl,run_takeDeferred hKD,?_⟩⟩;exact⟨.tuple #[.nilIface,vI 10,vI 0],by simp[results,results32,go_sem,e1,e2,e3],rfl,hK6⟩
  ·have h5:=h3';rw[jA hk2]at h5;simp only[zbE]at h5;have⟨o,ho,h5⟩:=h5;have hki:¬(2000:Int)<k:=oM;gi_wp2_with fail;refine⟨trivial,?_⟩;refine(callsIn_wide.2 (zph hIt (R4.wide (yD _) (znL _)) ho)).mono ?_;rintro e1 w5 ⟨rfl,hk⟩;have z5:=hk.size;have R5:=R4.kp (hk.kp dZ);have K5:=K4.trans (hk.base oM);have C5:Sy w w5 w.heap.size .nilIface (vI 0) (vI 0):=⟨hk.cells C4.1 dZ,hk.cells C4.2.1 dZ,hk.cells C4.2.2.1 dZ,rfl⟩;have D5:=hk.other D4 sM;have⟨⟨b1,f1⟩,⟨b2,f2⟩,b3,f3⟩:=C5.cells;cases o with
   |none=>
    cases h5;unfold ofV;gi_wp2_with fail;have⟨W6,hW6,hKD,hC6,hK6,_,_⟩:=zkl C5 K5 D5 oM .nilIface (vI 5) (vI 0);rw[hW6];have⟨⟨e1,_⟩,⟨e2,_⟩,e3,_⟩:=hC6.cells;refine⟨sM,.inl ⟨_,_,rfl,run_takeDeferred hKD,?_⟩⟩;exact⟨.tuple #[.nilIface,vI 5,vI 0],by simp[results,results32,go_sem,e1,e2,e3],rfl,hK6⟩
   |some sh=>
    cases h5;unfold ofV;gi_wp2_with fail;have⟨W6,hW6,hKD,hC6,hK6,hold,hsz⟩:=zkl C5 K5 D5 oM (.iface PT (pT nt)) (vI 0) (vI 0);rw[hW6];have⟨⟨e1,_⟩,⟨e2,_⟩,e3,_⟩:=hC6.cells;refine⟨sM,.inl ⟨_,_,rfl,run_takeDeferred hKD,?_⟩⟩;refine⟨.tuple #[.iface PT (pT nt),vI 0,vI 0],by simp[results,results32,go_sem,e1,e2,e3],_,rfl,?_,hK6⟩;exact R5.kept (λb hb1 hb2 _=>hold b oM oM) oM oM
theorem zaa(b:Ew.Hs)(f:Ew.Ho)(j:Ew.Fs)(s:ByteArray)(d:s.size<=300){i:Nat}(h:Un fp i s.data.toList=some res)(w:World):
  Calls prog 32 #[.string s] w (zui w res):=by
 unfold Un at h;cases a:split s.data.toList with
 |error p=>
  rw[a]at h;cases h;exact(zi6 b s d a w).mono (λg k ⟨h,c⟩=>⟨h,TK.Ae _ _ c⟩)
 |ok ts=>
  rw[a]at h;simp[Option.bind_eq_some_iff]at h;have⟨r,e,h⟩:=h;cases r with
  |error p=>
   cases h;exact(zmt b f s d a e w).mono (λg k ⟨h,c⟩=>⟨h,TK.Ae _ _ c⟩)
  |ok t=>exact zmv b f j s d a e h w
end
section
variable{w w':World}{bt:Nat}{s:ByteArray}{t:Tw.T}{S:List TypeId}
def Iu(w:World)(bt:Nat)(s:ByteArray)(t:Tw.T):Prop:=∃b a,w.heap[bt]?=some (.cells #[.string s,a] 72 (0,0))/\Rep w 0 b t a
theorem Iu.kp(h:Iu w bt s t)(f:Kp w w')(d:∀c m,w.heap[bt]?=some (.cells c 72 m)->w'.heap[bt]?=some (.cells c 72 m)):Iu w' bt s t:=by
 have⟨e,g,a,b⟩:=h;exact⟨e,g,d _ _ a,b.kp f⟩
theorem Iu.tk{B:Nat}(h:Iu w bt s t)(b:TK B S w w')(a:(72::Su).all (λt=>!S.contains t)=true):Iu w' bt s t:=by
 rw[List.all_cons]at a;have⟨d,e⟩:=Bool.and_eq_true_iff.1 a;exact h.kp (b.kp e) (λc m x=>b.cells x (by simpa using d))
theorem Yt(s:ByteArray)(w:World):∃v W,(convert 9 66 (.string s)).run prog w=.ok v W/\(convert 66 9 v).run prog W=.ok (.string s) W/\zG w W:=by
 refine⟨_,_,run_bytes_of_string w _ _ 5 s underlying9 underlying66 underlying5,?_,Ab (Ad (Aa _)) (zwA _ _ none)⟩
 have:=run_convert_bytes_back (P:=prog) (w.drew.alloc (.cells (bytesRow s (grownCap w s.size 0 5)) 5 ((bytesRow s (grownCap w s.size 0 5)).size,(bytesRow s (grownCap w s.size 0 5)).size+1))) 66 9 5 (aD w.heap.size 0) (grownCap w s.size 0 5) s.data.toList underlying66 underlying5 underlying9 (by
  intro j a;rw[show(Addr.add (aD w.heap.size 0) j)=((aD w.heap.size j):Addr)from by simp[Addr.add];omega];have e:w.heap.size=w.drew.heap.size:=rfl;rw[e,World.cell?_alloc_mark,bytesRow_at s _ j (by rw[Array.length_toList]at a;exact a)];rfl)
 have b:s.data.toList.length=s.size:=Array.length_toList;rw[b]at this;exact this
theorem zi8(h:Iu w bt s t):
  Calls prog 25 #[pT bt] w λe w'=>e=.returned (.string s)/\w=w':=by
 have⟨d,f,a,c⟩:=h;have⟨b,_,_,_⟩:=A8 a;go_in;go_wp21;go_ret;exact⟨rfl,rfl⟩
theorem zpl{shown:zU}(h:Iu w bt s t)(c:zrf S t shown):
  Calls prog 22 #[pT bt] w λe w'=>e=.returned (ug shown)/\TK w.heap.size S w w':=by
 have⟨g,j,b,a⟩:=h;obtain⟨d,i,rfl⟩:=a.iface;have⟨_,f,_,_⟩:=A8 b;go_in;go_wp21;go_call c _ _ _ a as e1 w1 ⟨rfl,hk⟩;go_wp21;go_ret;exact⟨rfl,hk⟩
end
section
variable{fp fo:Nat}
def Tw.Kf(fp fo:Nat)(l:zU):Option RR:=if 300<l.length then some (.fault 1 0)else Un fp fo l
def zvx(w:World)(s:ByteArray)(b:RR)(e:Ending)(w':World):Prop:=
 match b with
 |.fault k p=>e=.returned (.tuple #[.pointer none,.int .i64 k,.int .i64 p])/\TK w.heap.size WtS w w'
 |.Ja t _=>∃a,e=.returned (.tuple #[.pointer (some ⟨a,0,none⟩),.int .i64 0,.int .i64 0])/\Iu w' a s t/\TK w.heap.size WtS w w'
theorem zpm{l:zU}{k p:Nat}(h:Un fp fo l=some (.fault k p)):k≠0:=by
 unfold Un at h;split at h
 ·cases h;omega
 ·simp[Option.bind_eq_some_iff]at h;have⟨r,_,h⟩:=h;split at h
  ·cases h;omega
  ·unfold Oa at h;split at h
   ·cases h;omega
   ·simp[Option.bind_eq_some_iff]at h;have⟨a,_,h⟩:=h;split at h
    ·cases h;omega
    ·simp[Option.bind_eq_some_iff]at h;have⟨o,_,h⟩:=h;cases o with
     |none=>cases h;omega
     |some sh=>cases h
theorem zpn(e:Ew.Hs)(g:Ew.Ho)(f:Ew.Fs){s:ByteArray}{d:RR}(h:Kf fp fo s.data.toList=some d)(w:World):
  Calls prog 16 #[.string s] w (zvx w s d):=by
 unfold Kf at h;have j:s.data.toList.length=s.size:=Array.length_toList;rw[j]at h;by_cases i:300<s.size
 ·rw[mA i]at h;cases h;have l:(300:Int)<s.size:=oM;go_in;go_wp21;go_ret3;exact⟨rfl,TK.refl _ _ _⟩
 rw[jA i]at h;have⟨v,W,n,o,a⟩:=Yt s w;have l:¬(300:Int)<s.size:=oM;cases d with
 |fault k p=>
  have b:=zpm h;have q:¬(k:Int)=0:=oM;go_in;go_wp21;go_call zaa e g f s oM h W as e1 w1 ⟨rfl,b⟩;have c:TK w.heap.size WtS w w1:=(TK.Ae _ _ a).trans (b.base a.size);go_wp21;go_ret3;exact⟨rfl,c⟩
 |Ja t sh=>
  go_in;go_wp21;go_call zaa e g f s oM h W as e1 w1 ⟨tv,rfl,hR,b⟩;obtain⟨m,r,rfl⟩:=hR.iface;have c:=(TK.Ae _ _ a).trans (b.base a.size);go_wp21;go_ret3;exact⟨_,rfl,⟨_,_,Ac w1 _,hR.grown (zwA _ _ none) (yD _) (znL _)⟩,c.trans (TK.Ae _ _ (zwA _ _ none))⟩
end
end
section
open Tw Go.Proofs.Tryz
open Go.RowKit
section
variable {B:Nat}
variable{w w':World}{sl:List Nat}{e:Tw.Cr}{v:Value}{x:Tw.Val}{br bud b i bs k:Nat}{st:Tw.RS}
def Lf(w:World)(sl:List Nat):Cr->Value->Prop
 |[],v=>v=.pointer none
 |(n,k)::o,v=>∃b a bs,v=.pointer (some ⟨b,0,none⟩)/\sl[k]?=some bs/\w.heap[b]?=some (.cells #[ug n,.pointer (some ⟨bs,0,none⟩),a] 362 (0,0))/\Lf w sl o a
def Ex(w:World)(sl:List Nat):Val->Value->Prop
 |.num n,v=>v=.iface 192 (.int .i64 n) /\ -9223372036854775808<=n/\n<=9223372036854775807
 |.Ak b,v=>v=.iface 196 (.bool b)
 |.side b,v=>v=.iface 203 (.agg #[.bool b])
 |.pair l r,v=>∃b v1 v2,v=.iface 315 (.pointer (some ⟨b,0,none⟩))/\w.heap[b]?=some (.cells #[v1,v2] 317 (0,0))/\Ex w sl l v1/\Ex w sl r v2
 |.clo fr to bn bat body env,v=>∃b a ev v1 hi,v=.iface 216 (.pointer (some ⟨b,0,none⟩))/\w.heap[b]?=some (.cells #[.pointer (some ⟨a,0,none⟩),ev] 218 (0,0)) /\
  w.heap[a]?=some (.cells #[.int .i64 (fr:Nat),.int .i64 (to:Nat),ug bn,.int .i64 (bat:Nat),v1] 235 (0,0))/\Rep w 0 hi body v1/\Lf w sl env ev
abbrev Vh:List TypeId:=[311,117]
theorem Lf.tk{w w':World}{sl d:List Nat}(a:TK B Vh w w')(c:sl <+:d):∀ {e:Cr} {v:Value},Lf w sl e v->Lf w' d e v
 |[],_,h=>h
 |(n,k)::o,_,⟨b,vo,bs,hv,hl,hb,ho⟩=>⟨b,vo,bs,hv,by obtain⟨r,rfl⟩:=c;rw[iA (zlE.1 hl).1];exact hl,a.cells hb dZ,Lf.tk a c ho⟩
theorem Ex.tk{w w':World}{sl d:List Nat}(a:TK B Vh w w')(c:sl <+:d):∀ {x:Val} {v:Value},Ex w sl x v->Ex w' d x v
 |.num _,_,h=>h
 |.Ak _,_,h=>h
 |.side _,_,h=>h
 |.pair _ _,_,⟨b,v1,v2,hv,hb,h1,h2⟩=>⟨b,v1,v2,hv,a.cells hb dZ,Ex.tk a c h1,Ex.tk a c h2⟩
 |.clo ..,_,⟨b,fb,ev,v1,hi,hv,hb,hf,hr,he⟩=>⟨b,fb,ev,v1,hi,hv,a.cells hb dZ,a.cells hf dZ,hr.kp (a.kp dZ),he.tk a c⟩
theorem Lf.ptr(h:Lf w sl e v):∃a,v=.pointer a:=by
 cases e with
 |nil=>exact⟨none,h⟩
 |cons x o=>obtain⟨b,_,_,c,_⟩:=h;exact⟨_,c⟩
theorem Ex.iface(h:Ex w sl x v):∃T p,v=.iface T p:=by
 cases x with
 |num=>exact⟨_,_,h.1⟩
 |Ak=>exact⟨_,_,h⟩
 |side=>exact⟨_,_,h⟩
 |pair=>obtain⟨_,_,_,h,_⟩:=h;exact⟨_,_,h⟩
 |clo=>obtain⟨_,_,_,_,_,h,_⟩:=h;exact⟨_,_,h⟩
def zku(w:World)(sl:List Nat):Option Val->Value->Prop
 |none,v=>v=.nilIface
 |some x,v=>Ex w sl x v
theorem zku.tk{a:List Nat}(c:TK B Vh w w')(d:sl <+:a):∀ {x:Option Val} {v:Value},zku w sl x v->zku w' a x v
 |none,_,h=>h
 |some _,_,h=>Ex.tk c d h
structure Dh B (w:World)(br bud:Nat)(sl:List Nat)(st:Tw.RS):Prop where
 Fh:w.heap[br]?=some (.cells #[.int .i64 bud,.int .i64 st.steps,.int .i64 st.fin] 117 (0,0))
 len:sl.length=st.Al.length
 nodup:sl.Nodup
 slot:∀ {i bs:Nat} {ov:Option Val},sl[i]?=some bs->st.Al[i]?=some ov->∃hv,w.heap[bs]?=some (.cells #[hv] 311 (0,0))/\zku w sl ov hv
 steps:st.steps<=bud
 bud:bud<=3000
 lob:B<=br
 los:∀ {i bs:Nat},sl[i]?=some bs->B<=bs
theorem Dh.Aq(h:Dh B w br bud sl st)(a:zG w w'):Dh B w' br bud sl st:=
 {h with
  Fh:=zbG a h.Fh
  slot:=λd f=>by
   have⟨g,c,b⟩:=h.slot d f;exact⟨g,zbG a c,b.tk (TK.Ae 0 _ a) (List.prefix_refl _)⟩}
theorem TK.set{S:List TypeId}{j:Nat}{c:Array Value}{t:TypeId}{m:Nat×Nat}(d:w.heap[b]?=some (.cells c t m))(f:S.contains t=true)(h:B<=b):TK B S w (w.setCell (aD b j) v):=by
 refine⟨λ{k} x _=>aA _ _ _ _ (by simp;omega),rfl,rfl,rfl,sM,λ{k g n l} x y=>?_,λ{k o} x y=>?_⟩
 ·by_cases a:k=b
  ·subst a;rw[d]at x;cases x;rw[f]at y;cases y
  ·rw[aA _ _ _ _ (by simpa using a)];exact x
 ·by_cases a:k=b
  ·subst a;rw[d]at x;cases x;exact absurd rfl (y _ _ _)
  ·rw[aA _ _ _ _ (by simpa using a)];exact x
theorem Dh.ne(h:Dh B w br bud sl st)(c:sl[i]?=some bs):bs≠br:=by
 have d:i<st.Al.length:=by rw[<-h.len];exact(zlE.1 c).1
 have⟨f,a,_⟩:=h.slot c (fA d);intro e;subst e;rw[h.Fh]at a;simp at a
theorem Dh.zrs(h:Dh B w br bud sl st)(k:Int):Dh B (w.setCell (aD br 2) (vI k)) br bud sl {st with fin:=k}:=by
 refine{h with Fh:=by rw[cD _ _ _ _ _ _ h.Fh];rfl,slot:=λ{i bs g} a d=>?_};have⟨f,c,b⟩:=h.slot a d;exact⟨f,by rw[aA _ _ _ _ (by simpa using h.ne a)];exact c,b.tk (TK.set h.Fh dZ h.lob) (List.prefix_refl _)⟩
theorem Dh.zr0(h:Dh B w br bud sl st)(k:Nat)(f:k<=bud):Dh B (w.setCell (aD br 1) (vI k)) br bud sl {st with steps:=k}:=by
 refine{h with Fh:=by rw[cD _ _ _ _ _ _ h.Fh];rfl,steps:=f,slot:=λ{i bs j} a d=>?_};have⟨g,c,b⟩:=h.slot a d;exact⟨g,by rw[aA _ _ _ _ (by simpa using h.ne a)];exact c,b.tk (TK.set h.Fh dZ h.lob) (List.prefix_refl _)⟩
theorem Dh.zls(h:Dh B w br bud sl st){ov:Option Val}{hv:Value}(q:zku w sl ov hv):Dh B (w.alloc (.cells #[hv] 311)) br bud (sl++[w.heap.size]) {st with Al:=st.Al++[ov]}:=by
 have f:=zwA w (.cells #[hv] 311) none;have m:sl <+:sl++[w.heap.size]:=List.prefix_append _ _;refine{Fh:=(h.Aq f).Fh,len:=by simp[h.len],nodup:=?_,slot:=λ{i bs s} a d=>?_,steps:=h.steps,bud:=h.bud,lob:=h.lob,los:=λ{i bs} a=>?_}
 ·rw[List.nodup_append];refine⟨h.nodup,sM,?_⟩;intro j p b l;simp only[xB]at l;subst l;have⟨i,c⟩:=List.mem_iff_getElem?.1 p;have r:i<st.Al.length:=by rw[<-h.len];exact(zlE.1 c).1
  have⟨n,o,_⟩:=h.slot c (fA r)
  have:=(zgE.1 o).1;omega
 ·rcases yB i sl.length with c|c
  ·rw[iA c]at a;rw[iA (by rw[<-h.len];exact c)]at d;have⟨n,j,b⟩:=h.slot a d;exact⟨n,zbG f j,b.tk (TK.Ae 0 _ f) m⟩
  ·have g:i=sl.length:=by
    have:=(zlE.1 a).1;simp at this;omega
   subst g;simp only[List.getElem?_concat_length,zsI]at a;rw[h.len]at d;simp only[List.getElem?_concat_length,zsI]at d;subst a;subst d;exact⟨hv,Ac w _,q.tk (TK.Ae 0 _ f) m⟩
 ·rcases yB i sl.length with c|c
  ·rw[iA c]at a;exact h.los a
  ·have g:i=sl.length:=by
    have:=(zlE.1 a).1;simp at this;omega
   subst g;simp only[List.getElem?_concat_length,zsI]at a
   have:=h.lob
   have:=(zgE.1 h.Fh).1;omega
theorem Dh.ztv(h:Dh B w br bud sl st)(hi:sl[i]?=some bs)(o:Ex w sl x v):Dh B (w.setCell (aD bs 0) v) br bud sl {st with Al:=st.Al.set i (some x)}/\TK B Vh w (w.setCell (aD bs 0) v):=by
 have g:i<st.Al.length:=by rw[<-h.len];exact(zlE.1 hi).1
 have⟨q,f,_⟩:=h.slot hi (fA g);have K:TK B Vh w (w.setCell (aD bs 0) v):=TK.set f dZ (h.los hi);refine⟨{h with Fh:=by rw[aA _ _ _ _ (by simpa using(h.ne hi).symm)];exact h.Fh,len:=by simpa using h.len,slot:=λ{p l r} a c=>?_},K⟩;by_cases d:p=i
 ·subst d;rw[hi]at a;cases a;simp[List.getElem?_set_self g,Option.some.injEq]at c;subst c;exact⟨v,by rw[cD _ _ _ _ _ _ f];rfl,Ex.tk K (List.prefix_refl _) o⟩
 ·simp[List.getElem?_set_ne (Ne.symm d)]at c;have⟨n,j,b⟩:=h.slot a c;have m:l≠bs:=by
   intro e;subst e;exact d ((List.getElem?_inj (zlE.1 a).1 h.nodup).1 (a.trans hi.symm))
  exact⟨n,by rw[aA _ _ _ _ (by simpa using m)];exact j,b.tk K (List.prefix_refl _)⟩
def Bj(B:Nat)(w:World)(br bud:Nat)(sl:List Nat)(r:Option Val×Tw.RS)(e:Ending)(w':World):Prop:=
 ∃v a,e=.returned v/\zku w' a r.1 v/\TK B Vh w w'/\sl <+:a/\Dh B w' br bud a r.2
theorem Bj.from{c:World}{a:List Nat}{r:Option Val×Tw.RS}{e:Ending}(h:Bj B w br bud sl r e w')(f:TK B Vh c w)(l:a <+:sl):Bj B c br bud a r e w':=by
 have⟨v,o,d,n,g,m,j⟩:=h;exact⟨v,o,d,n,f.trans g,l.trans m,j⟩
theorem zcx(c:Lf w sl e v)(n:zU)(d:sl[k]?=some bs):
  Calls prog 170 #[v,ug n,pT bs] w λr w'=>∃a,r=.returned (.pointer a)/\zG w w'/\Lf w' sl ((n,k)::e) (.pointer a):=by
 obtain⟨a,rfl⟩:=c.ptr;go_in;go_wp21;go_ret;exact⟨_,rfl,zwA _ _ none,_,_,_,rfl,d,Ac w _,c.tk (TK.Ae 0 _ (zwA _ _ none)) (List.prefix_refl _)⟩
theorem zmw(p:Lf w sl e v)(x:zU)(t:Gw e x=some k):
  Calls prog 165 #[v,ug x] w λr w'=>∃bs,sl[k]?=some bs/\r=.returned (.tuple #[pT bs,.bool true])/\w=w':=by
 go_in;go_wp21;go_loopg[0] e.length (λC D wr=>wr=w/\∃c:Cr,C=c.length/\Hid (Lf w sl c D)/\Hid (Gw c x=some k))
 case atStart=>exact⟨rfl,e,rfl,p,t⟩
 case round=>
  obtain⟨A,c,s,HK,d⟩:=hrel;subst A;cases c with
  |nil=>have:=d.o;simp[Gw]at this
  |cons q o=>
   obtain⟨n,r⟩:=q;obtain⟨b,I,bs,z,y,m,g⟩:=HK.o;obtain⟨E,rfl⟩:=g.ptr;subst z;obtain⟨F,G,H,_⟩:=Ag m;have h:=bV g;have j:=bV y;have a:=d.o;simp[Gw]at a;by_cases f:n=x
   ·rw[mA f]at a;simp[Option.some.injEq]at a;subst a;have l:(n==x)=true:=(by simp[f]);go_wp21
    go_ret2;exact⟨bs,uh j,rfl,rfl⟩
   ·rw[jA f]at a;have l:(n==x)=false:=(by simp[f]);have d:=bV a;go_wp21;go_roundg o.length
    case measure=>simp at s;omega
    case rel=>exact⟨rfl,o,rfl,h,d⟩
theorem zcy(h:Dh B w br bud sl st):
  Calls prog 166 #[pT br] w (Bj B w br bud sl (none,{st with fin:=1})):=by
 have⟨a,c,d,f,g,j⟩:=Ag h.Fh;go_in;go_wp21;go_ret;exact⟨_,sl,rfl,rfl,TK.set h.Fh dZ h.lob,List.prefix_refl _,h.zrs 1⟩
theorem zmx{n:Nat}(h:Dh B w br bud sl st){fr to:Nat}{x:zU}(l:zH w b #[vI fr,vI to,ug x] 87){ev:Value}(g:Lf w sl e ev)
  {r:Option Val×Tw.RS} (a:A9 bud (n+1) (.name fr to x) e st=some r) :
  Calls prog 88 #[pT br,pT b,ev] w (Bj B w br bud sl r):=by
 rw[A9]at a;have⟨i,o,a⟩:=zbE.1 a;have⟨A,C,D,_⟩:=Ag l;obtain⟨z,rfl⟩:=g.ptr;go_in;go_wp21;go_call zmw g x o as e1 w1 ⟨bs,hbs,rfl,rfl⟩;cases d:st.Al[i]? with
 |none=>rw[d]at a;simp at a
 |some ov=>
  rw[d]at a;have⟨f,m,c⟩:=h.slot hbs d;have⟨E,_⟩:=Hg m;cases ov with
  |none=>
   simp[Option.some.injEq]at a;subst a;obtain rfl:f=.nilIface:=c;go_wp21;go_call zcy h as e1 w1 h1;obtain⟨v,t,rfl,f,q,s,j⟩:=h1;obtain rfl:v=.nilIface:=f;have X:Bj B w br bud sl (none,{st with fin:=1}) (.returned .nilIface) w1:=⟨_,t,rfl,rfl,q,s,j⟩;go_wp21;go_ret;exact X
  |some y=>
   simp[Option.some.injEq]at a;subst a;obtain⟨T,p,rfl⟩:=Ex.iface c;go_wp21;go_ret;exact⟨_,sl,rfl,c,TK.refl _ _ _,List.prefix_refl _,h⟩
end
section
variable {B:Nat}
variable{n br bud hi b:Nat}{w:World}{sl:List Nat}{st:Tw.RS}{l r:Tw.T}{e:Tw.Cr}{lv rv ev:Value}
def Ob(B n:Nat):Prop:=∀ {w:World} {br bud hi:Nat} {sl:List Nat} {st:Tw.RS} {t:Tw.T} {e:Cr} {a ev:Value} {r:Option Val×Tw.RS},Dh B w br bud sl st->Rep w 0 hi t a->Lf w sl e ev->A9 bud n t e st=some r ->
  Calls prog 50 #[.pointer (some ⟨br,0,none⟩),a,ev] w (Bj B w br bud sl r)
def zvg(w:World)(sl:List Nat):Option (Val×Val)->Bool->Value->Value->Prop
 |none,ok,v1,v2=>ok=false/\(v1=.nilIface\/∃T p,v1=.iface T p)/\v2=.nilIface
 |some (x,y),ok,v1,v2=>ok=true/\Ex w sl x v1/\Ex w sl y v2
def zrg(B:Nat)(w:World)(br bud:Nat)(sl:List Nat)(r:Option (Val×Val)×Tw.RS)(e:Ending)(w':World):Prop:=
 ∃c d ok a,e=.returned (.tuple #[c,d,.bool ok])/\zvg w' a r.1 ok c d/\TK B Vh w w'/\sl <+:a/\Dh B w' br bud a r.2
theorem zab(g:Ob B n){c:Option (Val×Val)×Tw.RS}(h:Dh B w br bud sl st)(i:Rep w 0 hi l lv)(j:Rep w 0 hi r rv)(f:Lf w sl e ev)(a:Lw bud n l r e st=some c):
  Calls prog 167 #[pT br,lv,rv,ev] w (zrg B w br bud sl c):=by
 unfold Lw at a;have⟨p,v,a⟩:=zbE.1 a;obtain⟨A,G,rfl⟩:=i.iface;obtain⟨C,H,rfl⟩:=j.iface;obtain⟨L,rfl⟩:=f.ptr;go_in;go_wp21;go_call g h i f v as e1 w1 ⟨v1,sl1,rfl,hv1,hk1,hp1,hR1⟩;have⟨q,s⟩:=p;cases q with
 |none=>
  simp[Option.some.injEq]at a;subst a;obtain rfl:v1=.nilIface:=hv1;have X:TK B Vh w w1/\sl <+:sl1/\Dh B w1 br bud sl1 s:=⟨hk1,hp1,hR1⟩;go_wp21;go_ret3;exact⟨_,_,_,sl1,rfl,⟨rfl,.inl rfl,rfl⟩,X⟩
 |some x=>
  simp only at a;have⟨b,z,a⟩:=zbE.1 a;have k:=hv1;obtain⟨D,I,rfl⟩:=Ex.iface hv1;go_wp21;go_call g hR1 (j.kp (hk1.kp dZ)) (f.tk hk1 hp1) z as e1 w2 ⟨v2,sl2,rfl,hv2,hk2,hp2,hR2⟩;have d:TK B Vh w2 w2.drew:=TK.Ae _ _ (Ad (Aa _));have X:TK B Vh w w2.drew/\sl <+:sl2/\Dh B w2.drew br bud sl2 b.2:=⟨(hk1.trans hk2).trans d,hp1.trans hp2,hR2.Aq (Ad (Aa _))⟩;have m:=(k.tk hk2 hp2).tk d (List.prefix_refl _);have⟨t,F⟩:=b;cases t with
  |none=>
   simp[Option.some.injEq]at a;subst a;obtain rfl:v2=.nilIface:=hv2;go_wp21;go_region;go_wp21;go_ret3;exact⟨_,_,_,sl2,rfl,⟨rfl,.inr ⟨_,_,rfl⟩,rfl⟩,X⟩
  |some y=>
   simp[Option.some.injEq]at a;subst a;have o:=Ex.tk d (List.prefix_refl _) hv2;obtain⟨E,J,rfl⟩:=Ex.iface hv2;go_wp21;go_region;go_wp21;go_ret3;exact⟨_,_,_,sl2,rfl,⟨rfl,m,o⟩,X⟩
theorem Ov{x y z u:Value}{t:TypeId}(h:zH w b #[x,y,z,u] t):w.cell? (aD b 2)=some z/\w.cell? (aD b 3)=some u:=by
 constructor<;>(rw[mB w b _ _ _ _ h];rfl)
theorem zmy(hE:Ob B n){fr to:Nat}{c:Option Val×Tw.RS}(h:Dh B w br bud sl st)
    (hb:zH w b #[vI fr,vI to,lv,rv] 229) (hl:Rep w 0 hi l lv) (hr:Rep w 0 hi r rv) (he:Lf w sl e ev) (hf:A9 bud (n+1) (.pair fr to l r) e st=some c) :
    Calls prog 89 #[pT br,pT b,ev] w (Bj B w br bud sl c):=by
  rw[Np]at hf;have⟨a,ha,hf⟩:=zbE.1 hf;obtain⟨T1,k1,rfl⟩:=hl.iface;obtain⟨T2,k2,rfl⟩:=hr.iface;obtain⟨q,rfl⟩:=he.ptr;have⟨c2,c3⟩:=Ov hb;have D1:Hid (w.grownBy w.drew none):=Ad (Aa _);go_in;go_wp21;go_region_held3 (λW=>W.cell? (aD b 2)=some (.iface T1 (pT k1))/\W.cell? (aD b 3)=some (.iface T2 (pT k2))) (go_keep)
    ((go_at_call 167;refine(zab hE (h.Aq D1.o) (hl.grown D1.o (znL _) (znL _)) (hr.grown D1.o (znL _) (znL _)) (he.tk (TK.Ae 0 _ D1.o) (List.prefix_refl _)) ha).mono ?_;rintro e1 w1 ⟨v1,v2,ok,sl1,rfl,hm,hk,hp,hR⟩;have K1:Hid (TK B Vh w w1):=(TK.Ae _ _ D1.o).trans hk;have P1:=bV hp;have R1:=bV hR;have HM:=bV hm;have⟨d2,d3⟩:=Ov (K1.o.cells hb dZ);clear hk hp hR hm))
  have⟨a1,a2⟩:=a;cases a1 with
  |none=>
    obtain⟨rfl,h1,rfl⟩:=HM.o;simp[Option.some.injEq]at hf;subst hf;go_wp21;go_ret;exact⟨_,sl1,rfl,rfl,K1.o,uh P1,uh R1⟩
  |some xy=>
    have⟨x,y⟩:=xy;obtain⟨rfl,h1,h2⟩:=HM.o;simp[Option.some.injEq]at hf;subst hf;have V1:=bV h1;have V2:=bV h2;obtain⟨T3,p3,rfl⟩:=Ex.iface h1;obtain⟨T4,p4,rfl⟩:=Ex.iface h2;go_wp21;go_ret;have G:=zwA w1 (.cells #[.iface T3 p3,.iface T4 p4] 317) none;exact⟨_,sl1,rfl,⟨_,_,_,rfl,Ac w1 _,(uh V1).tk (TK.Ae 0 _ G) (List.prefix_refl _),(uh V2).tk (TK.Ae 0 _ G) (List.prefix_refl _)⟩,K1.o.trans (TK.Ae _ _ G),uh P1,(uh R1).Aq G⟩
end
section
variable {B:Nat}
theorem zi9(p:Value)(w:World):Sem.run prog (Instr.typeAssert (.iface 192 p) 119 216 true) w=.ok (.tuple #[.pointer none,.bool false]) w:=kR
theorem zf2(p:Value)(w:World):Sem.run prog (Instr.typeAssert (.iface 192 p) 119 203 true) w=.ok (.tuple #[.agg #[.bool false],.bool false]) w:=kR
theorem zf4(p:Value)(w:World):Sem.run prog (Instr.typeAssert (.iface 192 p) 119 315 true) w=.ok (.tuple #[.pointer none,.bool false]) w:=kR
theorem zac(p:Value)(w:World):Sem.run prog (Instr.typeAssert (.iface 192 p) 119 192 true) w=.ok (.tuple #[p,.bool true]) w:=kR
theorem zd7(p:Value)(w:World):Sem.run prog (Instr.typeAssert (.iface 196 p) 119 216 true) w=.ok (.tuple #[.pointer none,.bool false]) w:=kR
theorem zb3(p:Value)(w:World):Sem.run prog (Instr.typeAssert (.iface 196 p) 119 203 true) w=.ok (.tuple #[.agg #[.bool false],.bool false]) w:=kR
theorem zb4(p:Value)(w:World):Sem.run prog (Instr.typeAssert (.iface 196 p) 119 315 true) w=.ok (.tuple #[.pointer none,.bool false]) w:=kR
theorem Vs(p:Value)(w:World):Sem.run prog (Instr.typeAssert (.iface 196 p) 119 192 true) w=.ok (.tuple #[vI 0,.bool false]) w:=kR
theorem Yu(p:Value)(w:World):Sem.run prog (Instr.typeAssert (.iface 203 p) 119 216 true) w=.ok (.tuple #[.pointer none,.bool false]) w:=kR
theorem Vt(p:Value)(w:World):Sem.run prog (Instr.typeAssert (.iface 203 p) 119 203 true) w=.ok (.tuple #[p,.bool true]) w:=kR
theorem Vu(p:Value)(w:World):Sem.run prog (Instr.typeAssert (.iface 203 p) 119 315 true) w=.ok (.tuple #[.pointer none,.bool false]) w:=kR
theorem Yv(p:Value)(w:World):Sem.run prog (Instr.typeAssert (.iface 203 p) 119 192 true) w=.ok (.tuple #[vI 0,.bool false]) w:=kR
theorem zf5(p:Value)(w:World):Sem.run prog (Instr.typeAssert (.iface 315 p) 119 216 true) w=.ok (.tuple #[.pointer none,.bool false]) w:=kR
theorem zd8(p:Value)(w:World):Sem.run prog (Instr.typeAssert (.iface 315 p) 119 203 true) w=.ok (.tuple #[.agg #[.bool false],.bool false]) w:=kR
theorem Vv(p:Value)(w:World):Sem.run prog (Instr.typeAssert (.iface 315 p) 119 315 true) w=.ok (.tuple #[p,.bool true]) w:=kR
theorem Yw(p:Value)(w:World):Sem.run prog (Instr.typeAssert (.iface 315 p) 119 192 true) w=.ok (.tuple #[vI 0,.bool false]) w:=kR
theorem zad(p:Value)(w:World):Sem.run prog (Instr.typeAssert (.iface 216 p) 119 216 true) w=.ok (.tuple #[p,.bool true]) w:=kR
theorem zf6(p:Value)(w:World):Sem.run prog (Instr.typeAssert (.iface 216 p) 119 203 true) w=.ok (.tuple #[.agg #[.bool false],.bool false]) w:=kR
theorem Yx(p:Value)(w:World):Sem.run prog (Instr.typeAssert (.iface 216 p) 119 315 true) w=.ok (.tuple #[.pointer none,.bool false]) w:=kR
theorem zae(p:Value)(w:World):Sem.run prog (Instr.typeAssert (.iface 216 p) 119 192 true) w=.ok (.tuple #[vI 0,.bool false]) w:=kR
theorem zpo{w:World}{i:List Nat}{y:Val}{b:Value}(a:Ex w i y b)(c:Bool):
  Calls prog 208 #[b,.agg #[.bool c]] w λe w'=>∃v,e=.returned v/\zku w' i (zbg y c) v/\zG w w':=by
 cases y with
 |num m=>
  obtain⟨rfl,_⟩:=a;have q:=zf4;go_in;go_wp21;go_ret;exact⟨_,rfl,rfl,zwA _ _ none⟩
 |Ak m=>
  obtain rfl:b=_:=a;have q:=zb4;go_in;go_wp21;go_ret;exact⟨_,rfl,rfl,zwA _ _ none⟩
 |side m=>
  obtain rfl:b=_:=a;have q:=Vu;go_in;go_wp21;go_ret;exact⟨_,rfl,rfl,zwA _ _ none⟩
 |clo fr to bn bat body env=>
  obtain⟨d,t,s,j,z,rfl,_⟩:=a;have q:=Yx;go_in;go_wp21;go_ret;exact⟨_,rfl,rfl,zwA _ _ none⟩
 |pair l r=>
  obtain⟨d,j,D,rfl,h,f,g⟩:=a;have q:=Vv;obtain⟨k,A,rfl⟩:=Ex.iface f;obtain⟨n,C,rfl⟩:=Ex.iface g;have⟨o,p,_,_⟩:=A8 h;have x:d<w.heap.size:=(zgE.1 h).1;cases c
  ·go_in;go_wp21;go_ret;exact⟨_,rfl,f.tk (TK.Ae 0 _ (zwA _ _ none)) (List.prefix_refl _),zwA _ _ none⟩
  ·go_in;go_wp21;go_ret;exact⟨_,rfl,g.tk (TK.Ae 0 _ (zwA _ _ none)) (List.prefix_refl _),zwA _ _ none⟩
end
section
variable {B:Nat}
variable{n br bud fr to:Nat}{w:World}{sl:List Nat}{st:Tw.RS}{y:Tw.Val}{xv yv:Value}{c:Option Tw.Val×Tw.RS}
theorem zmz(hE:Ob B n){bat:Nat}{bn:zU}{body:Tw.T}{env:Cr}(h:Dh B w br bud sl st)(hx:Ex w sl (.clo fr to bn bat body env) xv)(hy:Ex w sl y yv)
    (hf:St bud n (.clo fr to bn bat body env) y st=some c) :
    Calls prog 168 #[pT br,xv,yv] w (Bj B w br bud sl c):=by
  obtain⟨b,fb,ev,v1,hi,rfl,hb,hfb,hr,he⟩:=hx;have q:=zad;obtain⟨T1,p1,rfl⟩:=Ex.iface hy;obtain⟨T2,k2,rfl⟩:=hr.iface;obtain⟨qa,rfl⟩:=he.ptr;have⟨c0,c1,c2,f0,f1,f2⟩:=Ag h.Fh;have hst:=h.steps;have hbd:=h.bud;unfold St at hf;simp only at hf;by_cases hs:st.steps=bud
  · rw[mA hs]at hf
    simp[Option.some.injEq]at hf;subst hf;have be:((st.steps:Int)==(bud:Int))=true:=(by simp[hs]);go_in;go_wp21;go_region;go_wp21;go_ret;have G:World.grownBy (w.setCell (aD br 2) (vI 2)) (w.setCell (aD br 2) (vI 2)).drew none:=Ad (Aa _);exact⟨_,sl,rfl,rfl,(TK.set h.Fh dZ h.lob).trans (TK.Ae _ _ G),List.prefix_refl _,(h.zrs 2).Aq G⟩
  · rw[jA hs]at hf
    have be:((st.steps:Int)==(bud:Int))=false:=by
      simp;omega
    have hs1:st.steps+1<=bud:=oM;have nb:b≠br:=by
      intro e;subst e;have h1:=h.Fh;rw[hb]at h1;simp at h1
    go_in;go_wp21;go_region;go_wp21;have e1:vI ((st.steps:Int)+1)=vI ((st.steps+1:Nat):Int):=sM;have R1:Hid (Dh B (w.setCell (aD br 1) (vI ((st.steps:Int)+1))).drew br bud sl {st with steps:=st.steps+1}):=by
      rw[e1];exact(h.zr0 (st.steps+1) hs1).Aq (Ad (Aa _))
    have K1:Hid (TK B Vh w (w.setCell (aD br 1) (vI ((st.steps:Int)+1))).drew):=(TK.set h.Fh dZ h.lob).trans (TK.Ae _ _ (Ad (Aa _)));generalize (w.setCell (aD br 1) (vI ((st.steps:Int)+1))).drew=W1 at *;have D1:Hid (W1.grownBy W1.drew none):=Ad (Aa _);have R2:=((uh R1).Aq D1.o).zls (ov:=some y) (hv:=.iface T1 p1) ((hy.tk K1.o (List.prefix_refl _)).tk (TK.Ae 0 _ D1.o) (List.prefix_refl _));have A2:Hid (W1.grownBy (W1.drew.alloc (.cells #[.iface T1 p1] 311)) none):=Aj D1.o _;have B1:=K1.o.cells hb dZ;have F1:=bV (K1.o.cells hfb dZ);have⟨g0,g1,_,_⟩:=A8 B1;have⟨_,_,j2,_,j4⟩:=Ea (uh F1);have lb:b<W1.heap.size:=(zgE.1 B1).1;have lf:fb<W1.heap.size:=(zgE.1 (uh F1)).1;go_region_held3 (λW=>W.cell? (aD b 0)=some (pT fb)/\W.cell? (aD b 1)=some (.pointer qa)/\W.cell? (aD fb 2)=some (ug bn)/\W.cell? (aD fb 4)=some (.iface T2 (pT k2))) (go_keep)
      (first
        |(go_at_call 170;refine(zcx ((he.tk K1.o (List.prefix_refl _)).tk (TK.Ae 0 _ A2.o) (List.prefix_append _ [W1.heap.size])) bn (k:=sl.length) sM).mono ?_;rintro e1 w3 ⟨sa,rfl,hg,hn⟩;have G3:Hid (zG W1 w3):=Ab A2.o hg;have N3:=bV hn;have R3:=bV (R2.Aq hg);have⟨d0,d1,_,_⟩:=A8 ((G3.o.block b lb sM).trans B1);have⟨_,_,d2,_,d4⟩:=Ea ((G3.o.block fb lf sM).trans (uh F1));clear hg hn)
        |(go_at_call 50;refine(hE (uh R3) ((hr.kp (K1.o.kp dZ)).grown G3.o (znL _) (znL _)) (uh N3) (by rw[h.len];exact hf)).mono ?_;rintro e1 w4 ⟨v4,sl4,rfl,hv4,hk4,hp4,hR4⟩;have X:Hid (Bj B w br bud sl c (.returned v4) w4):=⟨v4,sl4,rfl,hv4,(K1.o.trans (TK.Ae _ _ G3.o)).trans hk4,(List.prefix_append _ _).trans hp4,hR4⟩;have⟨d0,d1,_,_⟩:=A8 (hk4.cells ((G3.o.block b lb sM).trans B1) dZ);have⟨_,_,d2,_,d4⟩:=Ea (hk4.cells ((G3.o.block fb lf sM).trans (uh F1)) dZ);clear hv4 hk4 hp4 hR4))
    go_wp21;go_ret;exact X.o
theorem zja{a:Bool}(h:Dh B w br bud sl st)(b:Ex w sl y yv):
  Calls prog 168 #[pT br,.iface 203 (.agg #[.bool a]),yv] w (Bj B w br bud sl (zbg y a,st)):=by
 have q:=Yu;have f:=Vt;obtain⟨d,e,rfl⟩:=Ex.iface b;go_in;go_wp21;go_call zpo (b.tk (TK.Ae 0 _ (zwA w (.cells #[.bool a] 203) none)) (List.prefix_refl _)) a as e1 w1 ⟨v,rfl,hv,hg⟩;have G:=Ab (zwA w (.cells #[.bool a] 203) none) hg;have X:Bj B w br bud sl (zbg y a,st) (.returned v) w1:=⟨v,sl,rfl,hv,TK.Ae _ _ G,List.prefix_refl _,h.Aq G⟩;go_wp21;go_ret;exact X
theorem Sg{a:TypeId}{p:Value}(q:∀(p:Value) (w:World),Sem.run prog (Instr.typeAssert (.iface a p) 119 216 true) w=.ok (.tuple #[.pointer none,.bool false]) w)
  (f:∀(p:Value) (w:World),Sem.run prog (Instr.typeAssert (.iface a p) 119 203 true) w=.ok (.tuple #[.agg #[.bool false],.bool false]) w) {w:World} {br bud:Nat} {sl:List Nat} {st:Tw.RS} {yv:Value} (h:Dh B w br bud sl st) (b:∃T p,yv=.iface T p) :
  Calls prog 168 #[pT br,.iface a p,yv] w (Bj B w br bud sl (none,st)):=by
 obtain⟨d,e,rfl⟩:=b;go_in;go_wp21;go_ret;exact⟨_,sl,rfl,rfl,TK.refl _ _ _,List.prefix_refl _,h⟩
theorem zm0(e:Ob B n){x:Val}(h:Dh B w br bud sl st)(b:Ex w sl x xv)(d:Ex w sl y yv)(a:St bud n x y st=some c):
  Calls prog 168 #[pT br,xv,yv] w (Bj B w br bud sl c):=by
 cases x with
 |clo=>exact zmz e h b d a
 |side sec=>
  obtain rfl:xv=_:=b;cases a;exact zja h d
 |num=>
  obtain⟨rfl,_⟩:=b;cases a;exact Sg zi9 zf2 h (Ex.iface d)
 |Ak=>
  obtain rfl:xv=_:=b;cases a;exact Sg zd7 zb3 h (Ex.iface d)
 |pair=>
  obtain⟨f,g,i,rfl,_⟩:=b;cases a;exact Sg zf5 zd8 h (Ex.iface d)
theorem zm2(hE:Ob B n){hi b:Nat}{l r:Tw.T}{e:Cr}{lv rv ev:Value}(h:Dh B w br bud sl st)
    (hb:zH w b #[vI fr,vI to,lv,rv] 319) (hl:Rep w 0 hi l lv) (hr:Rep w 0 hi r rv) (he:Lf w sl e ev) (hf:A9 bud (n+1) (.call fr to l r) e st=some c) :
    Calls prog 90 #[pT br,pT b,ev] w (Bj B w br bud sl c):=by
  rw[Gg]at hf;have⟨a,ha,hf⟩:=zbE.1 hf;have HH:=bV h;have HL:=bV hl;have HR:=bV hr;have HE:=bV he;have HA:=bV ha;have B0:=bV hb;obtain⟨T1,k1,rfl⟩:=hl.iface;obtain⟨T2,k2,rfl⟩:=hr.iface;obtain⟨q,rfl⟩:=he.ptr;have⟨c2,c3⟩:=Ov hb;have D1:Hid (w.grownBy w.drew none):=Ad (Aa _);go_in;go_wp21;go_region_held3 (λW=>W.cell? (aD b 2)=some (.iface T1 (pT k1))/\W.cell? (aD b 3)=some (.iface T2 (pT k2))) (go_keep)
    ((go_at_call 167;refine(zab hE ((uh HH).Aq D1.o) ((uh HL).grown D1.o (znL _) (znL _)) ((uh HR).grown D1.o (znL _) (znL _)) ((uh HE).tk (TK.Ae 0 _ D1.o) (List.prefix_refl _)) (uh HA)).mono ?_;rintro e1 w1 ⟨v1,v2,ok,sl1,rfl,hm,hk,hp,hR⟩;have K1:Hid (TK B Vh w w1):=(TK.Ae _ _ D1.o).trans hk;have P1:=bV hp;have R1:=bV hR;have HM:=bV hm;have⟨d2,d3⟩:=Ov (K1.o.cells B0.o dZ);clear hk hp hR hm))
  have⟨a1,a2⟩:=a;cases a1 with
  |none=>
    obtain⟨rfl,h1,rfl⟩:=HM.o;simp[Option.some.injEq]at hf;subst hf;go_wp21;go_ret;exact⟨_,sl1,rfl,rfl,K1.o,uh P1,uh R1⟩
  |some xy=>
    have⟨x,y⟩:=xy;obtain⟨rfl,h1,h2⟩:=HM.o;have HF:=hf;have V1:=bV h1;have V2:=bV h2;obtain⟨T3,p3,rfl⟩:=Ex.iface h1;obtain⟨T4,p4,rfl⟩:=Ex.iface h2;go_wp21;go_call zm0 hE (uh R1) (uh V1) (uh V2) (uh HF) as e1 w2 h2;obtain⟨v,sl2,rfl,hv,hk,hp,hR⟩:=h2;have X:Hid (Bj B w br bud sl c (.returned v) w2):=⟨v,sl2,rfl,hv,K1.o.trans hk,(uh P1).trans hp,hR⟩;go_wp21;go_ret;exact X.o
end
section
variable {B:Nat}
variable{w:World}{br bud b n hi fr to:Nat}{sl:List Nat}{st:Tw.RS}{x:Tw.Val}{v ev v1 v2:Value}{e:Tw.Cr}{c:Option Tw.Val×Tw.RS}
theorem Tk(n:Int):-9223372036854775808<=wrap64 n/\wrap64 n<=9223372036854775807:=by
 unfold wrap64;omega
theorem zjb(h:Dh B w br bud sl st)(d a b:Int):
  Calls prog 169 #[pT br,vI d,vI a,vI b] w (Bj B w br bud sl (Dj d a b st)):=by
 unfold Dj;by_cases g:d=19
 ·subst g;rw[mA rfl];go_in;go_wp21;go_ret;exact⟨_,sl,rfl,⟨rfl,Tk _⟩,TK.refl _ _ _,List.prefix_refl _,h⟩
 rw[jA g];by_cases i:d=20
 ·subst i;rw[mA rfl];go_in;go_wp21;go_ret;exact⟨_,sl,rfl,⟨rfl,Tk _⟩,TK.refl _ _ _,List.prefix_refl _,h⟩
 rw[jA i];by_cases j:d=21
 ·subst j;rw[mA rfl];go_in;go_wp21;go_ret;exact⟨_,sl,rfl,⟨rfl,Tk _⟩,TK.refl _ _ _,List.prefix_refl _,h⟩
 rw[jA j];by_cases k:d=23
 ·subst k;rw[mA rfl];go_in;go_wp21;go_ret;exact⟨_,sl,rfl,rfl,TK.refl _ _ _,List.prefix_refl _,h⟩
 rw[jA k];by_cases l:d=15
 ·subst l;rw[mA rfl];go_in;go_wp21;go_ret;exact⟨_,sl,rfl,rfl,TK.refl _ _ _,List.prefix_refl _,h⟩
 rw[jA l];have o:(d==19)=false:=by simp[g]
 have p:(d==20)=false:=by simp[i]
 have q:(d==21)=false:=by simp[j]
 have r:(d==23)=false:=by simp[k]
 have s:(d==15)=false:=by simp[l]
 by_cases f:b=0
 ·subst f;rw[mA rfl];go_in;go_wp21;go_call zcy h as e1 w1 ⟨v,sl',rfl,hv,hk,hp,hR⟩;have X:Bj B w br bud sl (none,{st with fin:=1}) (.returned v) w1:=⟨v,sl',rfl,hv,hk,hp,hR⟩;go_wp21;go_ret;exact X
 ·rw[jA f];have m:(b==0)=false:=by simp[f]
  go_in;go_wp21;go_ret;exact⟨_,sl,rfl,⟨rfl,Tk _⟩,TK.refl _ _ _,List.prefix_refl _,h⟩
theorem zpp(h:Ex w sl x v):∃T p ok,v=.iface T p/\∀W:World,Sem.run prog (Instr.typeAssert (.iface T p) 119 192 true) W=.ok (.tuple #[vI (Um x),.bool ok]) W:=by
 cases x with
 |num n=>obtain⟨rfl,_⟩:=h;exact⟨_,_,true,rfl,zac _⟩
 |Ak=>obtain rfl:v=_:=h;exact⟨_,_,false,rfl,Vs _⟩
 |side=>obtain rfl:v=_:=h;exact⟨_,_,false,rfl,Yv _⟩
 |pair=>obtain⟨b,v1,v2,rfl,_⟩:=h;exact⟨_,_,false,rfl,Yw _⟩
 |clo=>obtain⟨b,a,ev,v1,hi,rfl,_⟩:=h;exact⟨_,_,false,rfl,zae _⟩
theorem Ow{x y z u q:Value}{t:TypeId}(h:zH w b #[x,y,z,u,q] t):w.cell? (aD b 2)=some z/\w.cell? (aD b 3)=some u/\w.cell? (aD b 4)=some q:=by
 refine⟨?_,?_,?_⟩<;>(rw[mB w b _ _ _ _ h];rfl)
theorem zf7(hE:Ob B n){l r:Tw.T}{lv rv:Value}{sg:Int}(h:Dh B w br bud sl st)
    (hb:zH w b #[vI fr,vI to,vI sg,lv,rv] 322) (hl:Rep w 0 hi l lv) (hr:Rep w 0 hi r rv) (he:Lf w sl e ev) (hf:A9 bud (n+1) (.binary fr to sg l r) e st=some c) :
    Calls prog 91 #[pT br,pT b,ev] w (Bj B w br bud sl c):=by
  rw[Jy]at hf;have⟨a,ha,hf⟩:=zbE.1 hf;obtain⟨T1,k1,rfl⟩:=hl.iface;obtain⟨T2,k2,rfl⟩:=hr.iface;obtain⟨q,rfl⟩:=he.ptr;have⟨c2,c3,c4⟩:=Ow hb;have D1:Hid (w.grownBy w.drew none):=Ad (Aa _);go_in;go_wp21;go_region_held3 (λW=>W.cell? (aD b 3)=some (.iface T1 (pT k1))/\W.cell? (aD b 4)=some (.iface T2 (pT k2))) (go_keep)
    ((go_at_call 167;refine(zab hE (h.Aq D1.o) (hl.grown D1.o (znL _) (znL _)) (hr.grown D1.o (znL _) (znL _)) (he.tk (TK.Ae 0 _ D1.o) (List.prefix_refl _)) ha).mono ?_;rintro e1 w1 ⟨v1,v2,ok,sl1,rfl,hm,hk,hp,hR⟩;have K1:Hid (TK B Vh w w1):=(TK.Ae _ _ D1.o).trans hk;have P1:=bV hp;have R1:=bV hR;have HM:=bV hm;have⟨d2,d3,d4⟩:=Ow (K1.o.cells hb dZ);clear hk hp hR hm))
  have⟨a1,a2⟩:=a;cases a1 with
  |none=>
    obtain⟨rfl,h1,rfl⟩:=HM.o;simp[Option.some.injEq]at hf;subst hf;go_wp21;go_ret;exact⟨_,sl1,rfl,rfl,K1.o,uh P1,uh R1⟩
  |some xy=>
    have⟨x,y⟩:=xy;obtain⟨rfl,h1,h2⟩:=HM.o;simp[Option.some.injEq]at hf;subst hf;obtain⟨T3,p3,ok3,rfl,q3⟩:=zpp h1;obtain⟨T4,p4,ok4,rfl,q4⟩:=zpp h2;go_wp21;go_call zjb (uh R1) sg _ _ as e1 w2 ⟨v,sl2,rfl,hv,hk,hp,hR⟩;have X:Hid (Bj B w br bud sl (Dj sg (Um x) (Um y) a2) (.returned v) w2):=⟨v,sl2,rfl,hv,K1.o.trans hk,(uh P1).trans hp,hR⟩;go_wp21;go_ret;exact X.o
theorem zuq(m:Int)(w:World):Sem.run prog (binOp .eql 119 (.iface 192 (vI m)) (.iface 196 (.bool true))) w=.ok (.bool false) w:=kR
theorem zsc(m:Bool)(w:World):Sem.run prog (binOp .eql 119 (.iface 203 (.agg #[.bool m])) (.iface 196 (.bool true))) w=.ok (.bool false) w:=kR
theorem zsd(m:Option Addr)(w:World):Sem.run prog (binOp .eql 119 (.iface 315 (.pointer m)) (.iface 196 (.bool true))) w=.ok (.bool false) w:=kR
theorem zur(m:Option Addr)(w:World):Sem.run prog (binOp .eql 119 (.iface 216 (.pointer m)) (.iface 196 (.bool true))) w=.ok (.bool false) w:=kR
theorem zpq(w:World):Sem.run prog (binOp .eql 119 (.iface 196 (.bool false)) (.iface 196 (.bool true))) w=.ok (.bool false) w:=kR
theorem zpr(w:World):Sem.run prog (binOp .eql 119 (.iface 196 (.bool true)) (.iface 196 (.bool true))) w=.ok (.bool true) w:=kR
theorem zse(h:Ex w sl x v):∃T p,v=.iface T p/\∀W:World,Sem.run prog (binOp .eql 119 (.iface T p) (.iface 196 (.bool true))) W=.ok (.bool (decide (x=.Ak true))) W:=by
 cases x with
 |num n=>obtain⟨rfl,_⟩:=h;exact⟨_,_,rfl,λW=>zuq n W⟩
 |Ak m=>
  obtain rfl:v=_:=h;refine⟨_,_,rfl,λW=>?_⟩;cases m
  ·exact zpq W
  ·exact zpr W
 |side m=>obtain rfl:v=_:=h;exact⟨_,_,rfl,λW=>zsc m W⟩
 |pair=>obtain⟨b,v1,v2,rfl,_⟩:=h;exact⟨_,_,rfl,λW=>zsd _ W⟩
 |clo=>obtain⟨b,a,ev,v1,hi,rfl,_⟩:=h;exact⟨_,_,rfl,λW=>zur _ W⟩
theorem zf8(q:Ob B n){y i j:Tw.T}{v3:Value}(h:Dh B w br bud sl st)
  (r:zH w b #[vI fr,vI to,v1,v2,v3] 326) (l:Rep w 0 hi y v1) (m:Rep w 0 hi i v2) (o:Rep w 0 hi j v3) (g:Lf w sl e ev) (a:A9 bud (n+1) (.cond fr to y i j) e st=some c) :
  Calls prog 92 #[pT br,pT b,ev] w (Bj B w br bud sl c):=by
 rw[A9]at a;have⟨D,G,a⟩:=zbE.1 a;obtain⟨M,U,rfl⟩:=l.iface;obtain⟨A,I,rfl⟩:=m.iface;obtain⟨C,J,rfl⟩:=o.iface;obtain⟨L,rfl⟩:=g.ptr;have⟨N,O,P⟩:=Ow r;go_in;go_wp21;go_call q h l g G as e1 w1 ⟨v,sl1,rfl,hv,hk,hp,hR⟩;have⟨Q,R,S⟩:=Ow (hk.cells r dZ);have⟨E,F⟩:=D;have z:∀(t:Tw.T) (T k:Nat),Rep w 0 hi t (.iface T (pT k))->A9 bud n t e F=some c->Calls prog 50 #[pT br,.iface T (pT k),.pointer L] w1 (Bj B w br bud sl c):=
  λt T k H a=>(q hR (H.kp (hk.kp dZ)) (g.tk hk hp) a).mono λ_ _ x=>x.from hk hp
 cases E with
 |none=>
  simp[Option.some.injEq]at a;subst a;obtain rfl:v=.nilIface:=hv;go_wp21;go_ret;exact⟨_,sl1,rfl,rfl,hk,hp,hR⟩
 |some x=>
  simp only at a;obtain⟨T,p,rfl,s⟩:=zse hv;by_cases d:x=.Ak true
  ·rw[mA d]at a;have f:=z i A I m a;simp[d,decide_true]at s;go_wp21;go_call f as e1 w2 ⟨v,sl2,rfl,d⟩;have X:Bj B w br bud sl c (.returned v) w2:=⟨v,sl2,rfl,d⟩;go_wp21;go_ret;exact X
  ·rw[jA d]at a;have f:=z j C J o a;simp[d,decide_false]at s;go_wp21;go_call f as e1 w2 ⟨v,sl2,rfl,d⟩;have X:Bj B w br bud sl c (.returned v) w2:=⟨v,sl2,rfl,d⟩;go_wp21;go_ret;exact X
theorem zps(hE:Ob B n){d x:Tw.T}{bat:Nat}{rc:Bool}{bn:zU}(h:Dh B w br bud sl st)
  (hb:zH w b #[vI fr,vI to,.bool rc,ug bn,vI bat,v1,v2] 140) (h1:Rep w 0 hi d v1) (h2:Rep w 0 hi x v2) (he:Lf w sl e ev) (hf:A9 bud (n+1) (.Am fr to rc bn bat d x) e st=some c) :
  Calls prog 93 #[pT br,pT b,ev] w (Bj B w br bud sl c):=by
 rw[A9]at hf;have⟨a,ha,hf⟩:=zbE.1 hf;have hlen:=h.len;obtain⟨T1,k1,rfl⟩:=h1.iface;obtain⟨T2,k2,rfl⟩:=h2.iface;obtain⟨q,rfl⟩:=he.ptr;have lb:b<w.heap.size:=(zgE.1 hb).1;have R0:=h.zls (ov:=none) (hv:=.nilIface) rfl;have A0:w.grownBy (w.alloc (.cells #[.nilIface] 311)) none:=zwA _ _ none;have E0:=he.tk (TK.Ae 0 _ A0) (List.prefix_append sl [w.heap.size]);have⟨c2,c3,c5,c6⟩:=Ba hb;go_in;go_wp21;go_call (zcx E0 bn (k:=sl.length) (bs:=w.heap.size) sM) as e1 w1 ⟨sa,rfl,hg,hn⟩;have G1:=Ab A0 hg;have R1:=R0.Aq hg;have O1:=E0.tk (TK.Ae 0 _ hg) (List.prefix_refl _);have⟨d2,d3,d5,d6⟩:=Ba ((G1.block b lb sM).trans hb);have key:∃iv,iv=(if rc then .pointer sa else .pointer q:Value)/\Lf w1 (sl++[w.heap.size]) (if rc then(bn,st.Al.length)::e else e) iv:=by
  cases rc
  ·exact⟨_,rfl,O1⟩
  ·exact⟨_,rfl,by rw[<-hlen];exact hn⟩
 cases rc<;>(
  simp only[xA,if_false,if_true]at key ha;obtain⟨iv,rfl,hiv⟩:=key;go_wp21;go_call hE R1 (h1.grown G1 (znL _) (znL _)) hiv ha as e1 w2 ⟨v,sl2,rfl,hv,hk,hp,hR⟩;have⟨a1,a2⟩:=a;have K2:=(TK.Ae _ _ G1).trans hk;have P2:=hp;have N2:=hn.tk hk hp;have⟨g2,g3,g5,g6⟩:=Ba (K2.cells hb dZ);have hsl:sl2[sl.length]?=some w.heap.size:=by
   obtain⟨r,rfl⟩:=hp;simp
  cases a1 with
  |none=>
   simp only[zsI]at hf;subst hf;obtain rfl:v=.nilIface:=hv;go_wp21;go_ret;exact⟨_,sl2,rfl,rfl,K2,(List.prefix_append _ _).trans P2,hR⟩
  |some y=>
   simp only at hf;have⟨R3,K3⟩:=hR.ztv hsl (x:=y) (v:=v) hv;have hl2:sl.length<a2.Al.length:=(by rw[<-hR.len];exact(zlE.1 hsl).1);have⟨hv0,hc0,_⟩:=hR.slot hsl (fA hl2);have⟨s0,s1⟩:=Hg hc0;obtain⟨T5,p5,rfl⟩:=Ex.iface hv;have K3:=K2.trans K3;have N3:=N2.tk (TK.set (j:=0) (v:=.iface T5 p5) hc0 dZ (hR.los hsl)) (List.prefix_refl _);have u6:=(Ba (K3.cells hb dZ)).2.2.2;go_wp21;go_call hE R3 (h2.kp (K3.kp dZ)) N3 (by rw[hlen];exact hf) as e1 w4 ⟨v4,sl4,rfl,hv4,hk4,hp4,hR4⟩;have X:Bj B w br bud sl c (.returned v4) w4:=⟨v4,sl4,rfl,hv4,K3.trans hk4,((List.prefix_append _ _).trans P2).trans hp4,hR4⟩;go_wp21;go_ret;exact X)
end
section
variable {B:Nat}
variable{w:World}{br b bud fr to:Nat}{sl:List Nat}{ev:Value}{c:Option Tw.Val×Tw.RS}{st:Tw.RS}{v:Bool}
theorem zsf(e:∃a,ev=.pointer a)(d:Calls prog 88 #[pT br,pT b,ev] w (Bj B w br bud sl c)):
  Calls prog 50 #[pT br,.iface 83 (pT b),ev] w (Bj B w br bud sl c):=by
 obtain⟨a,rfl⟩:=e;have f:=Mm;go_in;go_wp21;go_call d as e1 w1 ⟨v,sl1,rfl,hx⟩;have X:Bj B w br bud sl c (.returned v) w1:=⟨v,sl1,rfl,hx⟩;go_wp21;go_ret;exact X
theorem zsg(e:∃a,ev=.pointer a)(d:Calls prog 89 #[pT br,pT b,ev] w (Bj B w br bud sl c)):
  Calls prog 50 #[pT br,.iface 207 (pT b),ev] w (Bj B w br bud sl c):=by
 obtain⟨a,rfl⟩:=e;have f:=Mq;have g:=zfp;have h:=Uc;have i:=Vm;have j:=Ma;have k:=Qh;go_in;go_wp21;go_call d as e1 w1 ⟨v,sl1,rfl,hx⟩;have X:Bj B w br bud sl c (.returned v) w1:=⟨v,sl1,rfl,hx⟩;go_wp21;go_ret;exact X
theorem zsh(e:∃a,ev=.pointer a)(d:Calls prog 90 #[pT br,pT b,ev] w (Bj B w br bud sl c)):
  Calls prog 50 #[pT br,.iface 209 (pT b),ev] w (Bj B w br bud sl c):=by
 obtain⟨a,rfl⟩:=e;have f:=Mr;have g:=zfq;have h:=Ud;have i:=Vn;have j:=Mb;have k:=Qi;have l:=Qj;go_in;go_wp21;go_call d as e1 w1 ⟨v,sl1,rfl,hx⟩;have X:Bj B w br bud sl c (.returned v) w1:=⟨v,sl1,rfl,hx⟩;go_wp21;go_ret;exact X
theorem zm3(e:∃a,ev=.pointer a)(d:Calls prog 91 #[pT br,pT b,ev] w (Bj B w br bud sl c)):
  Calls prog 50 #[pT br,.iface 211 (pT b),ev] w (Bj B w br bud sl c):=by
 obtain⟨a,rfl⟩:=e;have f:=Jv;have g:=zb0;have h:=Rh;have i:=Rx;have j:=Jw;have k:=Nk;have l:=Nl;have m:=Kl;go_in;go_wp21;go_call d as e1 w1 ⟨v,sl1,rfl,hx⟩;have X:Bj B w br bud sl c (.returned v) w1:=⟨v,sl1,rfl,hx⟩;go_wp21;go_ret;exact X
theorem zvp(e:∃a,ev=.pointer a)(d:Calls prog 92 #[pT br,pT b,ev] w (Bj B w br bud sl c)):
  Calls prog 50 #[pT br,.iface 213 (pT b),ev] w (Bj B w br bud sl c):=by
 obtain⟨a,rfl⟩:=e;have f:=Qk;have g:=zmb;have h:=Yn;have i:=Z3;have j:=Ph;have k:=Us;have l:=Ut;have m:=Ql;have n:=Z4;go_in;go_wp21;go_call d as e1 w1 ⟨v,sl1,rfl,hx⟩;have X:Bj B w br bud sl c (.returned v) w1:=⟨v,sl1,rfl,hx⟩;go_wp21;go_ret;exact X
theorem zus(e:∃a,ev=.pointer a)(d:Calls prog 93 #[pT br,pT b,ev] w (Bj B w br bud sl c)):
  Calls prog 50 #[pT br,.iface 136 (pT b),ev] w (Bj B w br bud sl c):=by
 obtain⟨a,rfl⟩:=e;have f:=Ou;have g:=zie;have i:=Vp;have j:=Yp;have k:=No;have l:=Sa;have m:=Sb;have n:=Pj;have o:=Xf;have p:=Kn;have h:=Ko;go_in;go_wp21;go_call d as e1 w1 ⟨v,sl1,rfl,hx⟩;have X:Bj B w br bud sl c (.returned v) w1:=⟨v,sl1,rfl,hx⟩;go_wp21;go_ret;exact X
theorem zut{v:Int}(h:Dh B w br bud sl st)(e:∃a,ev=.pointer a)(d:zH w b #[vI fr,vI to,vI v] 194)(hv :-9223372036854775808<=v/\v<=9223372036854775807):
  Calls prog 50 #[pT br,.iface 191 (pT b),ev] w (Bj B w br bud sl (some (.num v),st)):=by
 obtain⟨a,rfl⟩:=e;have⟨_,_,f,_⟩:=Ag d;have g:=On;have i:=zib;go_in;go_wp21;go_ret;exact⟨_,sl,rfl,⟨rfl,hv⟩,TK.refl _ _ _,List.prefix_refl _,h⟩
theorem zpt(h:Dh B w br bud sl st)(e:∃a,ev=.pointer a)(d:zH w b #[vI fr,vI to,.bool v] 198):
  Calls prog 50 #[pT br,.iface 195 (pT b),ev] w (Bj B w br bud sl (some (.Ak v),st)):=by
 obtain⟨a,rfl⟩:=e;have⟨_,_,f,_⟩:=Ag d;have g:=Li;have i:=zdz;have j:=Rs;go_in;go_wp21;go_ret;exact⟨_,sl,rfl,rfl,TK.refl _ _ _,List.prefix_refl _,h⟩
theorem zsi(h:Dh B w br bud sl st)(e:∃a,ev=.pointer a)(d:zH w b #[vI fr,vI to,.bool v] 201):
  Calls prog 50 #[pT br,.iface 199 (pT b),ev] w (Bj B w br bud sl (some (.side v),st)):=by
 obtain⟨a,rfl⟩:=e;have⟨_,_,f,_⟩:=Ag d;have g:=Mp;have i:=zfo;have j:=Ub;have k:=Vl;go_in;go_wp21;go_ret;exact⟨_,sl,rfl,rfl,TK.refl _ _ _,List.prefix_refl _,h⟩
theorem zjc{d:Value}(g:∃a,ev=.pointer a)(hi:∃T n,d=.iface T (pT n))(f:zH w b #[vI fr,vI to,d] 206)
  (e:Calls prog 50 #[pT br,d,ev] w (Bj B w br bud sl c)) :
  Calls prog 50 #[pT br,.iface 204 (pT b),ev] w (Bj B w br bud sl c):=by
 obtain⟨a,rfl⟩:=g;obtain⟨T,k,rfl⟩:=hi;have⟨_,_,h,_⟩:=Ag f;have i:=Jd;have j:=Z2;have l:=Pt;have m:=Rg;have o:=Jh;go_in;go_wp21;go_call e as e1 w1 ⟨v,sl1,rfl,hx⟩;have X:Bj B w br bud sl c (.returned v) w1:=⟨v,sl1,rfl,hx⟩;go_wp21;go_ret;exact X
theorem zuu{hi:Nat}{e:Cr}{a:Value}{bat:Nat}{bn:zU}{body:Tw.T}(h:Dh B w br bud sl st)(d:Lf w sl e ev)(g:zH w b #[vI fr,vI to,ug bn,vI bat,a] 235)(i:Rep w 0 hi body a):
  Calls prog 50 #[pT br,.iface 215 (pT b),ev] w (Bj B w br bud sl (some (.clo fr to bn bat body e),st)):=by
 obtain⟨f,rfl⟩:=d.ptr;have j:=Ot;have k:=zid;have l:=Vo;have m:=Yo;have n:=Nn;have o:=Ry;have p:=Rz;have q:=Pi;have r:=Xe;have s:=Km;go_in;go_wp21;go_ret;have G:=zwA w (.cells #[pT b,.pointer f] 218) none;exact⟨_,sl,rfl,⟨_,b,_,a,hi,rfl,Ac w _,zbG G g,i.grown G (znL _) (znL _),d.tk (TK.Ae 0 _ G) (List.prefix_refl _)⟩,TK.Ae _ _ G,List.prefix_refl _,h.Aq G⟩
theorem zm4{n:Nat}(p:Ob B n):Ob B (n+1):=by
 intro w br bud C sl st t A E ev D k m g h;cases t with
 |name fr to x=>
  obtain⟨b,_,_,rfl,e⟩:=m;exact zsf g.ptr (zmx k e g h)
 |int fr to v=>
  obtain⟨b,_,_,rfl,e⟩:=m;rw[A9]at h;split at h
  ·rename_i y;cases h;exact zut k g.ptr e y
  ·cases h
 |Ak fr to v=>
  obtain⟨b,_,_,rfl,e⟩:=m;cases h;exact zpt k g.ptr e
 |side fr to v=>
  obtain⟨b,_,_,rfl,e⟩:=m;cases h;exact zsi k g.ptr e
 |bracket fr to i=>
  obtain⟨r,⟨b,_,_,rfl,e⟩,j⟩:=m;exact zjc g.ptr j.iface e (p k j g h)
 |pair fr to l q=>
  obtain⟨r,s,⟨b,_,_,rfl,e⟩,j,o⟩:=m;exact zsg g.ptr (zmy p k e j o g h)
 |call fr to f a=>
  obtain⟨r,s,⟨b,_,_,rfl,e⟩,j,o⟩:=m;exact zsh g.ptr (zm2 p k e j o g h)
 |binary fr to sg l q=>
  obtain⟨r,s,⟨b,_,_,rfl,e⟩,j,o⟩:=m;exact zm3 g.ptr (zf7 p k e j o g h)
 |cond fr to c t f=>
  obtain⟨r,s,F,⟨b,_,_,rfl,e⟩,j,o,z⟩:=m;exact zvp g.ptr (zf8 p k e j o z g h)
 |fn fr to bn bat body=>
  obtain⟨r,⟨b,_,_,rfl,e⟩,j⟩:=m;cases h;exact zuu k g e j
 |Am fr to rc bn bat d x=>
  obtain⟨r,s,⟨b,_,_,rfl,e⟩,j,o⟩:=m;exact zus g.ptr (zps p k e j o g h)
theorem zf9:∀n,Ob B n
 |0=>λ_ _ _ a=>by simp[A9]at a
 |n+1=>zm4 (zf9 n)
end
end
end Go.Proofs.YtckhafpejefbbaaGreatDoor
