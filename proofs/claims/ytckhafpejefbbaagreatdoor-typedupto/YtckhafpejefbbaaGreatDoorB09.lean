import Derived.Test.YtckhafpejefbbaaGreatDoorB08
import Derived.Deep.RegionHeld3

set_option maxRecDepth 100000
set_option maxHeartbeats 4000000
namespace Go.Proofs.YtckhafpejefbbaaGreatDoor
section
abbrev vD:=@World.cell?_of_block
end
section
open Tw Go.Proofs.Tryz
open Go.RowKit
theorem ziu (hPI:Said.ParseInt) {w:World} {bp gt cap:Nat} {cur:Array Value} {s:ByteArray} {ts:List Tw.Tok} {st st':PS} {tk:Tw.Tok}
    (h:PCtx w bp gt cap cur s ts st) (ht:tokS ts st=some tk) {r:Tw.Tok} (b16:(tk.sort==16)=false) (hb:Aj tk.sort=true) (hf:Tw.Au ts tk.sort st=some (r,st')) (b2:(tk.sort==2)=true) (hp1:tk.fr<=tk.to) (hp2:tk.to<=s.size) {v:Int} (hv:Lib.parseIntB 64 (Bf s.data.toList tk.fr tk.to)=.ok v) :
    Calls prog 233 #[pT bp] w (Jg w bp gt cap cur s ts (.int tk.fr tk.to v) st'):=by
  have HH:Hid (PCtx w bp gt cap cur s ts st):=h
  have HT:Hid (tokS ts st=some tk):=ht
  have hbp:=h.Gp
  have hgt:=h.Hs
  have hsz:=h.size
  have H2:Hid (Tw.Au ts tk.sort st=some (r,st')):=hf
  have HB:Hid (Aj tk.sort=true):=hb
  clear h ht hf hb
  go_in
  go_wp2_with fail
  refine(Ca HH.o HT.o).mono ?_
  rintro e w1 ⟨rfl,hg⟩
  have P1:Hid (PCtx w1 bp gt cap cur s ts st):=HH.o.kept hg
  have K1:Hid (Keep bp w w1):=Keep.of_none hg
  have z1:w.heap.size<=w1.heap.size:=hg.size
  clear hg
  go_wp2_with fail
  refine(Cz _ _).mono ?_
  rintro e w2 ⟨rfl,rfl⟩
  rw[HB.o]
  go_wp2_with fail
  refine(Cy (P1.o.alloc _) _ H2.o).mono ?_
  rintro e w3 ⟨rfl,hk,h⟩
  have P3:Hid (PCtx w3 bp gt cap cur s ts st'):=h
  have K3:Hid (Keep bp w w3):=(K1.o.alloc _).trans hk
  have z3:w1.heap.size<w3.heap.size:=by have:=hk.size;simp at this;omega
  have L3:=An (hk.at (Ac w1 _) oM)
  obtain⟨a0,a1,a2,f0,f1,f2⟩:=L3
  obtain⟨p0,p1,p2,p3,p4,p5⟩:=P3.o.p
  have hbp3:bp<w3.heap.size:=oM
  clear hk h p1 p2 p3 p4 p5
  have hq1:(tk.fr:Int)<=(tk.to:Int):=oM
  have hq2:(tk.to:Int)<=(s.size:Int):=oM
  have hvs:(s.extract tk.fr tk.to).size<=300:=by simp[ByteArray.size_extract];omega
  have HV:Hid (Lib.parseIntB 64 (s.extract tk.fr tk.to).data.toList=.ok v):=by show _=_;rw[Iu];exact hv
  clear hv
  go_wp2_with fail
  clear a0 f0 f1 f2
  go_region_held3 (λW=>W.cell? (aD w3.heap.size 0)=some (vI tk.fr)/\W.cell? (aD w3.heap.size 1)=some (vI tk.to)/\W.cell? (aD bp 0)=some (.string s)/\W.cell? (aD w1.heap.size 1)=some (vI tk.fr)/\W.cell? (aD w1.heap.size 2)=some (vI tk.to)) (go_keep)
    ((go_at_call 238; refine (zf9 hPI _ hvs _ HV.o _).mono ?_; rintro e w4 ⟨rfl,hg⟩
      have hg4:Hid (((w3.alloc (.cells #[vI tk.fr,vI tk.to] 85)).drew).grownBy w4 none):=hg
      have q4:=Be ((hg.block _ sM sM).trans (Ac w3 (.cells #[vI tk.fr,vI tk.to] 85)))
      obtain ⟨q0,q1,_,_⟩:=q4
      have r0:w4.cell? (aD bp 0)=some (.string s):=by
        rw [vD (w:=(w3.alloc (.cells #[vI tk.fr,vI tk.to] 85)).drew) (hg.block bp (by simp; omega) sM)]
        go_simp
      have r1:w4.cell? (aD w1.heap.size 1)=some (vI tk.fr):=by
        rw [vD (w:=(w3.alloc (.cells #[vI tk.fr,vI tk.to] 85)).drew) (hg.block w1.heap.size (by simp; omega) sM)]
        go_simp
      have r2:w4.cell? (aD w1.heap.size 2)=some (vI tk.to):=by
        rw [vD (w:=(w3.alloc (.cells #[vI tk.fr,vI tk.to] 85)).drew) (hg.block w1.heap.size (by simp; omega) sM)]
        go_simp
      clear hg))
  go_wp2_with fail
  go_ret
  go_light
  have z4:=hg4.o.size
  simp at z4
  have G4:w3.grownBy w4 none:=Ab (Ad (zwA w3 _ none)) hg4.o
  exact⟨_,rfl,(K3.o.trans (Keep.of_none G4)).alloc _,(P3.o.kept G4).alloc _,⟨w4.heap.size,oM,sM,rfl,Ac w4 _⟩⟩
theorem zgj{n:Nat}(B:Said.ParseInt)(A:Cf 237 Ba n):Cf 233 Cs (n+1):=by
 intro R F I G H z O L N M h v;rw[Cs]at v;obtain⟨tk,g,f⟩:=zbE.1 v;by_cases q:tk.sort=16
 ·rw[mA q]at f;exact Zg A h g (by simp[q]) f
 rw[jA q]at f;have i:(tk.sort==16)=false:=by simp[q]
 cases e:Aj tk.sort
 ·rw[e]at f;simp only[xA,if_false]at f;obtain⟨E,C,s⟩:=zbE.1 f;simp only[zsI,zpI]at s;obtain⟨rfl,rfl⟩:=s;exact zgg h g i e C
 rw[e]at f;simp only[if_true]at f;obtain⟨⟨J,E⟩,k,s⟩:=zbE.1 f;obtain⟨S,a,w⟩:=zbE.1 s;simp only[zsI,zpI]at w;obtain⟨rfl,rfl⟩:=w;have x:z.data.toList.length=z.size:=rfl;unfold Ks at a;by_cases r:tk.sort=2
 ·rw[mA r]at a;split at a;rotate_left
  ·cases a
  rename_i o;obtain⟨P,p,y⟩:=zbE.1 a;simp only[zsI]at y;subst y;unfold Lw at p;split at p;rotate_left
  ·cases p
  rename_i Q D;simp only[zsI]at p;subst p;exact ziu B h g i e k (by simp[r]) o.1 (by rw[<-x];exact o.2) D
 rw[jA r]at a;have m:(tk.sort==2)=false:=by simp[r]
 by_cases c:tk.sort=10\/tk.sort=11
 ·rw[mA c]at a;simp only[zsI]at a;subst a;rcases c with c|c
  ·have d:(tk.sort==10)=true:=(by simp[c]);rw[d];exact zgh h g i e k m d
  ·have d:(tk.sort==10)=false:=(by simp[c]);rw[d];exact zc4 h g i e k m d (by simp[c])
 rw[jA c]at a;have d:(tk.sort==10)=false:=by simp;exact λj=>c (.inl j)
 have t:(tk.sort==11)=false:=by simp;exact λj=>c (.inr j)
 by_cases b:tk.sort=12\/tk.sort=13
 ·rw[mA b]at a;simp only[zsI]at a;subst a;rcases b with b|b
  ·have l:(tk.sort==13)=false:=(by simp[b]);rw[l];exact zis h g i e k m d t (by simp[b]) l
  ·have l:(tk.sort==13)=true:=(by simp[b]);rw[l];exact zit h g i e k m d t (by simp[b]) l
 rw[jA b]at a;split at a;rotate_left
 ·cases a
 rename_i o;simp only[zsI]at a;subst a;exact zgi h g i e k m d t (by simp;exact λj=>b (.inl j)) (by simp;exact λj=>b (.inr j)) o.1 (by rw[<-x];exact o.2)
structure PAll(n:Nat):Prop where
 expr:Cf 81 A8 n
 lett:Cf 156 letS n
 fn:Cf 157 funS n
 cond:Cf 158 Ee n
 cmp:Cf 159 cmpS n
 sum:Cf 206 sumS n
 term:Cf 218 Dp n
 call:Cf 225 Dj n
 atom:Cf 233 Cs n
 bracket:Cf 237 Ba n
theorem zgk(d:Said.ParseInt):∀n,PAll n:=by
 intro n
 induction n using Nat.strongRecOn with
 |_ n ih=>
  cases n with
  |zero=>
   constructor
   all_goals
    intro w e h f g s l j t k i a
    first
     |(simp[A8]at a;done)|(simp[letS]at a;done)|(simp[funS]at a;done)|(simp[Ee]at a;done)|(simp[cmpS]at a;done)
     |(simp[sumS]at a;done)|(simp[Dp]at a;done)|(simp[Dj]at a;done)|(simp[Cs]at a;done)|(simp[Ba]at a;done)
  |succ n=>
   have b:=ih n oM;exact
    {expr:=zga b.lett b.fn b.cond b.cmp
     lett:=zio b.expr
     fn:=zin b.expr
     cond:=zgb b.expr
     cmp:=ziq b.sum
     sum:=zir λm c=>(ih m oM).term
     term:=zge λm c=>(ih m oM).call
     call:=zgf λm c=>(ih m oM).atom
     atom:=zgj d b.bracket
     bracket:=Zf b.expr}
end
section
open Tw Go.Proofs.Tryz
open Go.RowKit
variable{w:World}{v x y z u q:Value}{ts:List Tw.Tok}{b:Nat}{t:TypeId}
structure TokRow(w:World)(gt cap:Nat)(cur:Array Value)(ts:List Tw.Tok):Prop where
 row:w.heap[gt]?=some (.cells cur 176 (0,0))
 cells:cur.toList.take (ts.length*3)=Ch ts
 len:ts.length<=cap
 capm:cap<=maxLen
 many:ts.length<=301
theorem TokRow.ze6{base:Nat}(h:w.ownsRow base 176 3 v ts.length (Ch ts))(m:0<ts.length)(e:ts.length<=301):
  ∃c cap a,v=sL c ts.length cap/\base<=c/\TokRow w c cap a ts:=by
 rcases h.2 with⟨_,d⟩|⟨g,cap,a,l,f,j,d,i,_,k⟩
 ·omega
 ·exact⟨g,cap,a,l,f,⟨j,k,d,i,e⟩⟩
def zkr(w:World)(r:Except Nat Tw.T)(e:Ending)(a:World):Prop:=w.grownBy a none /\
 match r with
 |.ok t=>∃v,e=.returned (.tuple #[v,.int .i64 0,.bool true])/\Rep a w.heap.size a.heap.size t v
 |.error k=>e=.returned (.tuple #[.nilIface,.int .i64 k,.bool false])
theorem Pz{a:World}{o:Obj}(h:Keep w.heap.size (w.alloc o) a):w.grownBy a none:=
 ⟨h.os,h.tape,h.output,by have:=h.size;simp at this;omega,λk c _=>by rw[h.block k (by simp;omega) (by simp;omega)];exact Below.heap_alloc w o k c⟩
theorem zay(H:Said.ParseInt){a cap:Nat}{g:Array Value}(h:TokRow w a cap g ts)(s:ByteArray)(J:s.size<=300){fuel:Nat}{r:Except Nat Tw.T}(E:Fk s.data.toList ts fuel=some r):
  Calls prog 47 #[.string s,sL a ts.length cap] w (zkr w r):=by
 unfold Fk at E;obtain⟨⟨t,j⟩,L,I⟩:=zbE.1 E;obtain⟨⟨tk,k⟩,F,d⟩:=zbE.1 I;simp only[zsI]at d;simp only at F;have M:a<w.heap.size:=(zgE.1 h.row).1;have D:Hid (PCtx (w.alloc (.cells #[.string s,sL a ts.length cap,vI 0,vI 0,.bool false,vI 0] 179)) w.heap.size a cap g s ts ⟨0,0,false,0⟩):=
  {parser:=Ac w _,row:=Ly h.row _,ne:=oM,cells:=h.cells,len:=h.len,capm:=h.capm,size:=J,many:=h.many,nxt:=sM,dep:=sM}
 have A:Hid (A8 s.data.toList ts fuel ⟨0,0,false,0⟩=some (t,j)):=L;have B:Hid (Tw.Au ts 0 j=some (tk,k)):=F;have C:PAll fuel:=zgk H fuel;cases i:k.stuck
 ·rw[i]at d;simp only[xA,if_false]at d;subst d;have l:Hid (k.stuck=false):=i
  go_in;go_wp2_with fail;refine(C.expr D.o A.o).mono ?_;rintro o e ⟨v,rfl,c,h,r⟩;have n:Hid (PCtx e w.heap.size a cap g s ts j):=h;have m:Hid (Keep w.heap.size (w.alloc (.cells #[.string s,sL a ts.length cap,vI 0,vI 0,.bool false,vI 0] 179)) e):=c;have G:Hid (Rep e (w.heap.size+1) e.heap.size t v):=by show Rep _ _ _ _ _;simpa using r
  go_wp2_with fail;refine(Cy n.o _ B.o).mono ?_;rintro o f ⟨rfl,c,h⟩;have X:Hid (w.grownBy f none/\Rep f w.heap.size f.heap.size t v):=⟨Pz (m.o.trans c),G.o.keep c oM oM c.size⟩;have p:=h.p.2.2.2.2.1;rw[l.o]at p;go_wp2_with fail;go_ret3;exact⟨X.o.1,_,rfl,X.o.2⟩
 ·rw[i]at d;simp only[if_true]at d;subst d;have l:Hid (k.stuck=true):=i
  go_in;go_wp2_with fail;refine(C.expr D.o A.o).mono ?_;rintro o e ⟨v,rfl,c,h,r⟩;have n:Hid (PCtx e w.heap.size a cap g s ts j):=h;have m:Hid (Keep w.heap.size (w.alloc (.cells #[.string s,sL a ts.length cap,vI 0,vI 0,.bool false,vI 0] 179)) e):=c;go_wp2_with fail;refine(Cy n.o _ B.o).mono ?_;rintro o f ⟨rfl,c,h⟩;have X:Hid (w.grownBy f none):=Pz (m.o.trans c);obtain⟨_,_,_,_,p,N⟩:=h.p;rw[l.o]at p;go_wp2_with fail;go_region;go_wp2_with fail;go_ret3;exact⟨Ad X.o,rfl⟩
theorem Rep.iface{lo hi:Nat}{t:Tw.T}(h:Rep w lo hi t v):∃T b,v=.iface T (pT b):=by
 obtain⟨b,_,_,a,_⟩:=h.node;exact⟨_,b,a⟩
theorem Ev(h:w.heap[b]?=some (.cells #[x,y,z,u,q] t (0,0))):
  w.cell? (aD b 0)=some x/\w.cell? (aD b 1)=some y/\w.cell? (aD b 2)=some z/\w.cell? (aD b 3)=some u/\w.cell? (aD b 4)=some q:=by
 refine⟨?_,?_,?_,?_,?_⟩<;>(rw[mB w b _ _ _ _ h];rfl)
theorem Bg{r s:Value}(h:w.heap[b]?=some (.cells #[x,y,z,u,q,r,s] t (0,0))):
  w.cell? (aD b 2)=some z/\w.cell? (aD b 3)=some u/\w.cell? (aD b 5)=some r/\w.cell? (aD b 6)=some s:=by
 refine⟨?_,?_,?_,?_⟩<;>(rw[mB w b _ _ _ _ h];rfl)
end
end Go.Proofs.YtckhafpejefbbaaGreatDoor
namespace Go.Proofs.YtckhafpejefbbaaGreatDoor.Tw
section
open Go
structure Sh where
 sort:Int
 left:Nat
 right:Nat
 same:Nat
 deriving DecidableEq
structure SS where
 shs:List Sh
 clash:Bool
 deriving DecidableEq
def addS(of:Int)(l r:Nat)(st:SS):Option (Nat×SS):=
 if st.shs.length<=10000000 then some (st.shs.length,{st with shs:=st.shs++[⟨of,l,r,st.shs.length⟩]})else none
def Bh(st:SS)(r:Nat)(x:Sh)(n:Nat):SS:={st with shs:=st.shs.set r {x with same:=n}}
def Ga:Nat->SS->Nat->Option (Nat×SS)
 |0,_,_=>none
 |n+1,st,r=>match st.shs[r]? with
  |none=>none
  |some x=>if x.same=r then some (r,st)else match st.shs[x.same]? with
   |none=>none
   |some y=>Ga n (Bh st r x y.same) x.same
def Dk:Nat->SS->Nat->Nat->Option SS
 |0,_,_,_=>none
 |n+1,st,a,b=>(Ga n st a).bind λp=>(Ga n p.2 b).bind λq=>
  match q.2.shs[p.1]?,q.2.shs[q.1]? with
  |some x,some y=>
   if p.1=q.1 then some q.2
   else if x.sort=0 then some (Bh q.2 p.1 x q.1)
   else if y.sort=0 then some (Bh q.2 q.1 y p.1)
   else if x.sort=y.sort then(Dk n (Bh q.2 p.1 x q.1) x.left y.left).bind λst'=>Dk n st' x.right y.right
   else some {q.2 with clash:=true}
  |_,_=>none
inductive En where
 |nil
 |fix (name:List UInt8) (r:Nat) (o:En)
 |dfn (name:List UInt8) (t:T) (o:En)
def En.look:En->List UInt8->Option (Nat ⊕ (T×En))
 |.nil,_=>none
 |.fix n r o,x=>if n=x then some (.inl r)else o.look x
 |.dfn n t o,x=>if n=x then some (.inr (t,o))else o.look x
mutual
def Ax:Nat->T->En->SS->Option (Nat×SS)
 |0,_,_,_=>none
 |n+1,.name _ _ x,e,st=>match e.look x with
  |none=>none
  |some (.inl r)=>some (r,st)
  |some (.inr (t,o))=>defS n t o st
 |_+1,.int _ _ _,_,st=>some (0,st)
 |_+1,.truth _ _ _,_,st=>some (1,st)
 |_+1,.side _ _ sec,_,st=>(addS 0 0 0 st).bind λa=>(addS 0 0 0 a.2).bind λb=>(addS 4 a.1 b.1 b.2).bind λp=>addS 3 p.1 (if sec then b.1 else a.1) p.2
 |n+1,.bracket _ _ i,e,st=>Ax n i e st
 |n+1,.pair _ _ l r,e,st=>(Ax n l e st).bind λa=>(Ax n r e a.2).bind λb=>addS 4 a.1 b.1 b.2
 |n+1,.call _ _ f a,e,st=>(Ax n f e st).bind λx=>(Ax n a e x.2).bind λy=>(addS 0 0 0 y.2).bind λto=>
  (addS 3 y.1 to.1 to.2).bind λk=>(Dk n k.2 x.1 k.1).bind λst'=>some (to.1,st')
 |n+1,.binary _ _ sg l r,e,st=>(Ax n l e st).bind λx=>(Dk n x.2 x.1 0).bind λh=>(Ax n r e h).bind λy=>(Dk n y.2 y.1 0).bind λj=>
  some (if sg=23\/sg=15 then 1 else 0,j)
 |n+1,.cond _ _ c t f,e,st=>(Ax n c e st).bind λx=>(Dk n x.2 x.1 1).bind λh=>(Ax n t e h).bind λy=>(Ax n f e y.2).bind λz=>
  (Dk n z.2 y.1 z.1).bind λj=>some (y.1,j)
 |n+1,.fn _ _ bn _ b,e,st=>(addS 0 0 0 st).bind λg=>(Ax n b (.fix bn g.1 e) g.2).bind λto=>addS 3 g.1 to.1 to.2
 |n+1,.lett fr to rc bn bat d b,e,st=>(defS n (.lett fr to rc bn bat d b) e st).bind λx=>Ax n b (.dfn bn (.lett fr to rc bn bat d b) e) x.2
def defS:Nat->T->En->SS->Option (Nat×SS)
 |0,_,_,_=>none
 |n+1,.lett _ _ false _ _ d _,e,st=>Ax n d e st
 |n+1,.lett _ _ true bn _ d _,e,st=>(addS 0 0 0 st).bind λown=>(Ax n d (.fix bn own.1 e) own.2).bind λx=>(Dk n x.2 own.1 x.1).bind λst'=>some (own.1,st')
 |_+1,_,_,_=>none
end
end
end Go.Proofs.YtckhafpejefbbaaGreatDoor.Tw
namespace Go.Proofs.YtckhafpejefbbaaGreatDoor
section
theorem dZ{p:Prop}(h:p:=by decide):p:=h
end
section
open Tw Go.Proofs.Tryz
open Go.RowKit
variable{bs g n:Nat}{a b c w w':World}{o:Obj}{v:Value}
def Ua(x:Sh):List Value:=[.int .i64 x.sort,.int .i64 x.left,.int .i64 x.right,.int .i64 x.same]
def Dc:List Sh->List Value
 |[]=>[]
 |x::l=>Ua x++Dc l
theorem Vl(a b:List Sh):Dc (a++b)=Dc a++Dc b:=by
 induction a with
 |nil=>rfl
 |cons t a ih=>simp[Dc,ih]
theorem Vm(a:List Sh):(Dc a).length=a.length*4:=by
 induction a with
 |nil=>rfl
 |cons t a ih=>simp[Dc,Ua,ih];omega
theorem zaz(l:List Sh)(j:Nat)(x:Sh)(h:l[j]?=some x):
  (Dc l)[j*4]?=some (vI x.sort)/\(Dc l)[j*4+1]?=some (vI x.left)/\(Dc l)[j*4+2]?=some (vI x.right)/\(Dc l)[j*4+3]?=some (vI x.same):=by
 induction l generalizing j with
 |nil=>simp at h
 |cons a l ih=>
  cases j with
  |zero=>simp at h;subst h;simp[Dc,Ua]
  |succ j=>
   have:=ih j (by simpa using h);simp only[Dc,Ua];rw[show(j+1)*4=j*4+1+1+1+1 from oM];simpa using this
def zks(o:Option Obj):Prop:=∀d m,o≠some (.cells d 334 m)
structure SK(bs:Nat)(w w':World):Prop where
 os:w'.os=w.os
 tape:w'.tape=w.tape
 output:w'.output=w.output
 size:w.heap.size<=w'.heap.size
 block:∀k,k<w.heap.size->k≠bs->(k<bs\/zks w.heap[k]?)->w'.heap[k]?=w.heap[k]?
theorem SK.refl(bs:Nat)(w:World):SK bs w w:=⟨rfl,rfl,rfl,znL _,λ_ _ _ _=>rfl⟩
theorem SK.trans(h:SK bs a b)(k:SK bs b c):SK bs a c:=
 ⟨k.os.trans h.os,k.tape.trans h.tape,k.output.trans h.output,kB h.size k.size,λj f d i=>by
  have e:=h.block j f d i;rw[k.block j (aB f h.size) d (i.imp id λq=>by rw[e];exact q),e]⟩
theorem SK.of_none(h:w.grownBy w' none):SK bs w w':=⟨h.os,h.tape,h.output,h.size,λi d _ _=>h.block i d sM⟩
theorem SK.set(h:SK bs a w)(j:Nat)(v:Value):SK bs a (w.setCell (aD bs j) v):=
 h.trans ⟨rfl,rfl,rfl,sM,λk _ d _=>aA w (aD bs j) k v (by simpa using d)⟩
theorem SK.at(h:SK bs w w'){b:Nat}(d:w.heap[b]?=some o)(e:b≠bs)(f:zks (some o)):w'.heap[b]?=some o:=by
 rw[h.block b (zgE.1 d).1 e (.inr (by rw[d];exact f))];exact d
structure UK(bs g:Nat)(w w':World):Prop where
 os:w'.os=w.os
 tape:w'.tape=w.tape
 output:w'.output=w.output
 size:w.heap.size<=w'.heap.size
 block:∀k,k<w.heap.size->k≠bs->k≠g->w'.heap[k]?=w.heap[k]?
theorem UK.refl(bs g:Nat)(w:World):UK bs g w w:=⟨rfl,rfl,rfl,znL _,λ_ _ _ _=>rfl⟩
theorem UK.trans(h:UK bs g a b)(k:UK bs g b c):UK bs g a c:=
 ⟨k.os.trans h.os,k.tape.trans h.tape,k.output.trans h.output,kB h.size k.size,λi e d f=>(k.block i (aB e h.size) d f).trans (h.block i e d f)⟩
theorem UK.of_none(h:w.grownBy w' none):UK bs g w w':=⟨h.os,h.tape,h.output,h.size,λi d _ _=>h.block i d sM⟩
theorem UK.drew(h:UK bs g a w):UK bs g a w.drew:=⟨h.os,h.tape,h.output,h.size,h.block⟩
theorem UK.alloc(h:UK bs g a w)(o:Obj):UK bs g a (w.alloc o):=h.trans (UK.of_none (zwA w o none))
theorem UK.set(h:UK bs g a w)(j:Nat)(v:Value):UK bs g a (w.setCell (aD bs j) v):=
 h.trans ⟨rfl,rfl,rfl,sM,λk _ d _=>aA w (aD bs j) k v (by simpa using d)⟩
theorem UK.setRow(h:UK bs g a w)(j:Nat)(v:Value):UK bs g a (w.setCell (aD g j) v):=
 h.trans ⟨rfl,rfl,rfl,sM,λk _ _ d=>aA w (aD g j) k v (by simpa using d)⟩
theorem UK.at(h:UK bs g w w'){b:Nat}(d:w.heap[b]?=some o)(e:b≠bs)(f:b≠g):w'.heap[b]?=some o:=by
 rw[h.block b (zgE.1 d).1 e f];exact d
theorem UK.sk(h:UK bs g w w'){d:Array Value}{m:Nat×Nat}(i:w.heap[g]?=some (.cells d 334 m))(p:bs<=g):SK bs w w':=
 ⟨h.os,h.tape,h.output,h.size,λk j f l=>h.block k j f (λe=>by subst e;exact l.elim (λq=>oM) (λq=>q _ _ i))⟩
structure SolAt(w:World)(bs:Nat)(v:Value)(st:SS):Prop where
 solver:w.heap[bs]?=some (.cells #[v,.bool st.clash] 128 (0,0))
 owns:w.ownsRow bs 334 4 v st.shs.length (Dc st.shs)
 ne:v.ownBlock≠some bs
 many:st.shs.length<=10000001
theorem Tryz.info334:(Tryz.prog.info? 334).map (λi=>(i.zero,i.size,i.bytes))=some (some (.agg #[vI 0,vI 0,vI 0,vI 0]),4,32):=kR
theorem Xj(w:World)(a b c d:Value)(t:TypeId):∀j u,[a,b,c,d][j]?=some u->(w.alloc (.cells #[a,b,c,d] t)).cell? (((aD w.heap.size 0):Addr).add j)=some u:=by
 intro j u e
 match j,e with
 |0,e=>simp at e;subst e;simp[Addr.add]
 |1,e=>simp at e;subst e;simp[Addr.add]
 |2,e=>simp at e;subst e;simp[Addr.add]
 |3,e=>simp at e;subst e;simp[Addr.add]
 |j+4,e=>simp at e
theorem ziv{l:List Value}(j:w.ownsRow bs 334 4 v n l)(d:w.grownBy w' v.ownBlock):SK bs w w':=
 ⟨d.os,d.tape,d.output,d.size,λk h _ i=>d.block k h (λe=>by
  rcases j.2 with⟨rfl,_⟩|⟨g,m,p,rfl,r,f,_⟩
  ·simp[Value.ownBlock]at e
  ·simp[Value.ownBlock]at e;subst e;exact i.elim (λq=>oM) (λq=>q _ _ f))⟩
theorem Zh {st st':SS} (h:SolAt w bs v st) (of:Int) (l r:Nat)  (hf:addS of l r st=some (n,st')) :
    Calls prog 97 #[pT bs,vI of,vI l,vI r] w λe w'=>e=.returned (vI n)/\SK bs w w'/\∃v',SolAt w' bs v' st':=by
  unfold addS at hf
  split at hf
  rotate_left
  · cases hf
  rename_i hlen
  simp only[zsI,zpI]at hf
  obtain⟨rfl,rfl⟩:=hf
  obtain⟨i0,hi,hz0,hz1,hz2⟩:=info_parts Tryz.info334
  obtain⟨c0,c1,f0,f1⟩:=Be h.solver
  have hbs:bs<w.heap.size:=(zgE.1 h.solver).1
  have HH:Hid (SolAt w bs v st):=h
  have ho:=h.owns
  obtain⟨⟨a,cap,hv⟩,hlenv⟩:(∃a cap,v=.slice a st.shs.length cap)/\True:=by
    refine⟨?_,trivial⟩
    rcases ho.2 with⟨hv,hn⟩|⟨g,cap,cur,hv,_⟩
    · exact ⟨none,0,by rw [hv,hn]⟩
    · exact ⟨_,_,hv⟩
  subst hv
  clear h hlenv
  generalize hN:st.shs.length=N at *
  have HN:Hid (st.shs.length=N):=hN
  clear hN
  go_in
  go_wp2_with (first
    | (at_builtin; refine wpList_append_own _ rfl _ _ 126 rfl bs 334 i0 (.agg #[vI 0,vI 0,vI 0,vI 0]) 4 32 underlying126 hi hz0 hz1 hz2 rfl dZ (.slice a N cap) N (Dc st.shs) rfl (ho.alloc _) (aD w.heap.size 0) 1 1 [vI of,vI l,vI r,vI N] rfl rfl (Xj _ _ _ _ _ _) (by intro u hu; simp at hu; rcases hu with rfl | rfl | rfl | rfl <;> rfl) (by unfold maxLen; omega) oM (by simp; omega) ?_; intro v3 w3 hown3 hgrow3 hnil3
       obtain ⟨g,cap3,rfl⟩:∃g cap3,v3 = sL g (N+1) cap3:=by
         rcases hown3.2 with ⟨_,hn⟩ | ⟨g,cap3,_,hv,_⟩
         · omega
         · exact ⟨g,cap3,hv⟩
       have hne:(Value.slice a N cap).ownBlock≠some bs:=HH.o.ne
       have S3:Hid (w3.heap[bs]? = some (.cells #[.slice a N cap,.bool st.clash] 128 (0,0))):=(hgrow3.block bs (by simp; omega) (fun e=>hne e.symm)).trans (Ly HH.o.solver _)
       have K3:Hid (SK bs w w3):=(SK.of_none (zwA w _ none)).trans (ziv (ho.alloc _) hgrow3)
       have gne:g≠bs:=by
         rcases hown3.2 with ⟨hv,_⟩ | ⟨g',cap',cur',hv,_,hh,_⟩
         · cases hv
         · cases hv
           intro e
           subst e
           rw [S3.o] at hh
           simp at hh
       have O3:Hid (w3.ownsRow bs 334 4 (sL g (N+1) cap3) (N+1) (Dc st.shs ++ [vI of,vI l,vI r,vI N])):=hown3
       obtain ⟨k0,k1,e0,e1⟩:=Be S3.o
       clear hgrow3 hown3 hnil3))
  go_ret
  go_light
  refine⟨rfl,K3.o.set 0 _,sL g (N+1) cap3,?_⟩
  have hl:(st.shs++[(⟨of,l,r,N⟩:Sh)]).length=N+1:=by simp[HN.o]
  refine⟨by rw[cD _ _ _ _ _ _ S3.o];rfl,?_,by simpa[Value.ownBlock]using gne,by show List.length _<=_;rw[hl];omega⟩
  show World.ownsRow _ _ _ _ _ (List.length _) (Dc _)
  rw[hl,Vl]
  have:=O3.o
  refine⟨this.1,?_⟩
  rcases this.2 with⟨hv,_⟩|⟨g',cap',cur',hv,hb,hh,rest⟩
  · cases hv
  · cases hv
    exact .inr ⟨g,cap3,cur',rfl,hb,by rw[aA _ _ _ _ (by simpa using gne)];exact hh,rest⟩
end
section
abbrev bE:=@Array.toList_setIfInBounds
end
section
open Tw Go.Proofs.Tryz
open Go.RowKit
variable{w:World}{bs g cap j:Nat}{st:Tw.SS}{cur:Array Value}{x:Tw.Sh}
structure RowAt(w:World)(bs g cap:Nat)(cur:Array Value)(st:SS):Prop where
 solver:w.heap[bs]?=some (.cells #[.slice (some ⟨g,0,none⟩) st.shs.length cap,.bool st.clash] 128 (0,0))
 row:w.heap[g]?=some (.cells cur 334 (0,0))
 ne:g≠bs
 low:bs<=g
 len:st.shs.length<=cap
 capm:cap<=maxLen
 full:cur.size=cap*4
 cells:cur.toList.take (st.shs.length*4)=Dc st.shs
 many:st.shs.length<=10000001
theorem SolAt.row{v:Value}(h:SolAt w bs v st)(l:0<st.shs.length):∃g cap cur,v=sL g st.shs.length cap/\RowAt w bs g cap cur st:=by
 rcases h.owns.2 with⟨_,a⟩|⟨g,cap,cur,k,d,c,a,b,f,i⟩
 ·omega
 ·subst k;exact⟨g,cap,cur,rfl,⟨h.solver,c,λe=>h.ne (by simp[Value.ownBlock,e]),d,a,b,f,i,h.many⟩⟩
theorem RowAt.sol(h:RowAt w bs g cap cur st):SolAt w bs (sL g st.shs.length cap) st:=
 ⟨h.solver,⟨Vm _,
  .inr ⟨g,cap,cur,rfl,h.low,h.row,h.len,h.capm,h.full,h.cells⟩⟩,by simpa[Value.ownBlock]using h.ne,h.many⟩
theorem RowAt.sh(h:RowAt w bs g cap cur st)(e:st.shs[j]?=some x):
  j<st.shs.length/\w.cell? (aD g (j*4))=some (vI x.sort)/\w.cell? (aD g (j*4+1))=some (vI x.left)/\w.cell? (aD g (j*4+2))=some (vI x.right)/\w.cell? (aD g (j*4+3))=some (vI x.same):=by
 obtain⟨a,b,c,d⟩:=zaz st.shs j x e;have f:j<st.shs.length:=(zlE.1 e).1;rw[<-h.cells,List.getElem?_take,mA oM]at a b c d;refine⟨f,?_,?_,?_,?_⟩
 ·rw[mB w g _ cur _ _ h.row];simpa using a
 ·rw[mB w g _ cur _ _ h.row];simpa using b
 ·rw[mB w g _ cur _ _ h.row];simpa using c
 ·rw[mB w g _ cur _ _ h.row];simpa using d
theorem RowAt.fz(h:RowAt w bs g cap cur st)(j:Nat):w.frozen? (aD g j)=false:=eB w g j _ _ h.row
theorem za0(l:List Sh)(j:Nat)(x:Sh)(n:Nat)(h:l[j]?=some x):
  Dc (l.set j {x with same:=n})=(Dc l).set (j*4+3) (vI n):=by
 induction l generalizing j with
 |nil=>simp at h
 |cons a l ih=>
  cases j with
  |zero=>simp at h;subst h;simp[Dc,Ua]
  |succ j=>
   have:=ih j (by simpa using h);simp only[zsS,Dc,this,Ua];rw[show(j+1)*4+3=j*4+3+1+1+1+1 from oM];simp
theorem RowAt.set(h:RowAt w bs g cap cur st)(b:st.shs[j]?=some x)(n:Nat):
  RowAt (w.setCell (aD g (j*4+3)) (vI n)) bs g cap (cur.setIfInBounds (j*4+3) (vI n)) (Bh st j x n):=by
 have c:j<st.shs.length:=(zlE.1 b).1;have a:(Bh st j x n).shs.length=st.shs.length:=by simp[Bh]
 refine⟨?_,cD _ _ _ _ _ _ h.row,h.ne,h.low,by rw[a];exact h.len,h.capm,by simp[h.full],?_,by rw[a];exact h.many⟩
 ·rw[aA _ _ _ _ (by simpa using h.ne.symm),a];exact h.solver
 ·rw[a];show _=Dc (st.shs.set j {x with same:=n});rw[za0 st.shs j x n b,<-h.cells,bE,List.take_set]
theorem RowAt.drew(h:RowAt w bs g cap cur st):RowAt w.drew bs g cap cur st:={h with}
theorem RowAt.grown{b:World}(h:RowAt w bs g cap cur st)(a:w.grownBy b none):RowAt b bs g cap cur st:=
 {h with solver:=by rw[a.block bs (zgE.1 h.solver).1 sM];exact h.solver,row:=by rw[a.block g (zgE.1 h.row).1 sM];exact h.row}
theorem Hu{st':SS}(h:RowAt w bs g cap cur st){fuel r d:Nat}(C:Ga fuel st r=some (d,st')):
  Calls prog 177 #[pT bs,vI r] w λe p=>e=.returned (vI d)/\UK bs g w p/\∃B,RowAt p bs g cap B st':=by
 have v:Hid (RowAt w bs g cap cur st):=h;have t:Hid (Ga fuel st r=some (d,st')):=C;have F:bs<w.heap.size:=(zgE.1 h.solver).1;have E:prog.cellsOf 334=4:=kR;have G:=h.many
 go_in;go_wp2_with fail;go_loopg[1] fuel (λk D wr=>∃(q:Nat) (b:SS) (i:Array Value),D=vI q/\Hid (RowAt wr bs g cap i b)/\Hid (UK bs g w wr)/\Hid (Ga k b q=some (d,st')))
 case atStart=>exact⟨r,st,cur,rfl,v,UK.refl _ _ _,t⟩
 case round=>
  obtain⟨q,b,i,rfl,c,o,n⟩:=hrel;cases gk with
  |zero=>have:=n.o;simp[Ga]at this
  |succ k=>
  have a:=n.o;rw[Ga]at a;cases f:b.shs[q]? with
  |none=>rw[f]at a;simp at a
  |some x=>
  rw[f]at a;simp only at a;obtain⟨I,P,Q,R,S⟩:=c.o.sh f;have H:=c.o.many;obtain⟨N,O,_,_⟩:=Be c.o.solver;have L:(q:Int)<(b.shs.length:Int):=oM;have z:Hid (b.shs[q]?=some x):=f;by_cases l:x.same=q
  ·rw[mA l]at a;simp only[zsI,zpI]at a;obtain⟨rfl,rfl⟩:=a;have A:((x.same:Int) != (q:Int))=false:=(by simp[l]);go_wp2_with fail;go_ret;exact⟨rfl,o.o,i,c.o⟩
  ·rw[jA l]at a;cases m:b.shs[x.same]? with
   |none=>rw[m]at a;simp at a
   |some y=>
   rw[m]at a;simp only at a;obtain⟨J,T,U,V,W⟩:=c.o.sh m;have M:(x.same:Int)<(b.shs.length:Int):=oM;have A:((x.same:Int) != (q:Int))=true:=(by simp;omega);have fz:=c.o.fz (q*4+3);have s:Hid (Ga k (Bh b q x y.same) x.same=some (d,st')):=a;go_wp2_with fail;go_region;go_wp2_with fail;go_roundg k
   case measure=>omega
   case rel=>exact⟨x.same,_,_,rfl,RowAt.drew (RowAt.set c.o z.o y.same),UK.drew (o.o.setRow _ _),s⟩
end
section
open Tw Go.Proofs.Tryz
open Go.RowKit
variable{w:World}
def znl(bs g cap:Nat)(w:World)(st':SS)(e:Ending)(a:World):Prop:=e=.returned (.tuple #[])/\UK bs g w a/\∃b,RowAt a bs g cap b st'
def zfs(n:Nat):Prop:=∀ {w:World} {a g d:Nat} {h:Array Value} {e f:SS} {b c:Nat},RowAt w a g d h e->Dk n e b c=some f ->
  Calls prog 176 #[.pointer (some ⟨a,0,none⟩),.int .i64 b,.int .i64 c] w (znl a g d w f)
theorem RowAt.clash{bs g cap:Nat}{a:Array Value}{st:SS}(h:RowAt w bs g cap a st):RowAt (w.setCell (aD bs 1) (.bool true)) bs g cap a {st with clash:=true}:=
 {h with solver:=by rw[cD _ _ _ _ _ _ h.solver];rfl,row:=by rw[aA _ _ _ _ (by simpa using h.ne)];exact h.row}
theorem B7{b:Nat}{x y z u:Value}{t:TypeId}(h:w.heap[b]?=some (.cells #[x,y,z,u] t (0,0))):
  w.cell? (aD b 0)=some x/\w.cell? (aD b 1)=some y/\w.cell? (aD b 2)=some z/\w.cell? (aD b 3)=some u:=by
 refine⟨?_,?_,?_,?_⟩<;>(rw[mB w b _ _ _ _ h];rfl)
theorem zk3(w:World)(a:Addr)(v:Value)(b c:Obj):(((w.setCell a v).alloc b).alloc c).drew.heap[w.heap.size]?=some b/\(((w.setCell a v).alloc b).alloc c).drew.heap[w.heap.size+1]?=some c:=by
 have d:(w.setCell a v).heap.size=w.heap.size:=sM;have e:((w.setCell a v).alloc b).heap.size=w.heap.size+1:=sM;refine⟨?_,?_⟩
 ·have:=Ly (Ac (w.setCell a v) b) c;rw[d]at this;exact this
 ·have:=Ac ((w.setCell a v).alloc b) c;rw[e]at this;exact this
theorem zc5{n:Nat}(ih:zfs n):zfs (n+1):=by
 intro w bs g cap cur st st' a b h hf;rw[Dk]at hf;obtain⟨⟨p,st1⟩,hp,hf1⟩:=zbE.1 hf;obtain⟨⟨q,st2⟩,hq,hf2⟩:=zbE.1 hf1;simp only at hq hf2;cases hx:st2.shs[p]? with
 |none=>rw[hx]at hf2;simp at hf2
 |some x=>
 cases hy:st2.shs[q]? with
 |none=>rw[hx,hy]at hf2;simp at hf2
 |some y=>
 rw[hx,hy]at hf2;simp only at hf2;have HH:Hid (RowAt w bs g cap cur st):=h;have H1:Hid (Ga n st a=some (p,st1)):=hp;have H2:Hid (Ga n st1 b=some (q,st2)):=hq;have HX:Hid (st2.shs[p]?=some x):=hx;have HY:Hid (st2.shs[q]?=some y):=hy;have HF:=bV hf2;have c237:prog.cellsOf 334=4:=kR;have IH:zfs n:=ih
 go_in;go_wp2_with fail;refine(Hu HH.o H1.o).mono ?_;rintro e w1 ⟨rfl,hk,cur1,h⟩;have P1:Hid (RowAt w1 bs g cap cur1 st1):=h;have K1:Hid (UK bs g w w1):=hk;go_wp2_with fail;refine(Hu P1.o H2.o).mono ?_;rintro e w2 ⟨rfl,hk,cur2,h⟩;have P2:Hid (RowAt w2 bs g cap cur2 st2):=h;have K2:Hid (UK bs g w w2):=K1.o.trans hk;obtain⟨hp,x0,x1,x2,x3⟩:=h.sh HX.o;obtain⟨hq,y0,y1,y2,y3⟩:=h.sh HY.o;obtain⟨s0,s1,f0,f1⟩:=Be h.solver;have hpi:(p:Int)<(st2.shs.length:Int):=oM;have hqi:(q:Int)<(st2.shs.length:Int):=oM;have hm:=h.many;have hbs:bs<w2.heap.size:=(zgE.1 h.solver).1;have hgg:g<w2.heap.size:=(zgE.1 h.row).1;have hgb:g≠bs:=h.ne;go_wp2_with fail;have z0:=P2.o.fz (p*4+3);have z1:=P2.o.fz (q*4+3);go_region
 all_goals
  by_cases hpq:p=q
  ·have e:=HF.o;rw[mA hpq]at e;simp only[zsI]at e;subst e;have bz:((p:Int)==(q:Int))=true:=(by simp[hpq]);go_wp2_with fail;go_end0;exact⟨rfl,((K2.o.alloc _).alloc _).drew,cur2,((P2.o.grown (zwA _ _ none)).grown (zwA _ _ none)).drew⟩
  have HF1:=HF.o;rw[jA hpq]at HF1;have bz:((p:Int)==(q:Int))=false:=by simp;omega
  by_cases hx0:x.sort=0
  ·rw[mA hx0]at HF1;simp only[zsI]at HF1;subst HF1;have bx:(x.sort==0)=true:=(by simp[hx0]);go_wp2_with fail;go_end0;exact⟨rfl,(((K2.o.setRow _ _).alloc _).alloc _).drew,_,(((P2.o.set HX.o q).grown (zwA _ _ none)).grown (zwA _ _ none)).drew⟩
  rw[jA hx0]at HF1;have bx:(x.sort==0)=false:=by simp[hx0]
  by_cases hy0:y.sort=0
  ·rw[mA hy0]at HF1;simp only[zsI]at HF1;subst HF1;have by0:(y.sort==0)=true:=(by simp[hy0]);go_wp2_with fail;go_end0;exact⟨rfl,(((K2.o.setRow _ _).alloc _).alloc _).drew,_,(((P2.o.set HY.o p).grown (zwA _ _ none)).grown (zwA _ _ none)).drew⟩
  rw[jA hy0]at HF1;have by0:(y.sort==0)=false:=by simp[hy0]
  by_cases hxy:x.sort=y.sort
  ·rw[mA hxy]at HF1;obtain⟨st3,h3,h4⟩:=zbE.1 HF1;have H3:Hid (Dk n (Bh st2 p x q) x.left y.left=some st3):=h3;have H4:Hid (Dk n st3 x.right y.right=some st'):=h4;have bxy:(x.sort != y.sort)=false:=(by simp[hxy]);have PS:=P2.o.set HX.o q;go_wp2_with fail;refine(IH ((PS.grown (zwA _ _ none)).grown (zwA _ _ none)).drew H3.o).mono ?_;rintro e w3 ⟨rfl,hk,cur3,h⟩;have P3:Hid (RowAt w3 bs g cap cur3 st3):=h;have K3:Hid (UK bs g w w3):=((((K2.o.setRow _ _).alloc _).alloc _).drew).trans hk;obtain⟨m1,m2⟩:=zk3 w2 (aD g (p*4+3)) (vI q) _ _;obtain⟨i0,i1,i2,i3⟩:=B7 (hk.at m1 oM oM);obtain⟨j0,j1,j2,j3⟩:=B7 (hk.at m2 oM oM);go_wp2_with fail;refine(IH P3.o H4.o).mono ?_;rintro e w4 ⟨rfl,hk,cur4,h⟩;have X:Hid (UK bs g w w4/\∃cur',RowAt w4 bs g cap cur' st'):=⟨K3.o.trans hk,cur4,h⟩;go_wp2_with fail;go_end0;exact⟨rfl,X.o⟩
  ·rw[jA hxy]at HF1;simp only[zsI]at HF1;subst HF1;have bxy:(x.sort != y.sort)=true:=(by simp[hxy]);go_wp2_with fail;go_end0;exact⟨rfl,(((K2.o.set 1 _).alloc _).alloc _).drew,_,((P2.o.clash.grown (zwA _ _ none)).grown (zwA _ _ none)).drew⟩
theorem Ye:∀n,zfs n
 |0=>λ_ a=>by simp[Dk]at a
 |n+1=>zc5 (Ye n)
end
section
open Tw Go.Proofs.Tryz
open Go.RowKit
variable{bs hi b n:Nat}{w w':World}{st st':Tw.SS}{v:Value}
def Sol(w:World)(bs:Nat)(st:SS):Prop:=∃g a c,RowAt w bs g a c st
theorem nodeAt.sk(l:Sol w bs st)(m:SK bs w w'){lo fr to:Nat}{rest:List Value}{d a:TypeId}(h:nodeAt w lo hi fr to rest d a v)
  (_h1:a≠128) (j:a≠334):nodeAt w' lo hi fr to rest d a v:=by
 obtain⟨b,f,g,o,c⟩:=h;obtain⟨q,p,i,k⟩:=l;refine⟨b,f,g,o,m.at c (λe=>?_) (λi r e=>?_)⟩
 ·subst e;rw[k.solver]at c;simp at c
 ·simp at e;exact j e.2.1
theorem Rep.sk{bs:Nat}{w w':World}{st:SS}(a:Sol w bs st)(c:SK bs w w'){lo hi:Nat}:∀ {t:Tw.T} {v:Value},Rep w lo hi t v->Rep w' lo hi t v
 |.name ..,_,h=>nodeAt.sk a c h dZ dZ
 |.int ..,_,h=>nodeAt.sk a c h dZ dZ
 |.truth ..,_,h=>nodeAt.sk a c h dZ dZ
 |.side ..,_,h=>nodeAt.sk a c h dZ dZ
 |.bracket ..,_,⟨v1,h,r1⟩=>⟨v1,h.sk a c dZ dZ,Rep.sk a c r1⟩
 |.pair ..,_,⟨v1,v2,h,r1,r2⟩=>⟨v1,v2,h.sk a c dZ dZ,Rep.sk a c r1,Rep.sk a c r2⟩
 |.call ..,_,⟨v1,v2,h,r1,r2⟩=>⟨v1,v2,h.sk a c dZ dZ,Rep.sk a c r1,Rep.sk a c r2⟩
 |.binary ..,_,⟨v1,v2,h,r1,r2⟩=>⟨v1,v2,h.sk a c dZ dZ,Rep.sk a c r1,Rep.sk a c r2⟩
 |.cond ..,_,⟨v1,v2,v3,h,r1,r2,r3⟩=>⟨v1,v2,v3,h.sk a c dZ dZ,Rep.sk a c r1,Rep.sk a c r2,Rep.sk a c r3⟩
 |.fn ..,_,⟨v1,h,r1⟩=>⟨v1,h.sk a c dZ dZ,Rep.sk a c r1⟩
 |.lett ..,_,⟨v1,v2,h,r1,r2⟩=>⟨v1,v2,h.sk a c dZ dZ,Rep.sk a c r1,Rep.sk a c r2⟩
def EnvAt(w:World)(hi:Nat):En->Value->Prop
 |.nil,v=>v=.pointer none
 |.fix n r o,v=>∃b a,v=.pointer (some ⟨b,0,none⟩)/\w.heap[b]?=some (.cells #[ug n,.int .i64 r,.pointer none,.pointer none,a] 339 (0,0))/\EnvAt w hi o a
 |.dfn n t o,v=>∃b a bl,v=.pointer (some ⟨b,0,none⟩)/\w.heap[b]?=some (.cells #[ug n,.int .i64 0,.pointer (some ⟨bl,0,none⟩),a,a] 339 (0,0))/\EnvAt w hi o a/\Rep w 0 hi t (.iface 136 (.pointer (some ⟨bl,0,none⟩)))
theorem zmc(f:Sol w bs st)(g:SK bs w w'){a:Array Value}(c:w.heap[b]?=some (.cells a 339 (0,0))):w'.heap[b]?=some (.cells a 339 (0,0)):=by
 obtain⟨j,h,i,d⟩:=f;refine g.at c (λe=>?_) (λa m e=>?_)
 ·subst e;rw[d.solver]at c;simp at c
 ·simp at e
theorem EnvAt.sk{bs:Nat}{w w':World}{st:SS}(a:Sol w bs st)(c:SK bs w w'){hi:Nat}:∀ {e:En} {v:Value},EnvAt w hi e v->EnvAt w' hi e v
 |.nil,_,h=>h
 |.fix ..,_,⟨b,vo,hv,hb,ho⟩=>⟨b,vo,hv,zmc a c hb,EnvAt.sk a c ho⟩
 |.dfn ..,_,⟨b,vo,bl,hv,hb,ho,hr⟩=>⟨b,vo,bl,hv,zmc a c hb,EnvAt.sk a c ho,Rep.sk a c hr⟩
theorem EnvAt.grown{w w':World}(a:w.grownBy w' none){hi:Nat}:∀ {e:En} {v:Value},EnvAt w hi e v->EnvAt w' hi e v
 |.nil,_,h=>h
 |.fix ..,_,⟨b,vo,hv,hb,ho⟩=>⟨b,vo,hv,zbG a hb,EnvAt.grown a ho⟩
 |.dfn ..,_,⟨b,vo,bl,hv,hb,ho,hr⟩=>⟨b,vo,bl,hv,zbG a hb,EnvAt.grown a ho,hr.grown a (znL _) (znL _)⟩
theorem Sol.grown(h:Sol w bs st)(e:w.grownBy w' none):Sol w' bs st:=by
 obtain⟨g,a,c,d⟩:=h;exact⟨g,a,c,d.grown e⟩
theorem EnvAt.ptr{e:En}(h:EnvAt w hi e v):∃a,v=.pointer a:=by
 cases e with
 |nil=>exact⟨none,h⟩
 |fix=>obtain⟨b,_,c,_⟩:=h;exact⟨_,c⟩
 |dfn=>obtain⟨b,_,_,c,_⟩:=h;exact⟨_,c⟩
theorem Pi(h:Sol w bs st)(of:Int)(l r:Nat)(a:addS of l r st=some (n,st')):
  Calls prog 97 #[pT bs,vI of,vI l,vI r] w λe w'=>e=.returned (vI n)/\SK bs w w'/\Sol w' bs st':=by
 obtain⟨q,o,p,g⟩:=h;refine(Zh g.sol of l r a).mono ?_;rintro e w' ⟨rfl,j,s,m⟩;refine⟨rfl,j,?_⟩;have k:0<st'.shs.length:=by
  unfold addS at a;split at a
  ·simp only[zsI,zpI]at a;obtain⟨_,rfl⟩:=a;simp
  ·cases a
 obtain⟨f,c,d,_,i⟩:=m.row k;exact⟨f,c,d,i⟩
theorem Mb(h:Sol w bs st)(g:addS 0 0 0 st=some (n,st')):
  Calls prog 103 #[pT bs] w λe w'=>e=.returned (vI n)/\SK bs w w'/\Sol w' bs st':=by
 have d:Hid (Sol w bs st):=h;have c:Hid (addS 0 0 0 st=some (n,st')):=g
 go_in;go_wp2_with fail;refine(Pi d.o 0 0 0 c.o).mono ?_;rintro e a ⟨rfl,f⟩;have X:Hid (SK bs w a/\Sol a bs st'):=f;go_wp2_with fail;go_ret;exact⟨rfl,X.o⟩
theorem Js(h:Sol w bs st){a:Nat}(j:Dk n st a b=some st'):
  Calls prog 176 #[pT bs,vI a,vI b] w λe w'=>e=.returned (.tuple #[])/\SK bs w w'/\Sol w' bs st':=by
 obtain⟨g,d,l,c⟩:=h;refine(Ye n c j).mono ?_;rintro e w' ⟨rfl,k,f,i⟩;exact⟨rfl,k.sk c.row c.low,g,d,f,i⟩
theorem Vn(e:En)(v:Value)(f:EnvAt w hi e v)(n:List UInt8)(r:Nat)(pl a:Option Addr):
  Calls prog 104 #[v,ug n,.agg #[vI r,.pointer pl,.pointer a]] w λe w'=>∃b,e=.returned (pT b)/\w.grownBy w' none/\w'.heap[b]?=some (.cells #[ug n,vI r,.pointer pl,.pointer a,v] 339 (0,0)):=by
 obtain⟨d,rfl⟩:=f.ptr
 go_in;go_wp2_with fail;go_ret;go_light;have c:=Ac (w.alloc (.cells #[vI r,.pointer pl,.pointer a] 238)) (.cells #[ug n,vI r,.pointer pl,.pointer a,.pointer d] 339);rw[show(w.alloc (.cells #[vI r,.pointer pl,.pointer a] 238)).heap.size=w.heap.size+1 from sM]at c;exact⟨_,rfl,Ai (zwA _ _ none) _,c⟩
end
section
open Tw Go.Proofs.Tryz
open Go.RowKit
def zkt(w:World)(hi:Nat)(m:Nat ⊕ (Tw.T×En))(e:Ending)(b:World):Prop:=
 w.grownBy b none/\match m with
 |.inl r=>∃a,e=.returned (.tuple #[.agg #[.int .i64 r,.pointer none,.pointer a],.bool true])
 |.inr (t,o)=>∃bl a,e=.returned (.tuple #[.agg #[.int .i64 0,.pointer (some ⟨bl,0,none⟩),.pointer a],.bool true])/\EnvAt w hi o (.pointer a)/\Rep w 0 hi t (.iface 136 (.pointer (some ⟨bl,0,none⟩)))
def Tw.En.size:Tw.En->Nat
 |.nil=>0
 |.fix _ _ o=>o.size+1
 |.dfn _ _ o=>o.size+1
theorem za1{w:World}{hi:Nat}{e:En}{v:Value}(H:EnvAt w hi e v)(x:List UInt8){m:Nat ⊕ (Tw.T×En)}(I:e.look x=some m):
  Calls prog 175 #[v,ug x] w (zkt w hi m):=by
 have s:Hid (EnvAt w hi e v):=H;have y:Hid (e.look x=some m):=I
 go_in;go_wp2_with fail;go_loopg[0] e.size (λk M wr=>wr=w.alloc (.cells #[vI 0,.pointer none,.pointer none] 238)/\∃f:En,k=f.size/\Hid (EnvAt w hi f M)/\Hid (f.look x=some m))
 case atStart=>exact⟨rfl,e,rfl,s,y⟩
 case round=>
  obtain⟨L,f,q,HK,c⟩:=hrel;subst L;cases f with
  |nil=>have:=c.o;simp[En.look]at this
  |fix n r o=>
   obtain⟨j,N,p,g,h⟩:=HK.o;obtain⟨d,rfl⟩:=h.ptr;subst p;obtain⟨B,C,D,E,F⟩:=Ev g;have G:j<w.heap.size:=(zgE.1 g).1;have i:Hid (EnvAt w hi o (.pointer d)):=h;have a:=c.o;simp only[En.look]at a;by_cases b:n=x
   ·rw[mA b]at a;simp only[zsI]at a;subst a;have l:(n==x)=true:=(by simp[b]);have A:Hid (n=x):=b;go_wp2_with fail;exact bodyPost_ret (v:=.tuple #[.agg #[vI r,.pointer none,.pointer none],.bool true]) (by simp[results,results175,go_sem]) rfl ⟨zwA _ _ none,none,rfl⟩
   ·rw[jA b]at a;have l:(n==x)=false:=(by simp[b]);have c:Hid (o.look x=some m):=a;go_wp2_with fail;go_roundg o.size
    case measure=>simp[En.size]at q;omega
    case rel=>exact⟨rfl,o,rfl,i,c⟩
  |dfn n t o=>
   obtain⟨j,N,bl,p,g,h,J⟩:=HK.o;obtain⟨d,rfl⟩:=h.ptr;subst p;obtain⟨B,C,D,E,F⟩:=Ev g;have G:j<w.heap.size:=(zgE.1 g).1;have i:Hid (EnvAt w hi o (.pointer d)):=h;have z:Hid (Rep w 0 hi t (.iface 136 (pT bl))):=J;have a:=c.o;simp only[En.look]at a;by_cases b:n=x
   ·rw[mA b]at a;simp only[zsI]at a;subst a;have l:(n==x)=true:=(by simp[b]);have A:Hid (n=x):=b;go_wp2_with fail;exact bodyPost_ret (v:=.tuple #[.agg #[vI 0,pT bl,.pointer d],.bool true]) (by simp[results,results175,go_sem]) rfl ⟨zwA _ _ none,bl,d,rfl,i.o,z.o⟩
   ·rw[jA b]at a;have l:(n==x)=false:=(by simp[b]);have c:Hid (o.look x=some m):=a;go_wp2_with fail;go_roundg o.size
    case measure=>simp[En.size]at q;omega
    case rel=>exact⟨rfl,o,rfl,i,c⟩
end
section
open Go.Proofs.Tryz
open Go.RowKit
abbrev TaNo(X Y:TypeId):Prop:=∀(a:Option Addr) (w:World),Sem.run prog (Instr.typeAssert (.iface X (.pointer a)) 68 Y true) w=.ok (.tuple #[.pointer none,.bool false]) w
theorem Mx(a:Option Addr)(w:World):Sem.run prog (Instr.typeAssert (.iface 83 (.pointer a)) 68 83 true) w=.ok (.tuple #[.pointer a,.bool true]) w:=kR
theorem Xk:TaNo 83 195:=λ_ _=>kR
theorem Zi:TaNo 83 199:=λ_ _=>kR
theorem Nu:TaNo 83 204:=λ_ _=>kR
theorem Ri:TaNo 83 207:=λ_ _=>kR
theorem Rj:TaNo 83 209:=λ_ _=>kR
theorem Oe:TaNo 83 211:=λ_ _=>kR
theorem Vo:TaNo 83 213:=λ_ _=>kR
theorem Ky:TaNo 83 215:=λ_ _=>kR
theorem Kz:TaNo 83 136:=λ_ _=>kR
theorem Og:TaNo 191 83:=λ_ _=>kR
theorem Zj:TaNo 191 195:=λ_ _=>kR
theorem za2:TaNo 191 199:=λ_ _=>kR
theorem Oh:TaNo 191 204:=λ_ _=>kR
theorem Uc:TaNo 191 207:=λ_ _=>kR
theorem Ud:TaNo 191 209:=λ_ _=>kR
theorem P0:TaNo 191 211:=λ_ _=>kR
theorem Yf:TaNo 191 213:=λ_ _=>kR
theorem J0:TaNo 191 215:=λ_ _=>kR
theorem J5:TaNo 191 136:=λ_ _=>kR
theorem Lm:TaNo 195 83:=λ_ _=>kR
theorem Vp(a:Option Addr)(w:World):Sem.run prog (Instr.typeAssert (.iface 195 (.pointer a)) 68 195 true) w=.ok (.tuple #[.pointer a,.bool true]) w:=kR
theorem Xl:TaNo 195 199:=λ_ _=>kR
theorem Mc:TaNo 195 204:=λ_ _=>kR
theorem P9:TaNo 195 207:=λ_ _=>kR
theorem Qa:TaNo 195 209:=λ_ _=>kR
theorem Nv:TaNo 195 211:=λ_ _=>kR
theorem Ue:TaNo 195 213:=λ_ _=>kR
theorem Hv:TaNo 195 215:=λ_ _=>kR
theorem Hw:TaNo 195 136:=λ_ _=>kR
theorem My:TaNo 199 83:=λ_ _=>kR
theorem Xm:TaNo 199 195:=λ_ _=>kR
theorem Zk(a:Option Addr)(w:World):Sem.run prog (Instr.typeAssert (.iface 199 (.pointer a)) 68 199 true) w=.ok (.tuple #[.pointer a,.bool true]) w:=kR
theorem Nw:TaNo 199 204:=λ_ _=>kR
theorem Rk:TaNo 199 207:=λ_ _=>kR
theorem Rl:TaNo 199 209:=λ_ _=>kR
theorem Oi:TaNo 199 211:=λ_ _=>kR
theorem Vq:TaNo 199 213:=λ_ _=>kR
theorem I6:TaNo 199 215:=λ_ _=>kR
theorem I7:TaNo 199 136:=λ_ _=>kR
theorem Jh:TaNo 204 83:=λ_ _=>kR
theorem Sz:TaNo 204 195:=λ_ _=>kR
theorem U7:TaNo 204 199:=λ_ _=>kR
theorem J7(a:Option Addr)(w:World):Sem.run prog (Instr.typeAssert (.iface 204 (.pointer a)) 68 204 true) w=.ok (.tuple #[.pointer a,.bool true]) w:=kR
theorem Nx:TaNo 204 207:=λ_ _=>kR
theorem Ny:TaNo 204 209:=λ_ _=>kR
theorem La:TaNo 204 211:=λ_ _=>kR
theorem Qb:TaNo 204 213:=λ_ _=>kR
theorem Gb:TaNo 204 215:=λ_ _=>kR
theorem Gc:TaNo 204 136:=λ_ _=>kR
theorem Mz:TaNo 207 83:=λ_ _=>kR
theorem Xn:TaNo 207 195:=λ_ _=>kR
theorem Zl:TaNo 207 199:=λ_ _=>kR
theorem Nz:TaNo 207 204:=λ_ _=>kR
theorem Rm(a:Option Addr)(w:World):Sem.run prog (Instr.typeAssert (.iface 207 (.pointer a)) 68 207 true) w=.ok (.tuple #[.pointer a,.bool true]) w:=kR
theorem Ro:TaNo 207 209:=λ_ _=>kR
theorem Oj:TaNo 207 211:=λ_ _=>kR
theorem Vr:TaNo 207 213:=λ_ _=>kR
theorem I8:TaNo 207 215:=λ_ _=>kR
theorem I9:TaNo 207 136:=λ_ _=>kR
theorem M7:TaNo 209 83:=λ_ _=>kR
theorem Xo:TaNo 209 195:=λ_ _=>kR
theorem Zm:TaNo 209 199:=λ_ _=>kR
theorem Oa:TaNo 209 204:=λ_ _=>kR
theorem Rp:TaNo 209 207:=λ_ _=>kR
theorem Rq(a:Option Addr)(w:World):Sem.run prog (Instr.typeAssert (.iface 209 (.pointer a)) 68 209 true) w=.ok (.tuple #[.pointer a,.bool true]) w:=kR
theorem Ol:TaNo 209 211:=λ_ _=>kR
theorem Vs:TaNo 209 213:=λ_ _=>kR
theorem Ja:TaNo 209 215:=λ_ _=>kR
theorem Jc:TaNo 209 136:=λ_ _=>kR
theorem Kd:TaNo 211 83:=λ_ _=>kR
theorem U8:TaNo 211 195:=λ_ _=>kR
theorem Vt:TaNo 211 199:=λ_ _=>kR
theorem Lb:TaNo 211 204:=λ_ _=>kR
theorem Om:TaNo 211 207:=λ_ _=>kR
theorem On:TaNo 211 209:=λ_ _=>kR
theorem Md(a:Option Addr)(w:World):Sem.run prog (Instr.typeAssert (.iface 211 (.pointer a)) 68 211 true) w=.ok (.tuple #[.pointer a,.bool true]) w:=kR
theorem Rr:TaNo 211 213:=λ_ _=>kR
theorem Gu:TaNo 211 215:=λ_ _=>kR
theorem Gv:TaNo 211 136:=λ_ _=>kR
theorem Qq:TaNo 213 83:=λ_ _=>kR
theorem za3:TaNo 213 195:=λ_ _=>kR
theorem zc6:TaNo 213 199:=λ_ _=>kR
theorem Qc:TaNo 213 204:=λ_ _=>kR
theorem Vu:TaNo 213 207:=λ_ _=>kR
theorem Vv:TaNo 213 209:=λ_ _=>kR
theorem Rs:TaNo 213 211:=λ_ _=>kR
theorem za4(a:Option Addr)(w:World):Sem.run prog (Instr.typeAssert (.iface 213 (.pointer a)) 68 213 true) w=.ok (.tuple #[.pointer a,.bool true]) w:=kR
theorem Me:TaNo 213 215:=λ_ _=>kR
theorem Mf:TaNo 213 136:=λ_ _=>kR
theorem Oo:TaNo 215 83:=λ_ _=>kR
theorem Zn:TaNo 215 195:=λ_ _=>kR
theorem za5:TaNo 215 199:=λ_ _=>kR
theorem Oq:TaNo 215 204:=λ_ _=>kR
theorem Uf:TaNo 215 207:=λ_ _=>kR
theorem Ug:TaNo 215 209:=λ_ _=>kR
theorem Qd:TaNo 215 211:=λ_ _=>kR
theorem Yg:TaNo 215 213:=λ_ _=>kR
theorem Ke(a:Option Addr)(w:World):Sem.run prog (Instr.typeAssert (.iface 215 (.pointer a)) 68 215 true) w=.ok (.tuple #[.pointer a,.bool true]) w:=kR
theorem Kf:TaNo 215 136:=λ_ _=>kR
theorem Ot:TaNo 136 83:=λ_ _=>kR
theorem Zo:TaNo 136 195:=λ_ _=>kR
theorem za6:TaNo 136 199:=λ_ _=>kR
theorem Ou:TaNo 136 204:=λ_ _=>kR
theorem Uh:TaNo 136 207:=λ_ _=>kR
theorem Ui:TaNo 136 209:=λ_ _=>kR
theorem Qe:TaNo 136 211:=λ_ _=>kR
theorem Yh:TaNo 136 213:=λ_ _=>kR
theorem Kg:TaNo 136 215:=λ_ _=>kR
theorem Kh(a:Option Addr)(w:World):Sem.run prog (Instr.typeAssert (.iface 136 (.pointer a)) 68 136 true) w=.ok (.tuple #[.pointer a,.bool true]) w:=kR
end
section
open Tw Go.Proofs.Tryz
open Go.RowKit
variable{w:World}{bs b hi r:Nat}{st st':Tw.SS}{e:Tw.En}{ev:Value}
def Fo(bs:Nat)(w:World)(r:Nat)(st':SS)(e:Ending)(a:World):Prop:=e=.returned (.int .i64 r)/\SK bs w a/\Sol a bs st'
def Ea(n:Nat):Prop:=∀ {w:World} {bs hi:Nat} {st st':SS} {t:Tw.T} {e:En} {a ev:Value} {r:Nat},Sol w bs st->Rep w 0 hi t a->EnvAt w hi e ev->Ax n t e st=some (r,st') ->
  Calls prog 53 #[.pointer (some ⟨bs,0,none⟩),a,ev] w (Fo bs w r st')
def Su(n:Nat):Prop:=∀ {w:World} {bs hi bl:Nat} {st st':SS} {t:Tw.T} {e:En} {ev:Value} {r:Nat},Sol w bs st->Rep w 0 hi t (.iface 136 (.pointer (some ⟨bl,0,none⟩)))->EnvAt w hi e ev->defS n t e st=some (r,st') ->
  Calls prog 105 #[.pointer (some ⟨bs,0,none⟩),.pointer (some ⟨bl,0,none⟩),ev] w (Fo bs w r st')
theorem zgl(h:Sol w bs st)(c:EnvAt w hi e ev):
  Calls prog 53 #[pT bs,.iface 191 (pT b),ev] w (Fo bs w 0 st):=by
 have a:Hid (Sol w bs st):=h;obtain⟨d,rfl⟩:=c.ptr;have f:=Og;have g:=Zj;have i:=za2;have j:=Oh;have k:=Uc;have l:=Ud;have m:=P0;have n:=Yf;have o:=J0;have p:=J5
 go_in;go_wp2_with fail;go_ret;exact⟨rfl,SK.refl _ _,a.o⟩
theorem za7(h:Sol w bs st)(c:EnvAt w hi e ev):
  Calls prog 53 #[pT bs,.iface 195 (pT b),ev] w (Fo bs w 1 st):=by
 have a:Hid (Sol w bs st):=h;obtain⟨d,rfl⟩:=c.ptr;have f:=Lm;have g:=Vp;have i:=Xl;have j:=Mc;have k:=P9;have l:=Qa;have m:=Nv;have n:=Ue;have o:=Hv;have p:=Hw
 go_in;go_wp2_with fail;go_ret;exact⟨rfl,SK.refl _ _,a.o⟩
theorem ziw{n:Nat}(A:Su n){x:List UInt8}{fr to:Nat}(h:Sol w bs st)
  (B:w.heap[b]?=some (.cells #[vI fr,vI to,ug x] 87 (0,0))) (l:EnvAt w hi e ev) (c:Ax (n+1) (.name fr to x) e st=some (r,st')) :
  Calls prog 98 #[pT bs,pT b,ev] w (Fo bs w r st'):=by
 have j:Hid (Sol w bs st):=h;have i:Hid (EnvAt w hi e ev):=l;obtain⟨H,I,J,_⟩:=An B;rw[Ax]at c;obtain⟨G,rfl⟩:=l.ptr;cases f:e.look x with
 |none=>rw[f]at c;simp at c
 |some m=>
 rw[f]at c;have k:Hid (e.look x=some m):=f;rcases m with M|⟨t,o⟩
 ·simp only[zsI,zpI]at c;obtain⟨rfl,rfl⟩:=c
  go_in;go_wp2_with fail;refine(za1 i.o x k.o).mono ?_;rintro z g ⟨d,p,rfl⟩;have a:Hid (w.grownBy g none):=d;go_wp2_with fail;go_ret;exact⟨rfl,SK.of_none (Ai a.o _),j.o.grown (Ai a.o _)⟩
 ·have s:Hid (defS n t o st=some (r,st')):=c
  go_in;go_wp2_with fail;refine(za1 i.o x k.o).mono ?_;rintro z g ⟨d,bl,p,rfl,D,E⟩;have a:Hid (w.grownBy g none):=d;have v:Hid (EnvAt w hi o (.pointer p)):=D;have y:Hid (Rep w 0 hi t (.iface 136 (pT bl))):=E;go_wp2_with fail;refine(A (j.o.grown (Ai a.o _)) (y.o.grown (Ai a.o _) (znL _) (znL _)) (v.o.grown (Ai a.o _)) s.o).mono ?_;rintro L q ⟨rfl,C,F⟩;have X:Hid (SK bs w q/\Sol q bs st'):=⟨(SK.of_none (Ai a.o _)).trans C,F⟩;go_wp2_with fail;go_ret;exact⟨rfl,X.o⟩
theorem zc7(f:EnvAt w hi e ev)(d:Calls prog 98 #[pT bs,pT b,ev] w (Fo bs w r st')):
  Calls prog 53 #[pT bs,.iface 83 (pT b),ev] w (Fo bs w r st'):=by
 obtain⟨i,rfl⟩:=f.ptr;have c:=bV d;have k:=Mx;have l:=Xk;have m:=Zi;have n:=Nu;have o:=Ri;have p:=Rj;have q:=Oe;have s:=Vo;have t:=Ky;have v:=Kz
 go_in;go_wp2_with fail;refine(uh c).mono ?_;rintro j a ⟨rfl,g,h⟩;have X:Hid (SK bs w a/\Sol a bs st'):=⟨g,h⟩;go_wp2_with fail;go_ret;exact⟨rfl,X.o⟩
theorem zc8(f:EnvAt w hi e ev)(d:Calls prog 100 #[pT bs,pT b,ev] w (Fo bs w r st')):
  Calls prog 53 #[pT bs,.iface 209 (pT b),ev] w (Fo bs w r st'):=by
 obtain⟨i,rfl⟩:=f.ptr;have c:=bV d;have k:=M7;have l:=Xo;have m:=Zm;have n:=Oa;have o:=Rp;have p:=Rq;have q:=Ol;have s:=Vs;have t:=Ja;have v:=Jc
 go_in;go_wp2_with fail;refine(uh c).mono ?_;rintro j a ⟨rfl,g,h⟩;have X:Hid (SK bs w a/\Sol a bs st'):=⟨g,h⟩;go_wp2_with fail;go_ret;exact⟨rfl,X.o⟩
theorem Zp(f:EnvAt w hi e ev)(d:Calls prog 101 #[pT bs,pT b,ev] w (Fo bs w r st')):
  Calls prog 53 #[pT bs,.iface 211 (pT b),ev] w (Fo bs w r st'):=by
 obtain⟨i,rfl⟩:=f.ptr;have c:=bV d;have k:=Kd;have l:=U8;have m:=Vt;have n:=Lb;have o:=Om;have p:=On;have q:=Md;have s:=Rr;have t:=Gu;have v:=Gv
 go_in;go_wp2_with fail;refine(uh c).mono ?_;rintro j a ⟨rfl,g,h⟩;have X:Hid (SK bs w a/\Sol a bs st'):=⟨g,h⟩;go_wp2_with fail;go_ret;exact⟨rfl,X.o⟩
theorem zix(f:EnvAt w hi e ev)(d:Calls prog 102 #[pT bs,pT b,ev] w (Fo bs w r st')):
  Calls prog 53 #[pT bs,.iface 213 (pT b),ev] w (Fo bs w r st'):=by
 obtain⟨i,rfl⟩:=f.ptr;have c:=bV d;have k:=Qq;have l:=za3;have m:=zc6;have n:=Qc;have o:=Vu;have p:=Vv;have q:=Rs;have s:=za4;have t:=Me;have v:=Mf
 go_in;go_wp2_with fail;refine(uh c).mono ?_;rintro j a ⟨rfl,g,h⟩;have X:Hid (SK bs w a/\Sol a bs st'):=⟨g,h⟩;go_wp2_with fail;go_ret;exact⟨rfl,X.o⟩
theorem zc9(f:EnvAt w hi e ev)(d:Calls prog 99 #[pT bs,pT b] w (Fo bs w r st')):
  Calls prog 53 #[pT bs,.iface 199 (pT b),ev] w (Fo bs w r st'):=by
 obtain⟨i,rfl⟩:=f.ptr;have c:=bV d;have k:=My;have l:=Xm;have m:=Zk;have n:=Nw;have o:=Rk;have p:=Rl;have q:=Oi;have s:=Vq;have t:=I6;have v:=I7
 go_in;go_wp2_with fail;refine(uh c).mono ?_;rintro j a ⟨rfl,g,h⟩;have X:Hid (SK bs w a/\Sol a bs st'):=⟨g,h⟩;go_wp2_with fail;go_ret;exact⟨rfl,X.o⟩
end
section
open Tw Go.Proofs.Tryz
open Go.RowKit
theorem ziy{w:World}{bs b:Nat}{st st':SS}{sec:Bool}{fr to n r:Nat}{e:En}(h:Sol w bs st)
  (hb:w.heap[b]?=some (.cells #[vI fr,vI to,.bool sec] 201 (0,0))) (hf:Ax (n+1) (.side fr to sec) e st=some (r,st')) :
  Calls prog 99 #[pT bs,pT b] w (Fo bs w r st'):=by
 rw[Ax]at hf;obtain⟨⟨a,st1⟩,h1,hf1⟩:=zbE.1 hf;obtain⟨⟨c,st2⟩,h2,hf2⟩:=zbE.1 hf1;obtain⟨⟨p,st3⟩,h3,h4⟩:=zbE.1 hf2;simp only at h2 h3 h4;have HH:Hid (Sol w bs st):=h;have H1:Hid (addS 0 0 0 st=some (a,st1)):=h1;have H2:Hid (addS 0 0 0 st1=some (c,st2)):=h2;have H3:Hid (addS 4 a c st2=some (p,st3)):=h3;have HB:Hid (w.heap[b]?=some (.cells #[vI fr,vI to,.bool sec] 201 (0,0))):=hb;have H4:=bV h4;have keep:∀(w w':World) (st:SS),Sol w bs st->SK bs w w'->w.heap[b]?=some (.cells #[vI fr,vI to,.bool sec] 201 (0,0))->w'.heap[b]?=some (.cells #[vI fr,vI to,.bool sec] 201 (0,0)):=by
  rintro w w' st ⟨g,cap,cur,hR⟩ hk hb;refine hk.at hb (λe=>?_) (λcur m e=>?_)
  ·subst e;rw[hR.solver]at hb;simp at hb
  ·simp at e
 have KE:=bV keep;cases sec
 all_goals
  simp only[xA,if_false,if_true]at H4
  go_in;go_wp2_with fail;refine(Mb HH.o H1.o).mono ?_;rintro e1 w1 ⟨rfl,hk,hs⟩;have S1:Hid (Sol w1 bs st1):=hs;have K1:Hid (SK bs w w1):=hk;have B1:Hid (w1.heap[b]?=_):=uh KE _ _ _ HH.o hk HB.o;go_wp2_with fail;refine(Mb S1.o H2.o).mono ?_;rintro e1 w2 ⟨rfl,hk,hs⟩;have S2:Hid (Sol w2 bs st2):=hs;have K2:Hid (SK bs w w2):=K1.o.trans hk;have B2:Hid (w2.heap[b]?=_):=uh KE _ _ _ S1.o hk B1.o;obtain⟨_,_,d2,_⟩:=An B2.o;go_wp2_with fail;refine(Pi S2.o 4 a c H3.o).mono ?_;rintro e1 w3 ⟨rfl,hk,hs⟩;have S3:Hid (Sol w3 bs st3):=hs;have K3:Hid (SK bs w w3):=K2.o.trans hk;go_wp2_with fail;refine(Pi S3.o 3 p _ (uh H4)).mono ?_;rintro e1 w4 ⟨rfl,hk,hs⟩;have X:Hid (SK bs w w4/\Sol w4 bs st'):=⟨K3.o.trans hk,hs⟩;go_wp2_with fail;go_ret;exact⟨rfl,X.o⟩
end
section
open Tw Go.Proofs.Tryz
open Go.RowKit
variable{bs b n hi fr to r:Nat}{w:World}{st st':Tw.SS}{e:Tw.En}{ev v1 v2:Value}{f:Tw.T}
theorem Ef{h:World}{a:Array Value}{d:TypeId}{x:Int}(k:Sol w bs st)(l:SK bs w h)(c:w.heap[b]?=some (.cells a d (0,0)))(g:a[0]?=some (vI x))(i:d≠334):h.heap[b]?=some (.cells a d (0,0)):=by
 obtain⟨p,m,o,j⟩:=k;refine l.at c (λe=>?_) (λa q e=>?_)
 ·subst e;rw[j.solver]at c;simp at c;rw[<-c.1]at g;simp at g
 ·simp at e;exact i e.2.1
theorem ziz(R:Ea n){a:Tw.T}(h:Sol w bs st)
  (hb:w.heap[b]?=some (.cells #[vI fr,vI to,v1,v2] 319 (0,0))) (W:Rep w 0 hi f v1) (X:Rep w 0 hi a v2) (S:EnvAt w hi e ev) (U:Ax (n+1) (.call fr to f a) e st=some (r,st')) :
  Calls prog 100 #[pT bs,pT b,ev] w (Fo bs w r st'):=by
 rw[Ax]at U;obtain⟨⟨x1,ap⟩,h1,al⟩:=zbE.1 U;obtain⟨⟨x2,aq⟩,N,am⟩:=zbE.1 al;obtain⟨⟨x3,ar⟩,O,an⟩:=zbE.1 am;obtain⟨⟨x4,au⟩,P,ao⟩:=zbE.1 an;obtain⟨av,Q,V⟩:=zbE.1 ao;simp only at N O P Q;simp only[zsI,zpI]at V;obtain⟨rfl,rfl⟩:=V;have l:Hid (Sol w bs st):=h;have J:Hid (EnvAt w hi e ev):=S;have D:Hid (w.heap[b]?=some (.cells #[vI fr,vI to,v1,v2] 319 (0,0))):=hb;have L:Hid (Rep w 0 hi f v1):=W;have ac:Hid (Rep w 0 hi a v2):=X;have a1:=bV h1;have a2:=bV N;have a3:=bV O;have a4:=bV P;have a5:=bV Q;obtain⟨g,j,rfl⟩:=W.iface;obtain⟨i,k,rfl⟩:=X.iface;obtain⟨v,rfl⟩:=S.ptr;have a6:Hid (SK bs w w):=SK.refl _ _;have s:w.cell? (aD b 2)=some (.iface g (pT j)):=zcR D.o;have t:w.cell? (aD b 3)=some (.iface i (pT k)):=zcR D.o
 go_in;go_wp2_with fail;refine(R l.o L.o J.o (uh a1)).mono ?_;rintro C x ⟨rfl,c,d⟩;have m:Hid (Sol x bs ap):=d;have a7:Hid (SK bs w x):=a6.o.trans c;have E1:Hid (EnvAt x hi e (.pointer v)):=EnvAt.sk l.o c J.o;have E:=bV (Ef l.o c D.o rfl dZ);have ad:=bV (Rep.sk l.o c L.o);have M:=bV (Rep.sk l.o c ac.o);have s:x.cell? (aD b 2)=some (.iface g (pT j)):=zcR E.o;have t:x.cell? (aD b 3)=some (.iface i (pT k)):=zcR E.o;go_wp2_with fail;refine(R m.o M.o E1.o (uh a2)).mono ?_;rintro C y ⟨rfl,c,d⟩;have o:Hid (Sol y bs aq):=d;have a8:Hid (SK bs w y):=a7.o.trans c;have Y:Hid (EnvAt y hi e (.pointer v)):=EnvAt.sk m.o c E1.o;have F:=bV (Ef m.o c E.o rfl dZ);have af:=bV (Rep.sk m.o c ad.o);have ae:=bV (Rep.sk m.o c M.o);have s:y.cell? (aD b 2)=some (.iface g (pT j)):=zcR F.o;have t:y.cell? (aD b 3)=some (.iface i (pT k)):=zcR F.o;go_wp2_with fail;refine(Mb o.o (uh a3)).mono ?_;rintro C z ⟨rfl,c,d⟩;have p:Hid (Sol z bs ar):=d;have a9:Hid (SK bs w z):=a8.o.trans c;have Z:Hid (EnvAt z hi e (.pointer v)):=EnvAt.sk o.o c Y.o;have G:=bV (Ef o.o c F.o rfl dZ);have ah:=bV (Rep.sk o.o c af.o);have ag:=bV (Rep.sk o.o c ae.o);have s:z.cell? (aD b 2)=some (.iface g (pT j)):=zcR G.o;have t:z.cell? (aD b 3)=some (.iface i (pT k)):=zcR G.o;go_wp2_with fail;refine(Pi p.o 3 x2 x3 (uh a4)).mono ?_;rintro C A ⟨rfl,c,d⟩;have q:Hid (Sol A bs au):=d;have aa:Hid (SK bs w A):=a9.o.trans c;have a0:Hid (EnvAt A hi e (.pointer v)):=EnvAt.sk p.o c Z.o;have H:=bV (Ef p.o c G.o rfl dZ);have aj:=bV (Rep.sk p.o c ah.o);have ai:=bV (Rep.sk p.o c ag.o);have s:A.cell? (aD b 2)=some (.iface g (pT j)):=zcR H.o;have t:A.cell? (aD b 3)=some (.iface i (pT k)):=zcR H.o;go_wp2_with fail;refine(Js q.o (uh a5)).mono ?_;rintro C B ⟨rfl,c,d⟩;have ak:Hid (Sol B bs av):=d;have ab:Hid (SK bs w B):=aa.o.trans c;have aw:Hid (EnvAt B hi e (.pointer v)):=EnvAt.sk q.o c a0.o;have I:=bV (Ef q.o c H.o rfl dZ);have ay:=bV (Rep.sk q.o c aj.o);have ax:=bV (Rep.sk q.o c ai.o);have s:B.cell? (aD b 2)=some (.iface g (pT j)):=zcR I.o;have t:B.cell? (aD b 3)=some (.iface i (pT k)):=zcR I.o;go_wp2_with fail;go_ret;exact⟨rfl,ab.o,ak.o⟩
theorem zda(O:Ea n){c:Tw.T}{t:Tw.T}{v3:Value}(h:Sol w bs st)
  (hb:w.heap[b]?=some (.cells #[vI fr,vI to,v1,v2,v3] 326 (0,0))) (r0:Rep w 0 hi c v1) (r1:Rep w 0 hi t v2) (r2:Rep w 0 hi f v3) (he:EnvAt w hi e ev) (hf:Ax (n+1) (.cond fr to c t f) e st=some (r,st')) :
  Calls prog 102 #[pT bs,pT b,ev] w (Fo bs w r st'):=by
 rw[Ax]at hf;obtain⟨⟨x1,aw⟩,h1,aq⟩:=zbE.1 hf;obtain⟨ax,W,ar⟩:=zbE.1 aq;obtain⟨⟨x3,ay⟩,X,au⟩:=zbE.1 ar;obtain⟨⟨x4,az⟩,Y,av⟩:=zbE.1 au;obtain⟨b0,Z,a0⟩:=zbE.1 av;simp only at W X Y Z;simp only[zsI,zpI]at a0;obtain⟨rfl,rfl⟩:=a0;have g:Hid (Sol w bs st):=h;have P:Hid (EnvAt w hi e ev):=he;have G:Hid (w.heap[b]?=some (.cells #[vI fr,vI to,v1,v2,v3] 326 (0,0))):=hb;have S:Hid (Rep w 0 hi c v1):=r0;have ae:Hid (Rep w 0 hi t v2):=r1;have ad:Hid (Rep w 0 hi f v3):=r2;have a2:=bV h1;have a3:=bV W;have a4:=bV X;have a5:=bV Y;have a6:=bV Z;obtain⟨m,q,rfl⟩:=r0.iface;obtain⟨o,s,rfl⟩:=r1.iface;obtain⟨p,v,rfl⟩:=r2.iface;obtain⟨F,rfl⟩:=he.ptr;have a7:Hid (SK bs w w):=SK.refl _ _;have C:w.cell? (aD b 2)=some (.iface m (pT q)):=zcR G.o;have D:w.cell? (aD b 3)=some (.iface o (pT s)):=zcR G.o;have E:w.cell? (aD b 4)=some (.iface p (pT v)):=zcR G.o
 go_in;go_wp2_with fail;refine(O g.o S.o P.o (uh a2)).mono ?_;rintro M x ⟨rfl,a,d⟩;have i:Hid (Sol x bs aw):=d;have a8:Hid (SK bs w x):=a7.o.trans a;have E1:Hid (EnvAt x hi e (.pointer F)):=EnvAt.sk g.o a P.o;have H:=bV (Ef g.o a G.o rfl dZ);have af:=bV (Rep.sk g.o a S.o);have ah:=bV (Rep.sk g.o a ae.o);have ag:=bV (Rep.sk g.o a ad.o);have C:x.cell? (aD b 2)=some (.iface m (pT q)):=zcR H.o;have D:x.cell? (aD b 3)=some (.iface o (pT s)):=zcR H.o;have E:x.cell? (aD b 4)=some (.iface p (pT v)):=zcR H.o;go_wp2_with fail;refine(Js i.o (uh a3)).mono ?_;rintro M y ⟨rfl,a,d⟩;have j:Hid (Sol y bs ax):=d;have a9:Hid (SK bs w y):=a8.o.trans a;have Q:Hid (EnvAt y hi e (.pointer F)):=EnvAt.sk i.o a E1.o;have I:=bV (Ef i.o a H.o rfl dZ);have ai:=bV (Rep.sk i.o a af.o);have U:=bV (Rep.sk i.o a ah.o);have aj:=bV (Rep.sk i.o a ag.o);have C:y.cell? (aD b 2)=some (.iface m (pT q)):=zcR I.o;have D:y.cell? (aD b 3)=some (.iface o (pT s)):=zcR I.o;have E:y.cell? (aD b 4)=some (.iface p (pT v)):=zcR I.o;go_wp2_with fail;refine(O j.o U.o Q.o (uh a4)).mono ?_;rintro M z ⟨rfl,a,d⟩;have k:Hid (Sol z bs ay):=d;have aa:Hid (SK bs w z):=a9.o.trans a;have R:Hid (EnvAt z hi e (.pointer F)):=EnvAt.sk j.o a Q.o;have J:=bV (Ef j.o a I.o rfl dZ);have ak:=bV (Rep.sk j.o a ai.o);have al:=bV (Rep.sk j.o a U.o);have V:=bV (Rep.sk j.o a aj.o);have C:z.cell? (aD b 2)=some (.iface m (pT q)):=zcR J.o;have D:z.cell? (aD b 3)=some (.iface o (pT s)):=zcR J.o;have E:z.cell? (aD b 4)=some (.iface p (pT v)):=zcR J.o;go_wp2_with fail;refine(O k.o V.o R.o (uh a5)).mono ?_;rintro M A ⟨rfl,a,d⟩;have l:Hid (Sol A bs az):=d;have ab:Hid (SK bs w A):=aa.o.trans a;have a1:Hid (EnvAt A hi e (.pointer F)):=EnvAt.sk k.o a R.o;have L:=bV (Ef k.o a J.o rfl dZ);have am:=bV (Rep.sk k.o a ak.o);have ao:=bV (Rep.sk k.o a al.o);have an:=bV (Rep.sk k.o a V.o);have C:A.cell? (aD b 2)=some (.iface m (pT q)):=zcR L.o;have D:A.cell? (aD b 3)=some (.iface o (pT s)):=zcR L.o;have E:A.cell? (aD b 4)=some (.iface p (pT v)):=zcR L.o;go_wp2_with fail;refine(Js l.o (uh a6)).mono ?_;rintro M B ⟨rfl,a,d⟩;have ap:Hid (Sol B bs b0):=d;have ac:Hid (SK bs w B):=ab.o.trans a;have b1:Hid (EnvAt B hi e (.pointer F)):=EnvAt.sk l.o a a1.o;have N:=bV (Ef l.o a L.o rfl dZ);have b2:=bV (Rep.sk l.o a am.o);have b4:=bV (Rep.sk l.o a ao.o);have b3:=bV (Rep.sk l.o a an.o);have C:B.cell? (aD b 2)=some (.iface m (pT q)):=zcR N.o;have D:B.cell? (aD b 3)=some (.iface o (pT s)):=zcR N.o;have E:B.cell? (aD b 4)=some (.iface p (pT v)):=zcR N.o;go_wp2_with fail;go_ret;exact⟨rfl,ac.o,ap.o⟩
end
section
open Tw Go.Proofs.Tryz
open Go.RowKit
theorem Ta{n:Nat}(hI:Ea n){w:World}{bs hi b:Nat}{st st':SS}{e:En}{ev:Value}{l:Tw.T}{q:Tw.T}{v1:Value}{v2:Value}{sg:Int}{fr to r:Nat}(h:Sol w bs st)
  (hb:w.heap[b]?=some (.cells #[vI fr,vI to,vI sg,v1,v2] 322 (0,0))) (r0:Rep w 0 hi l v1) (r1:Rep w 0 hi q v2) (he:EnvAt w hi e ev) (hf:Ax (n+1) (.binary fr to sg l q) e st=some (r,st')) :
  Calls prog 101 #[pT bs,pT b,ev] w (Fo bs w r st'):=by
 rw[Ax]at hf;obtain⟨⟨x1,st1⟩,h1,hf1⟩:=zbE.1 hf;obtain⟨st2,h2,hf2⟩:=zbE.1 hf1;obtain⟨⟨x3,st3⟩,h3,hf3⟩:=zbE.1 hf2;obtain⟨st4,h4,hf4⟩:=zbE.1 hf3;simp only at h2 h3 h4;simp only[zsI,zpI]at hf4;obtain⟨hr,rfl⟩:=hf4;have HR:=bV hr;have S0:Hid (Sol w bs st):=h;have E0:Hid (EnvAt w hi e ev):=he;have B0:Hid (w.heap[b]?=some (.cells #[vI fr,vI to,vI sg,v1,v2] 322 (0,0))):=hb;have R0l:Hid (Rep w 0 hi l v1):=r0;have R0q:Hid (Rep w 0 hi q v2):=r1;have H1:=bV h1;have H2:=bV h2;have H3:=bV h3;have H4:=bV h4;obtain⟨T0,n0,rfl⟩:=r0.iface;obtain⟨T1,n1,rfl⟩:=r1.iface;obtain⟨ea,rfl⟩:=he.ptr;have K0:Hid (SK bs w w):=SK.refl _ _;have c0:w.cell? (aD b 3)=some (.iface T0 (pT n0)):=zcR B0.o;have c1:w.cell? (aD b 4)=some (.iface T1 (pT n1)):=zcR B0.o;have c9:w.cell? (aD b 2)=some (vI sg):=zcR B0.o
 go_in;go_wp2_with fail;refine(hI S0.o R0l.o E0.o (uh H1)).mono ?_;rintro e1 w1 ⟨rfl,hk,hs⟩;have S1:Hid (Sol w1 bs st1):=hs;have K1:Hid (SK bs w w1):=K0.o.trans hk;have E1:Hid (EnvAt w1 hi e (.pointer ea)):=EnvAt.sk S0.o hk E0.o;have B1:=bV (Ef S0.o hk B0.o rfl dZ);have R1l:=bV (Rep.sk S0.o hk R0l.o);have R1q:=bV (Rep.sk S0.o hk R0q.o);have c0:w1.cell? (aD b 3)=some (.iface T0 (pT n0)):=zcR B1.o;have c1:w1.cell? (aD b 4)=some (.iface T1 (pT n1)):=zcR B1.o;have c9:w1.cell? (aD b 2)=some (vI sg):=zcR B1.o;go_wp2_with fail;refine(Js S1.o (uh H2)).mono ?_;rintro e1 w2 ⟨rfl,hk,hs⟩;have S2:Hid (Sol w2 bs st2):=hs;have K2:Hid (SK bs w w2):=K1.o.trans hk;have E2:Hid (EnvAt w2 hi e (.pointer ea)):=EnvAt.sk S1.o hk E1.o;have B2:=bV (Ef S1.o hk B1.o rfl dZ);have R2l:=bV (Rep.sk S1.o hk R1l.o);have R2q:=bV (Rep.sk S1.o hk R1q.o);have c0:w2.cell? (aD b 3)=some (.iface T0 (pT n0)):=zcR B2.o;have c1:w2.cell? (aD b 4)=some (.iface T1 (pT n1)):=zcR B2.o;have c9:w2.cell? (aD b 2)=some (vI sg):=zcR B2.o;go_wp2_with fail;refine(hI S2.o R2q.o E2.o (uh H3)).mono ?_;rintro e1 w3 ⟨rfl,hk,hs⟩;have S3:Hid (Sol w3 bs st3):=hs;have K3:Hid (SK bs w w3):=K2.o.trans hk;have E3:Hid (EnvAt w3 hi e (.pointer ea)):=EnvAt.sk S2.o hk E2.o;have B3:=bV (Ef S2.o hk B2.o rfl dZ);have R3l:=bV (Rep.sk S2.o hk R2l.o);have R3q:=bV (Rep.sk S2.o hk R2q.o);have c0:w3.cell? (aD b 3)=some (.iface T0 (pT n0)):=zcR B3.o;have c1:w3.cell? (aD b 4)=some (.iface T1 (pT n1)):=zcR B3.o;have c9:w3.cell? (aD b 2)=some (vI sg):=zcR B3.o;go_wp2_with fail;refine(Js S3.o (uh H4)).mono ?_;rintro e1 w4 ⟨rfl,hk,hs⟩;have S4:Hid (Sol w4 bs st4):=hs;have K4:Hid (SK bs w w4):=K3.o.trans hk;have E4:Hid (EnvAt w4 hi e (.pointer ea)):=EnvAt.sk S3.o hk E3.o;have B4:=bV (Ef S3.o hk B3.o rfl dZ);have R4l:=bV (Rep.sk S3.o hk R3l.o);have R4q:=bV (Rep.sk S3.o hk R3q.o);have c0:w4.cell? (aD b 3)=some (.iface T0 (pT n0)):=zcR B4.o;have c1:w4.cell? (aD b 4)=some (.iface T1 (pT n1)):=zcR B4.o;have c9:w4.cell? (aD b 2)=some (vI sg):=zcR B4.o;cases b23:(sg==23)
 ·cases b15:(sg==15)
  ·go_wp2_with fail;go_ret;exact⟨Ej (by have h1:=b23;have h2:=b15;simp at h1 h2;have hr:=uh HR;rw[jA (λo=>o.elim h1 h2)]at hr;rw[<-hr];rfl),K4.o,S4.o⟩
  ·go_wp2_with fail;go_ret;exact⟨Ej (by have:=b15;simp at this;have hr:=uh HR;rw[mA (.inr this)]at hr;rw[<-hr];rfl),K4.o,S4.o⟩
 ·go_wp2_with fail;go_ret;exact⟨Ej (by have:=b23;simp at this;have hr:=uh HR;rw[mA (.inl this)]at hr;rw[<-hr];rfl),K4.o,S4.o⟩
end
section
open Tw Go.Proofs.Tryz
open Go.RowKit
variable{n bs hi b fr to r:Nat}{w:World}{st st':Tw.SS}{e:Tw.En}{ev v1:Value}
theorem Xp(m:Ea n){i:Tw.T}(h:Sol w bs st)
  (o:w.heap[b]?=some (.cells #[vI fr,vI to,v1] 206 (0,0))) (d:Rep w 0 hi i v1) (a:EnvAt w hi e ev) (c:Ax (n+1) (.bracket fr to i) e st=some (r,st')) :
  Calls prog 53 #[pT bs,.iface 204 (pT b),ev] w (Fo bs w r st'):=by
 rw[Ax]at c;have l:Hid (Sol w bs st):=h;have g:Hid (EnvAt w hi e ev):=a;have k:Hid (Rep w 0 hi i v1):=d;have j:=bV c;obtain⟨s,y,rfl⟩:=d.iface;obtain⟨x,rfl⟩:=a.ptr;obtain⟨_,_,t,_⟩:=An o;have z:=Jh;have A:=Sz;have B:=U7;have C:=J7;have D:=Nx;have E:=Ny;have F:=La;have G:=Qb;have H:=Gb;have I:=Gc
 go_in;go_wp2_with fail;refine(m l.o k.o g.o (uh j)).mono ?_;rintro v f ⟨rfl,p,q⟩;have X:Hid (SK bs w f/\Sol f bs st'):=⟨p,q⟩;go_wp2_with fail;go_ret;exact⟨rfl,X.o⟩
theorem zdb(m:Ea n){l q:Tw.T}{v2:Value}(h:Sol w bs st)
  (o:w.heap[b]?=some (.cells #[vI fr,vI to,v1,v2] 229 (0,0))) (t:Rep w 0 hi l v1) (v:Rep w 0 hi q v2) (p:EnvAt w hi e ev) (s:Ax (n+1) (.pair fr to l q) e st=some (r,st')) :
  Calls prog 53 #[pT bs,.iface 207 (pT b),ev] w (Fo bs w r st'):=by
 rw[Ax]at s;obtain⟨⟨T,R⟩,P,Q⟩:=zbE.1 s;obtain⟨⟨U,S⟩,j,k⟩:=zbE.1 Q;simp only at j k;have d:Hid (Sol w bs st):=h;have g:Hid (EnvAt w hi e ev):=p;have z:Hid (w.heap[b]?=some (.cells #[vI fr,vI to,v1,v2] 229 (0,0))):=o;have I:Hid (Rep w 0 hi l v1):=t;have G:Hid (Rep w 0 hi q v2):=v;have B:=bV P;have C:=bV j;have D:=bV k;obtain⟨V,Y,rfl⟩:=t.iface;obtain⟨W,Z,rfl⟩:=v.iface;obtain⟨O,rfl⟩:=p.ptr;obtain⟨_,_,M,N⟩:=B7 o;have q0:=Mz;have q1:=Xn;have q2:=Zl;have q3:=Nz;have q4:=Rm;have q5:=Ro;have q6:=Oj;have q7:=Vr;have q8:=I8;have q9:=I9
 go_in;go_wp2_with fail;refine(m d.o I.o g.o (uh B)).mono ?_;rintro i f ⟨rfl,a,c⟩;have J:Hid (Sol f bs R):=c;have E:Hid (SK bs w f):=a;have E1:Hid (EnvAt f hi e (.pointer O)):=EnvAt.sk d.o a g.o;have A:=bV (Ef d.o a z.o rfl dZ);have H:=bV (Rep.sk d.o a G.o);obtain⟨_,_,M,N⟩:=B7 A.o;go_wp2_with fail;refine(m J.o H.o E1.o (uh C)).mono ?_;rintro i x ⟨rfl,a,c⟩;have L:Hid (Sol x bs S):=c;have F:Hid (SK bs w x):=E.o.trans a;go_wp2_with fail;refine(Pi L.o 4 T U (uh D)).mono ?_;rintro i y ⟨rfl,a,c⟩;have X:Hid (SK bs w y/\Sol y bs st'):=⟨F.o.trans a,c⟩;go_wp2_with fail;go_ret;exact⟨rfl,X.o⟩
theorem zgm(U:Ea n){body:Tw.T}{c:List UInt8}{bat:Nat}(h:Sol w bs st)
    (V:w.heap[b]?=some (.cells #[vI fr,vI to,ug c,vI bat,v1] 235 (0,0))) (z:Rep w 0 hi body v1) (v:EnvAt w hi e ev) (x:Ax (n+1) (.fn fr to c bat body) e st=some (r,st')) :
    Calls prog 53 #[pT bs,.iface 215 (pT b),ev] w (Fo bs w r st'):=by
  rw[Ax]at x;obtain⟨⟨o,a0⟩,T,Y⟩:=zbE.1 x;obtain⟨⟨x2,a1⟩,s,t⟩:=zbE.1 Y;simp only at s t;have k:Hid (Sol w bs st):=h;have H:Hid (EnvAt w hi e ev):=v;have E:Hid (w.heap[b]?=some (.cells #[vI fr,vI to,ug c,vI bat,v1] 235 (0,0))):=V;have P:Hid (Rep w 0 hi body v1):=z;have I:=bV T;have J:=bV s;have L:=bV t;obtain⟨S,Z,rfl⟩:=z.iface;obtain⟨q,rfl⟩:=v.ptr;have q0:=Oo;have q1:=Zn;have q2:=za5;have q3:=Oq;have q4:=Uf;have q5:=Ug;have q6:=Qd;have q7:=Yg;have q8:=Ke;have q9:=Kf
  go_in;go_wp2_with fail;refine(Mb k.o (uh I)).mono ?_;rintro m f ⟨rfl,a,d⟩;have p:Hid (Sol f bs a0):=d;have M:Hid (SK bs w f):=a;have E1:Hid (EnvAt f hi e (.pointer q)):=EnvAt.sk k.o a H.o;have i:=bV (Ef k.o a E.o rfl dZ);have Q:=bV (Rep.sk k.o a P.o);obtain⟨_,_,c2,_,c4⟩:=Ev i.o;have j:Hid (f.grownBy f.drew none):=Ad (Aa _);go_wp2_with fail;go_region_held3 (λW=>W.cell? (aD b 2)=some (ug c)/\W.cell? (aD b 4)=some (.iface S (pT Z))) (go_keep)
    (first
      |(go_at_call 104;refine(Vn e (.pointer q) (E1.o.grown j.o) c o none none).mono ?_;rintro m B ⟨A,rfl,l,y⟩;have g:Hid (f.grownBy B none):=Ab j.o l;have O:Hid (EnvAt B hi (.fix c o e) (pT A)):=⟨A,_,rfl,y,E1.o.grown (Ab j.o l)⟩;have F:=Ev ((Ab j.o l).block b (zgE.1 i.o).1 sM|>.trans i.o);obtain⟨_,_,d2,_,d4⟩:=F;clear l y)
      |(go_at_call 53;refine(U (p.o.grown g.o) (Q.o.grown g.o (znL _) (znL _)) O.o (uh J)).mono ?_;rintro m C ⟨rfl,a,d⟩;have R:Hid (Sol C bs a1):=d;have N:Hid (SK bs w C):=M.o.trans ((SK.of_none g.o).trans a);have G:=Ev (Ef (p.o.grown g.o) a (zbG g.o i.o) rfl dZ);obtain⟨_,_,g2,_,g4⟩:=G;clear a d))
  go_wp2_with fail;refine(Pi R.o 3 o x2 (uh L)).mono ?_;rintro m D ⟨rfl,a,d⟩;have X:Hid (SK bs w D/\Sol D bs st'):=⟨N.o.trans a,d⟩;go_wp2_with fail;go_ret;exact⟨rfl,X.o⟩
end
section
open Tw Go.Proofs.Tryz
open Go.RowKit
variable{n bs hi b fr to bat r:Nat}{w:World}{st st':Tw.SS}{e:Tw.En}{ev v1 v2:Value}{d x:Tw.T}{bn:List UInt8}{rc:Bool}
theorem zgn(m:Ea n)(h:Sol w bs st)(q:rc=false)
  (o:w.heap[b]?=some (.cells #[vI fr,vI to,.bool rc,ug bn,vI bat,v1,v2] 140 (0,0))) (f:Rep w 0 hi d v1) (a:EnvAt w hi e ev) (c:defS (n+1) (.lett fr to rc bn bat d x) e st=some (r,st')) :
  Calls prog 105 #[pT bs,pT b,ev] w (Fo bs w r st'):=by
 subst q;rw[defS]at c;have l:Hid (Sol w bs st):=h;have i:Hid (EnvAt w hi e ev):=a;have k:Hid (Rep w 0 hi d v1):=f;have j:=bV c;obtain⟨t,B,rfl⟩:=f.iface;obtain⟨A,rfl⟩:=a.ptr;obtain⟨v,_,y,_⟩:=Bg o
 go_in;go_wp2_with fail;refine(m l.o k.o i.o (uh j)).mono ?_;rintro z g ⟨rfl,p,s⟩;have X:Hid (SK bs w g/\Sol g bs st'):=⟨p,s⟩;go_wp2_with fail;go_ret;exact⟨rfl,X.o⟩
theorem zk4(a1:Ea n)(h:Sol w bs st)(a4:rc=true)
    (y:w.heap[b]?=some (.cells #[vI fr,vI to,.bool rc,ug bn,vI bat,v1,v2] 140 (0,0))) (D:Rep w 0 hi d v1) (z:EnvAt w hi e ev) (A:defS (n+1) (.lett fr to rc bn bat d x) e st=some (r,st')) :
    Calls prog 105 #[pT bs,pT b,ev] w (Fo bs w r st'):=by
  subst a4;rw[defS]at A;obtain⟨⟨I,a5⟩,h1,a2⟩:=zbE.1 A;obtain⟨⟨x2,a6⟩,t,a3⟩:=zbE.1 a2;obtain⟨a7,v,B⟩:=zbE.1 a3;simp only[zsI,zpI]at B;obtain⟨rfl,rfl⟩:=B;simp only at t v;have k:Hid (Sol w bs st):=h;have N:Hid (EnvAt w hi e ev):=z;have J:Hid (w.heap[b]?=some (.cells #[vI fr,vI to,.bool true,ug bn,vI bat,v1,v2] 140 (0,0))):=y;have X:Hid (Rep w 0 hi d v1):=D;have O:=bV h1;have P:=bV t;have Q:=bV v;obtain⟨a0,n0,rfl⟩:=D.iface;obtain⟨s,rfl⟩:=z.ptr;obtain⟨c2,_,_,_⟩:=Bg y
  go_in;go_wp2_with fail;refine(Mb k.o (uh O)).mono ?_;rintro m f ⟨rfl,a,c⟩;have p:Hid (Sol f bs a5):=c;have R:Hid (SK bs w f):=a;have E1:Hid (EnvAt f hi e (.pointer s)):=EnvAt.sk k.o a N.o;have i:=bV (Ef k.o a J.o rfl dZ);have Y:=bV (Rep.sk k.o a X.o);obtain⟨_,c3,c5,_⟩:=Bg i.o;have j:Hid (f.grownBy f.drew none):=Ad (Aa _);go_wp2_with fail;go_region_held3 (λW=>W.cell? (aD b 3)=some (ug bn)/\W.cell? (aD b 5)=some (.iface a0 (pT n0))) (go_keep)
    (first
      |(go_at_call 104;refine(Vn e (.pointer s) (E1.o.grown j.o) bn I none none).mono ?_;rintro m F ⟨E,rfl,l,C⟩;have g:Hid (f.grownBy F none):=Ab j.o l;have V:Hid (EnvAt F hi (.fix bn I e) (pT E)):=⟨E,_,rfl,C,E1.o.grown (Ab j.o l)⟩;have L:=Bg ((Ab j.o l).block b (zgE.1 i.o).1 sM|>.trans i.o);obtain⟨_,d3,d5,_⟩:=L;clear l C)
      |(go_at_call 53;refine(a1 (p.o.grown g.o) (Y.o.grown g.o (znL _) (znL _)) V.o (uh P)).mono ?_;rintro m G ⟨rfl,a,c⟩;have q:Hid (Sol G bs a6):=c;have S:Hid (SK bs w G):=R.o.trans ((SK.of_none g.o).trans a);have o:=bV (Ef (p.o.grown g.o) a (zbG g.o i.o) rfl dZ);obtain⟨_,g3,g5,_⟩:=Bg o.o;clear a c)
      |(go_at_call 176;refine(Js q.o (uh Q)).mono ?_;rintro m H ⟨rfl,a,c⟩;have Z:Hid (Sol H bs a7):=c;have U:Hid (SK bs w H):=S.o.trans a;have M:=Bg (Ef q.o a o.o rfl dZ);obtain⟨_,i3,i5,_⟩:=M;clear a c))
  go_wp2_with fail;go_ret;exact⟨rfl,U.o,Z.o⟩
theorem zgo(V:Ea n)(U:Su n)(h:Sol w bs st)
    (X:w.heap[b]?=some (.cells #[vI fr,vI to,.bool rc,ug bn,vI bat,v1,v2] 140 (0,0))) (A:Rep w 0 hi x v2) (Z:Rep w 0 hi (.lett fr to rc bn bat d x) (.iface 136 (pT b))) (v:EnvAt w hi e ev) (y:Ax (n+1) (.lett fr to rc bn bat d x) e st=some (r,st')) :
    Calls prog 53 #[pT bs,.iface 136 (pT b),ev] w (Fo bs w r st'):=by
  rw[Ax]at y;obtain⟨⟨x1,a0⟩,S,t⟩:=zbE.1 y;simp only at t;have i:Hid (Sol w bs st):=h;have o:Hid (EnvAt w hi e ev):=v;have E:Hid (w.heap[b]?=some (.cells #[vI fr,vI to,.bool rc,ug bn,vI bat,v1,v2] 140 (0,0))):=X;have N:Hid (Rep w 0 hi x v2):=A;have q:=bV Z;have H:=bV S;have I:=bV t;obtain⟨Q,Y,rfl⟩:=A.iface;obtain⟨m,rfl⟩:=v.ptr;have q0:=Ot;have q1:=Zo;have q2:=za6;have q3:=Ou;have q4:=Uh;have q5:=Ui;have q6:=Qe;have q7:=Yh;have q8:=Kg;have q9:=Kh
  go_in;go_wp2_with fail;refine(U i.o (uh q) o.o (uh H)).mono ?_;rintro s c ⟨rfl,a,l⟩;have p:Hid (Sol c bs a0):=l;have J:Hid (SK bs w c):=a;have E1:Hid (EnvAt c hi e (.pointer m)):=EnvAt.sk i.o a o.o;have k:=bV (Ef i.o a E.o rfl dZ);have O:=bV (Rep.sk i.o a N.o);have R:=bV (Rep.sk i.o a (uh q));obtain⟨_,c3,_,c6⟩:=Bg k.o;have f:Hid (c.grownBy c.drew none):=Ad (Aa _);go_wp2_with fail;go_region_held3 (λW=>W.cell? (aD b 3)=some (ug bn)/\W.cell? (aD b 6)=some (.iface Q (pT Y))) (go_keep)
    (first
      |(go_at_call 104;refine(Vn e (.pointer m) (E1.o.grown f.o) bn 0 (some (aD b 0)) m).mono ?_;rintro s C ⟨B,rfl,j,z⟩;have g:Hid (c.grownBy C none):=Ab f.o j;have M:Hid (EnvAt C hi (.dfn bn (.lett fr to rc bn bat d x) e) (pT B)):=⟨B,_,b,rfl,z,E1.o.grown (Ab f.o j),(uh R).grown (Ab f.o j) (znL _) (znL _)⟩;have F:=Bg ((Ab f.o j).block b (zgE.1 k.o).1 sM|>.trans k.o);obtain⟨_,d3,_,d6⟩:=F;clear j z)
      |(go_at_call 53;refine(V (p.o.grown g.o) (O.o.grown g.o (znL _) (znL _)) M.o (uh I)).mono ?_;rintro s D ⟨rfl,a,l⟩;have P:Hid (Sol D bs st'):=l;have L:Hid (SK bs w D):=J.o.trans ((SK.of_none g.o).trans a);have G:=bV (Ef (p.o.grown g.o) a (zbG g.o k.o) rfl dZ);obtain⟨_,g3,_,g6⟩:=Bg G.o;clear a l))
  go_wp2_with fail;go_ret;exact⟨rfl,L.o,P.o⟩
end
section
open Tw
open Go.RowKit
variable{n:Nat}
theorem zi0(b:Ea n):Su (n+1):=by
 intro z l p bl s v t m o r h i e a;cases t with
 |lett fr to rc bn bat d x=>
  obtain⟨w,y,⟨k,_,_,j,c⟩,g,q⟩:=i;cases j;cases f:rc
  ·subst f;exact zgn b h rfl c g e a
  ·subst f;exact zk4 b h rfl c g e a
 |_=>simp[defS]at a
theorem zdc(p:Ea n)(t:Su n):Ea (n+1):=by
 intro M A F H I w B J C G j k e g;cases w with
 |name fr to x=>
  obtain⟨o,_,_,rfl,b⟩:=k;exact zc7 e (ziw t j b e g)
 |int fr to v=>
  obtain⟨o,_,_,rfl,b⟩:=k;simp only[Ax,zsI,zpI]at g;obtain⟨rfl,rfl⟩:=g;exact zgl j e
 |truth fr to v=>
  obtain⟨o,_,_,rfl,b⟩:=k;simp only[Ax,zsI,zpI]at g;obtain⟨rfl,rfl⟩:=g;exact za7 j e
 |side fr to v=>
  obtain⟨o,_,_,rfl,b⟩:=k;exact zc9 e (ziy j b g)
 |bracket fr to i=>
  obtain⟨r,⟨o,_,_,rfl,b⟩,h⟩:=k;exact Xp p j b h e g
 |pair fr to l q=>
  obtain⟨r,s,⟨o,_,_,rfl,b⟩,h,m⟩:=k;exact zdb p j b h m e g
 |call fr to f a=>
  obtain⟨r,s,⟨o,_,_,rfl,b⟩,h,m⟩:=k;exact zc8 e (ziz p j b h m e g)
 |binary fr to sg l q=>
  obtain⟨r,s,⟨o,_,_,rfl,b⟩,h,m⟩:=k;refine Zp e ?_;by_cases E:sg=23
  ·exact Ta p j b h m e g
  ·by_cases D:sg=15
   ·exact Ta p j b h m e g
   ·exact Ta p j b h m e g
 |cond fr to c w f=>
  obtain⟨r,s,L,⟨o,_,_,rfl,b⟩,h,m,z⟩:=k;exact zix e (zda p j b h m z e g)
 |fn fr to bn bat body=>
  obtain⟨r,⟨o,_,_,rfl,b⟩,h⟩:=k;exact zgm p j b h e g
 |lett fr to rc bn bat d x=>
  have y:=k;obtain⟨r,s,⟨o,_,_,rfl,b⟩,h,m⟩:=k;exact zgo p t j b m y e g
theorem Jt:∀n,Ea n/\Su n
 |0=>⟨λ_ _ _ a=>by simp[Ax]at a,λ_ _ _ a=>by simp[defS]at a⟩
 |n+1=>⟨zdc (Jt n).1 (Jt n).2,zi0 (Jt n).1⟩
end
end Go.Proofs.YtckhafpejefbbaaGreatDoor
namespace Go.Proofs.YtckhafpejefbbaaGreatDoor.Tw
section
open Go
def Mt(x:Sh):Bool:=x.sort==3||x.sort==4
def Fu:Nat->SS->List Int->Nat->Option (Bool×SS×List Int)
 |0,_,_,_=>none
 |n+1,st,mk,r=>(Ga n st r).bind λp=>match p.2.shs[p.1]?,mk[p.1]? with
  |some x,some m=>
   if m=0/\Mt x=true then
    (Fu n p.2 (mk.set p.1 1) x.left).bind λa=>
     if a.1 then some (true,a.2)else(Fu n a.2.1 a.2.2 x.right).bind λb=>if b.1 then some (true,b.2)else some (false,b.2.1,b.2.2.set p.1 2)
   else some (m==1,p.2,mk)
  |_,_=>none
def D7(fuel:Nat):Nat->SS->List Int->Nat->Nat->Option (Bool×SS)
 |0,_,_,_,_=>none
 |n+1,st,mk,r,len=>if r<len then(Fu fuel st mk r).bind λa=>if a.1 then some (true,a.2.1)else D7 fuel n a.2.1 a.2.2 (r+1) len else some (false,st)
def Mu(fuel:Nat)(st:SS):Option (Bool×SS):=D7 fuel (st.shs.length+1) st (List.replicate st.shs.length 0) 0 st.shs.length
end
end Go.Proofs.YtckhafpejefbbaaGreatDoor.Tw
namespace Go.Proofs.YtckhafpejefbbaaGreatDoor
section
open Tw Go.Proofs.Tryz
open Go.RowKit
variable{bs g gm b:Nat}{a w w':World}{mk:List Int}
structure HK(bs g gm:Nat)(w w':World):Prop where
 os:w'.os=w.os
 tape:w'.tape=w.tape
 output:w'.output=w.output
 size:w.heap.size<=w'.heap.size
 block:∀k,k<w.heap.size->k≠bs->k≠g->k≠gm->w'.heap[k]?=w.heap[k]?
theorem HK.trans{b c:World}(h:HK bs g gm a b)(k:HK bs g gm b c):HK bs g gm a c:=
 ⟨k.os.trans h.os,k.tape.trans h.tape,k.output.trans h.output,kB h.size k.size,λj e d i f=>(k.block j (aB e h.size) d i f).trans (h.block j e d i f)⟩
theorem HK.of_uk(h:UK bs g w w'):HK bs g gm w w':=⟨h.os,h.tape,h.output,h.size,λi d c e _=>h.block i d c e⟩
theorem HK.of_none(h:w.grownBy w' none):HK bs g gm w w':=HK.of_uk (UK.of_none h)
theorem HK.setMark(h:HK bs g gm a w)(j:Nat)(v:Value):HK bs g gm a (w.setCell (aD gm j) v):=
 h.trans ⟨rfl,rfl,rfl,sM,λk _ _ _ c=>aA w (aD gm j) k v (by simpa using c)⟩
theorem HK.at(h:HK bs g gm w w'){o:Obj}(c:w.heap[b]?=some o)(d:b≠bs)(e:b≠g)(f:b≠gm):w'.heap[b]?=some o:=by
 rw[h.block b (zgE.1 c).1 d e f];exact c
def Iq(mk:List Int):Array Value:=(mk.map λn=>Value.int .i64 n).toArray
def MarksAt(w:World)(gm:Nat)(mk:List Int):Prop:=w.heap[gm]?=some (.cells (Iq mk) 341 (0,0))
theorem MarksAt.get(h:MarksAt w gm mk){j:Nat}{m:Int}(c:mk[j]?=some m):w.cell? (aD gm j)=some (vI m):=by
 rw[mB w gm _ _ _ _ h];simp[Iq,c]
theorem MarksAt.set(h:MarksAt w gm mk)(j:Nat)(m:Int):MarksAt (w.setCell (aD gm j) (vI m)) gm (mk.set j m):=by
 unfold MarksAt;rw[cD _ _ _ _ _ _ h];congr 2;apply Array.ext';simp[Iq,List.map_set]
theorem RowAt.other{cap:Nat}{c:Array Value}{st:SS}(h:RowAt w bs g cap c st)(d:b≠bs)(e:b≠g)(j:Nat)(v:Value):RowAt (w.setCell (aD b j) v) bs g cap c st:=
 {h with solver:=by rw[aA _ _ _ _ (by simpa using d.symm)];exact h.solver,row:=by rw[aA _ _ _ _ (by simpa using e.symm)];exact h.row}
theorem Rt(x:Sh)(w:World):
  Calls prog 178 #[.agg #[vI x.sort,vI x.left,vI x.right,vI x.same]] w λe w'=>e=.returned (.bool (Mt x))/\w.grownBy w' none:=by
 unfold Mt;cases c:(x.sort==3)
 ·go_in;go_wp2_with fail;go_ret;exact⟨Ei sM,zwA _ _ none⟩
 ·go_in;go_wp2_with fail;go_ret;exact⟨Ei sM,zwA _ _ none⟩
def znm(bs g cap gm:Nat)(w:World)(b:Bool)(st':SS)(d:List Int)(e:Ending)(w':World):Prop:=e=.returned (.bool b)/\HK bs g gm w w'/\(∃c,RowAt w' bs g cap c st')/\MarksAt w' gm d
def zku(n:Nat):Prop:=∀ {w:World} {bs g c gm:Nat} {h:Array Value} {e f:SS} {mk d:List Int} {r:Nat} {b:Bool},RowAt w bs g c h e->MarksAt w gm mk->gm≠bs->gm≠g->mk.length<=10000001->Fu n e mk r=some (b,f,d) ->
  Calls prog 106 #[.pointer (some ⟨bs,0,none⟩),.int .i64 r,.slice (some ⟨gm,0,none⟩) mk.length mk.length] w (znm bs g c gm w b f d)
theorem Mg:∀(n:Nat) {st st':SS} {mk i:List Int} {r:Nat} {b:Bool},Fu n st mk r=some (b,st',i)->i.length=mk.length
 |0,_,_,_,_,_,_,h=>by simp[Fu]at h
 |n+1,st,st',mk,i,r,b,h=>by
  rw[Fu]at h;obtain⟨⟨p,v⟩,q,c⟩:=zbE.1 h;simp only at c;split at c;rotate_left
  ·cases c
  split at c
  ·obtain⟨⟨m,x,s⟩,k,e⟩:=zbE.1 c;have f:=Mg n k;simp only at e;split at e
   ·simp only[zsI,zpI]at e;rw[<-e.2.2,f];simp
   ·obtain⟨⟨o,y,t⟩,l,d⟩:=zbE.1 e;have j:=Mg n l;simp only at d;split at d
    ·simp only[zsI,zpI]at d;rw[<-d.2.2,j,f];simp
    ·simp only[zsI,zpI]at d;rw[<-d.2.2];simp[j,f]
  ·simp only[zsI,zpI]at c;rw[c.2.2]
end
section
abbrev jB:=@List.length_set
end
section
open Tw Go.Proofs.Tryz
open Go.RowKit
theorem zdd{n:Nat}(ih:zku n):zku (n+1):=by
 intro w bs g cap gm cur st st' mk mk' r b h hM hgb hgg hlm hf;rw[Fu]at hf;obtain⟨⟨p,st1⟩,hp,hf1⟩:=zbE.1 hf;clear hf;simp only at hf1;cases hx:st1.shs[p]? with
 |none=>rw[hx]at hf1;simp at hf1
 |some x=>
 cases hm:mk[p]? with
 |none=>rw[hx,hm]at hf1;simp at hf1
 |some m=>
 rw[hx,hm]at hf1;simp only at hf1;have HH:Hid (RowAt w bs g cap cur st):=h;have M0:Hid (MarksAt w gm mk):=hM;have H1:Hid (Ga n st r=some (p,st1)):=hp;have HX:Hid (st1.shs[p]?=some x):=hx;have HMK:Hid (mk[p]?=some m):=hm;have hpm:p<mk.length:=(zlE.1 hm).1;have hpmi:(p:Int)<(mk.length:Int):=oM;have c237:prog.cellsOf 334=4:=kR;have c252:prog.cellsOf 341=1:=kR;have zg:=(zgE.1 h.row).1;have zb:=(zgE.1 h.solver).1;have zm:=(zgE.1 hM).1;clear h hM hp hx hm;by_cases hmx:m=0/\Mt x=true;rotate_left
 ·rw[jA hmx]at hf1;simp only[zsI,zpI]at hf1;obtain⟨hb,rfl,rfl⟩:=hf1;have HB:=bV hb;clear hb;cases hm0:(m != 0)
  ·have hmd:Hid (Mt x=false):=by
    show _=_;cases e:Mt x
    ·rfl
    ·exact absurd ⟨by simpa using hm0,e⟩ hmx
   clear hmx
   go_in;go_wp2_with fail;refine(Hu HH.o H1.o).mono ?_;rintro e1 w1 ⟨rfl,hk,cur1,hR⟩;have P1:Hid (RowAt w1 bs g cap cur1 st1):=hR;have K1:Hid (UK bs g w w1):=hk;have M1:Hid (MarksAt w1 gm mk):=hk.at M0.o hgb hgg;obtain⟨hpl,x0,x1,x2,x3⟩:=hR.sh HX.o;obtain⟨s0,_,_,_⟩:=Be hR.solver;have hpi:(p:Int)<(st1.shs.length:Int):=oM;have hml:=hR.many;have z1:=hk.size;have zm1:gm<w1.heap.size:=oM;have zg1:g<w1.heap.size:=oM;have zb1:bs<w1.heap.size:=oM;have mc:=M1.o.get HMK.o;have mf:=eB _ _ p _ _ M1.o;clear hk hR;go_wp2_with fail;refine(Rt x _).mono ?_;rintro e1 w2 ⟨rfl,hg⟩;rw[hmd.o];have G2:Hid (w1.grownBy w2 none):=Ab (zwA _ _ none) hg;have M2:Hid (MarksAt w2 gm mk):=(Keep.of_none (bp:=bs) G2.o).at M1.o hgb;have mc2:=M2.o.get HMK.o;clear hg;go_wp2_with fail;go_ret;exact⟨Ei (uh HB),HK.trans (HK.of_uk K1.o) (HK.of_none G2.o),⟨cur1,P1.o.grown G2.o⟩,M2.o⟩
  ·clear hmx
   go_in;go_wp2_with fail;refine(Hu HH.o H1.o).mono ?_;rintro e1 w1 ⟨rfl,hk,cur1,hR⟩;have P1:Hid (RowAt w1 bs g cap cur1 st1):=hR;have K1:Hid (UK bs g w w1):=hk;have M1:Hid (MarksAt w1 gm mk):=hk.at M0.o hgb hgg;obtain⟨hpl,x0,x1,x2,x3⟩:=hR.sh HX.o;obtain⟨s0,_,_,_⟩:=Be hR.solver;have hpi:(p:Int)<(st1.shs.length:Int):=oM;have hml:=hR.many;have z1:=hk.size;have zm1:gm<w1.heap.size:=oM;have zg1:g<w1.heap.size:=oM;have zb1:bs<w1.heap.size:=oM;have mc:=M1.o.get HMK.o;have mf:=eB _ _ p _ _ M1.o;clear hk hR;go_wp2_with fail;go_ret;exact⟨Ei (uh HB),HK.trans (HK.of_uk K1.o) (HK.of_none (zwA _ _ none)),⟨cur1,P1.o.grown (zwA _ _ none)⟩,Ly M1.o _⟩
 ·rw[mA hmx]at hf1;obtain⟨hm0,hmd0⟩:=hmx;have hm1:(m != 0)=false:=by simp[hm0]
  have hmd:Hid (Mt x=true):=hmd0;clear hm0 hmd0;obtain⟨⟨b1,st2,mk2⟩,h2,hf2⟩:=zbE.1 hf1;clear hf1;simp only at hf2;have L2:=Mg n h2;simp only[jB]at L2;have H2:Hid (Fu n st1 (mk.set p 1) x.left=some (b1,st2,mk2)):=h2;clear h2;have HF:=bV hf2;clear hf2;cases hb1:b1
  ·have HF2:=uh HF;rw[hb1]at HF2;simp only[xA,if_false]at HF2;obtain⟨⟨b2,st3,mk3⟩,h4,hf5⟩:=zbE.1 HF2;simp only at hf5;have L3:=Mg n h4;have H4:Hid (Fu n st2 mk2 x.right=some (b2,st3,mk3)):=h4;subst hb1;clear HF HF2 h4;have HF5:=bV hf5;clear hf5
   go_in;go_wp2_with fail;refine(Hu HH.o H1.o).mono ?_;rintro e1 w1 ⟨rfl,hk,cur1,hR⟩;have P1:Hid (RowAt w1 bs g cap cur1 st1):=hR;have K1:Hid (UK bs g w w1):=hk;have M1:Hid (MarksAt w1 gm mk):=hk.at M0.o hgb hgg;obtain⟨hpl,x0,x1,x2,x3⟩:=hR.sh HX.o;obtain⟨s0,_,_,_⟩:=Be hR.solver;have hpi:(p:Int)<(st1.shs.length:Int):=oM;have hml:=hR.many;have z1:=hk.size;have zm1:gm<w1.heap.size:=oM;have zg1:g<w1.heap.size:=oM;have zb1:bs<w1.heap.size:=oM;have mc:=M1.o.get HMK.o;have mf:=eB _ _ p _ _ M1.o;clear hk hR;go_wp2_with fail;refine(Rt x _).mono ?_;rintro e1 w2 ⟨rfl,hg⟩;rw[hmd.o];have G2:Hid (w1.grownBy w2 none):=Ab (zwA _ _ none) hg;have N2:Hid (w2.heap[w1.heap.size]?=some (.cells #[vI x.sort,vI x.left,vI x.right,vI x.same] 334 (0,0))):=(hg.block _ sM sM).trans (Ac w1 _);have M2:Hid (MarksAt w2 gm mk):=(Keep.of_none (bp:=bs) G2.o).at M1.o hgb;have P2:Hid (RowAt w2 bs g cap cur1 st1):=P1.o.grown G2.o;have z2:=G2.o.size;have mc2:=M2.o.get HMK.o;have mf2:=eB _ _ p _ _ M2.o;obtain⟨y0,y1,y2,y3⟩:=B7 N2.o;clear hg x0 x1 x2 x3 s0 mc mf;go_wp2_with fail;have Q2:=ih (P2.o.other hgb hgg p (vI 1)) (M2.o.set p 1) hgb hgg (by simpa using hlm) H2.o;rw[jB]at Q2;refine Q2.mono ?_;rintro e1 w3 ⟨rfl,hk,⟨cur3,hR⟩,hM3⟩;have P3:Hid (RowAt w3 bs g cap cur3 st2):=hR;have M3:Hid (MarksAt w3 gm mk2):=hM3;have K3:Hid (HK bs g gm w w3):=(HK.trans (HK.of_uk K1.o) (HK.of_none G2.o)).setMark p _|>.trans hk;have N2b:Hid ((w2.setCell (aD gm p) (vI 1)).heap[w1.heap.size]?=some (.cells #[vI x.sort,vI x.left,vI x.right,vI x.same] 334 (0,0))):=by
    show _=_;rw[aA _ _ _ _ (by simp;omega)];exact N2.o
   have N3:Hid (w3.heap[w1.heap.size]?=some (.cells #[vI x.sort,vI x.left,vI x.right,vI x.same] 334 (0,0))):=hk.at N2b.o oM oM oM;have z3:w2.heap.size<=w3.heap.size:=(by have:=hk.size;simpa using this);clear hk hR hM3 Q2 y0 y1 y2 y3 mc2 mf2;obtain⟨y0,y1,y2,y3⟩:=B7 N3.o;have Q3:=ih P3.o M3.o hgb hgg (by rw[L2];exact hlm) H4.o;rw[L2]at Q3;cases hb2:b2
   ·have HF6:=uh HF5;rw[hb2]at HF6;simp only[xA,if_false,zsI,zpI]at HF6;obtain⟨rfl,rfl,rfl⟩:=HF6;subst hb2;go_wp2_with fail;refine Q3.mono ?_;rintro e1 w4 ⟨rfl,hk,⟨cur4,hR⟩,hM4⟩;have P4:Hid (RowAt w4 bs g cap cur4 st3):=hR;have M4:Hid (MarksAt w4 gm mk3):=hM4;have K4:Hid (HK bs g gm w w4):=K3.o.trans hk;have hp3:mk3[p]?.isSome:=(by simp;omega);obtain⟨m3,hm3⟩:=Option.isSome_iff_exists.1 hp3;have mc4:=M4.o.get hm3;have mf4:=eB _ _ p _ _ M4.o;clear hk hR hM4 Q3 hp3 hm3;go_wp2_with fail;go_ret;exact⟨rfl,K4.o.setMark p _,⟨cur4,P4.o.other hgb hgg p _⟩,M4.o.set p 2⟩
   ·have HF6:=uh HF5;rw[hb2]at HF6;simp only[if_true,zsI,zpI]at HF6;obtain⟨rfl,rfl,rfl⟩:=HF6;subst hb2;go_wp2_with fail;refine Q3.mono ?_;rintro e1 w4 ⟨rfl,hk,⟨cur4,hR⟩,hM4⟩;have X:Hid (HK bs g gm w w4/\(∃cur',RowAt w4 bs g cap cur' st3)/\MarksAt w4 gm mk3):=⟨K3.o.trans hk,⟨cur4,hR⟩,hM4⟩;clear hk hR hM4 Q3;go_wp2_with fail;go_ret;exact⟨rfl,X.o⟩
  ·have HF2:=uh HF;rw[hb1]at HF2;simp only[if_true,zsI,zpI]at HF2;obtain⟨rfl,rfl,rfl⟩:=HF2;subst hb1;clear HF
   go_in;go_wp2_with fail;refine(Hu HH.o H1.o).mono ?_;rintro e1 w1 ⟨rfl,hk,cur1,hR⟩;have P1:Hid (RowAt w1 bs g cap cur1 st1):=hR;have K1:Hid (UK bs g w w1):=hk;have M1:Hid (MarksAt w1 gm mk):=hk.at M0.o hgb hgg;obtain⟨hpl,x0,x1,x2,x3⟩:=hR.sh HX.o;obtain⟨s0,_,_,_⟩:=Be hR.solver;have hpi:(p:Int)<(st1.shs.length:Int):=oM;have hml:=hR.many;have z1:=hk.size;have zm1:gm<w1.heap.size:=oM;have zg1:g<w1.heap.size:=oM;have zb1:bs<w1.heap.size:=oM;have mc:=M1.o.get HMK.o;have mf:=eB _ _ p _ _ M1.o;clear hk hR;go_wp2_with fail;refine(Rt x _).mono ?_;rintro e1 w2 ⟨rfl,hg⟩;rw[hmd.o];have G2:Hid (w1.grownBy w2 none):=Ab (zwA _ _ none) hg;have N2:Hid (w2.heap[w1.heap.size]?=some (.cells #[vI x.sort,vI x.left,vI x.right,vI x.same] 334 (0,0))):=(hg.block _ sM sM).trans (Ac w1 _);have M2:Hid (MarksAt w2 gm mk):=(Keep.of_none (bp:=bs) G2.o).at M1.o hgb;have P2:Hid (RowAt w2 bs g cap cur1 st1):=P1.o.grown G2.o;have z2:=G2.o.size;have mc2:=M2.o.get HMK.o;have mf2:=eB _ _ p _ _ M2.o;obtain⟨y0,y1,y2,y3⟩:=B7 N2.o;clear hg x0 x1 x2 x3 s0 mc mf;go_wp2_with fail;have Q2:=ih (P2.o.other hgb hgg p (vI 1)) (M2.o.set p 1) hgb hgg (by simpa using hlm) H2.o;rw[jB]at Q2;refine Q2.mono ?_;rintro e1 w3 ⟨rfl,hk,⟨cur3,hR⟩,hM3⟩;have P3:Hid (RowAt w3 bs g cap cur3 st2):=hR;have M3:Hid (MarksAt w3 gm mk2):=hM3;have K3:Hid (HK bs g gm w w3):=(HK.trans (HK.of_uk K1.o) (HK.of_none G2.o)).setMark p _|>.trans hk;have N2b:Hid ((w2.setCell (aD gm p) (vI 1)).heap[w1.heap.size]?=some (.cells #[vI x.sort,vI x.left,vI x.right,vI x.same] 334 (0,0))):=by
    show _=_;rw[aA _ _ _ _ (by simp;omega)];exact N2.o
   have N3:Hid (w3.heap[w1.heap.size]?=some (.cells #[vI x.sort,vI x.left,vI x.right,vI x.same] 334 (0,0))):=hk.at N2b.o oM oM oM;have z3:w2.heap.size<=w3.heap.size:=(by have:=hk.size;simpa using this);clear hk hR hM3 Q2 y0 y1 y2 y3 mc2 mf2;obtain⟨y0,y1,y2,y3⟩:=B7 N3.o;go_wp2_with fail;go_ret;exact⟨rfl,K3.o,⟨cur3,P3.o⟩,M3.o⟩
theorem Yi:∀n,zku n
 |0=>λ_ _ _ _ _ a=>by simp[Fu]at a
 |n+1=>zdd (Yi n)
end
section
abbrev zN:Value:=.slice none 0 0
abbrev mD:=@World.ownsRow_nil
end
section
open Tw Go.Proofs.Tryz
open Go.RowKit
theorem Tryz.info341:(Tryz.prog.info? 341).map (λi=>(i.zero,i.size,i.bytes))=some (some (vI 0),1,8):=kR
theorem zde(N:Nat):madeCells (vI 0).cells N=Iq (List.replicate N 0):=by
 apply Array.ext
 ·simp[madeCells,Iq]
 ·intro i a b;simp[madeCells,Iq,Value.cells,Nat.mod_one]
theorem zdf(N:Nat)(g:N<=10000001):∃a,a=Iq (List.replicate N 0)/\∀W:World,(Instr.makeSlice 240 (vI N) (vI N)).run prog W=.ok (sL W.heap.size N N) (W.alloc (.cells a 341)):=by
 obtain⟨f,b,c,d,e⟩:=info_parts Tryz.info341;refine⟨_,rfl,λW=>?_⟩;have h:=run_make (P:=prog) W 240 341 f (vI 0) underlying240 b c .i64 .i64 N N oM oM (by rw[e];omega) oM;rw[d]at h;simp only[Int.toNat_natCast,Nat.mul_one]at h;rw[zde]at h;exact h
theorem Uj{w:World}{bs g cap:Nat}{v:Array Value}{st st':SS}(h:RowAt w bs g cap v st){fuel:Nat}{b:Bool}(G:Mu fuel st=some (b,st')):
  Calls prog 54 #[pT bs] w λe J=>e=.returned (.bool b)/\UK bs g w J/\∃U,RowAt J bs g cap U st':=by
 obtain⟨s0,_,_,_⟩:=Be h.solver;have zb:=(zgE.1 h.solver).1;have zg:=(zgE.1 h.row).1;have W:=h.many;obtain⟨C,E,a2⟩:=zdf st.shs.length W;have M:=bV E;have L:Hid (RowAt w bs g cap v st):=h;have o:Hid (D7 fuel (st.shs.length+1) st (List.replicate st.shs.length 0) 0 st.shs.length=some (b,st')):=G;generalize F:st.shs.length=N at *;have a0:=bV F;clear h G E F
 go_in;go_wp2_with fail;go_loopg[16] (N+1) (λk Z wr=>∃(q:Nat) (B:SS) (s:List Int) (x:Array Value),Z=vI q/\q<=N/\s.length=N/\Hid (RowAt wr bs g cap x B)/\Hid (MarksAt wr w.heap.size s)/\Hid (HK bs g w.heap.size (w.alloc (.cells C 341)) wr)/\Hid (D7 fuel k B s q N=some (b,st')))
 case atStart=>exact⟨0,st,List.replicate N 0,v,rfl,oM,sM,L.o.grown (zwA _ _ none),by show _=_;rw[Ac];rw[uh M],HK.of_none (Aa _),o⟩
 case round=>
  obtain⟨q,B,s,x,rfl,hq,Y,D,R,d,t⟩:=hrel;cases gk with
  |zero=>have:=t.o;simp[D7]at this
  |succ k=>
  have c:=t.o;rw[D7]at c;clear t o;by_cases H:q<N
  ·rw[mA H]at c;obtain⟨⟨T,A,I⟩,f,a⟩:=zbE.1 c;simp only at a;have Q:=Yi fuel D.o R.o oM oM oM f;rw[Y]at Q;have a1:=Mg fuel f;clear c f;cases r:T
   ·rw[r]at a;simp only[xA,if_false]at a;have o:=bV a;subst r;clear a;go_wp2_with fail;refine Q.mono ?_;rintro V n ⟨rfl,l,⟨i,j⟩,p⟩;have S:Hid (RowAt n bs g cap i A):=j;have P:Hid (MarksAt n w.heap.size I):=p;have O:=bV (d.o.trans l);clear l j p Q;go_wp2_with fail;go_roundg k
    case measure=>omega
    case rel=>exact⟨q+1,A,I,i,by go_num,oM,oM,S,P,O,o⟩
   ·rw[r]at a;simp only[if_true,zsI,zpI]at a;obtain⟨rfl,rfl⟩:=a;subst r;go_wp2_with fail;refine Q.mono ?_;rintro V n ⟨rfl,l,⟨i,j⟩,p⟩;have X:Hid (HK bs g w.heap.size (w.alloc (.cells C 341)) n/\RowAt n bs g cap i A):=⟨d.o.trans l,j⟩;clear l j p Q;go_wp2_with fail;go_ret;go_light;refine⟨rfl,⟨X.o.1.os,X.o.1.tape,X.o.1.output,by have:=X.o.1.size;simp at this;omega,λm z f y=>?_⟩,i,X.o.2⟩;rw[X.o.1.block m (by simp;omega) f y oM];exact Below.heap_alloc w _ m z
  ·rw[jA H]at c;simp only[zsI,zpI]at c;obtain⟨rfl,rfl⟩:=c;go_wp2_with fail;go_ret;go_light;refine⟨rfl,⟨d.o.os,d.o.tape,d.o.output,by have:=d.o.size;simp at this;omega,λm z f y=>?_⟩,x,D.o⟩;rw[d.o.block m (by simp;omega) f y oM];exact Below.heap_alloc w _ m z
theorem Ln(w:World):
  Calls prog 52 #[] w λe d=>e=.returned (pT w.heap.size)/\w.grownBy d none/\Sol d w.heap.size ⟨[⟨1,0,0,0⟩,⟨2,0,0,1⟩],false⟩:=by
 have h:Hid (SolAt (w.alloc (.cells #[zN,.bool false] 128)) w.heap.size zN ⟨[],false⟩):=
  ⟨Ac w _,mD _ _ _ _,by simp[Value.ownBlock],sM⟩
 go_in;go_wp2_with fail;refine(Zh h.o 1 0 0 (n:=0) (st':=⟨[⟨1,0,0,0⟩],false⟩) rfl).mono ?_;rintro o t ⟨rfl,b,r,a⟩;have j:Hid (SolAt t w.heap.size r ⟨[⟨1,0,0,0⟩],false⟩):=a;have f:=bV b;go_wp2_with fail;refine(Zh j.o 2 0 0 (n:=1) (st':=⟨[⟨1,0,0,0⟩,⟨2,0,0,1⟩],false⟩) rfl).mono ?_;rintro o v ⟨rfl,b,s,a⟩;have k:Hid (SolAt v w.heap.size s ⟨[⟨1,0,0,0⟩,⟨2,0,0,1⟩],false⟩):=a;have g:=bV ((uh f).trans b);go_wp2_with fail;go_ret;go_light;refine⟨rfl,?_,?_⟩
 ·have K:=uh g;exact⟨K.os,K.tape,K.output,by have:=K.size;simp at this;omega,λi c _=>by
   rw[K.block i (by simp;omega) oM (.inl c)];exact Below.heap_alloc w _ i c⟩
 ·obtain⟨p,l,m,_,q⟩:=k.o.row sM;exact⟨p,l,m,q⟩
end
end Go.Proofs.YtckhafpejefbbaaGreatDoor
namespace Go.Proofs.YtckhafpejefbbaaGreatDoor.Tw
section
open Go
inductive WEn where
 |nil
 |cons (name:List UInt8) (k:Nat) (o:WEn)
def WEn.look:WEn->List UInt8->Option Nat
 |.nil,_=>none
 |.cons n k o,x=>if n=x then some k else o.look x
def WEn.size:WEn->Nat
 |.nil=>0
 |.cons _ _ o=>o.size+1
def Ae:T->WEn->Option Nat
 |.name _ _ x,e=>(e.look x).bind λk=>some (min k 2001)
 |.int _ _ _,_=>some 1
 |.truth _ _ _,_=>some 1
 |.side _ _ _,_=>some 1
 |.bracket _ _ i,e=>(Ae i e).bind λa=>some (min (1+a) 2001)
 |.pair _ _ l r,e=>(Ae l e).bind λa=>(Ae r e).bind λb=>some (min (1+a+b) 2001)
 |.call _ _ l r,e=>(Ae l e).bind λa=>(Ae r e).bind λb=>some (min (1+a+b) 2001)
 |.binary _ _ _ l r,e=>(Ae l e).bind λa=>(Ae r e).bind λb=>some (min (1+a+b) 2001)
 |.cond _ _ c t f,e=>(Ae c e).bind λa=>(Ae t e).bind λb=>(Ae f e).bind λd=>some (min (1+a+b+d) 2001)
 |.fn _ _ bn _ b,e=>(Ae b (.cons bn 1 e)).bind λa=>some (min (1+a) 2001)
 |.lett _ _ rc bn _ d b,e=>(Ae d (if rc then .cons bn 1 e else e)).bind λa=>(Ae b (.cons bn a e)).bind λc=>some (min (1+(a+c)) 2001)
end
end Go.Proofs.YtckhafpejefbbaaGreatDoor.Tw
namespace Go.Proofs.YtckhafpejefbbaaGreatDoor
section
abbrev fA:=@List.getElem?_eq_getElem
abbrev qD:=@List.getElem?_set_ne
end
end Go.Proofs.YtckhafpejefbbaaGreatDoor
namespace Go.Proofs.YtckhafpejefbbaaGreatDoor.Tw
section
open Go
variable{r p a b:Nat}{f:Nat->Nat}{y x:Sh}
inductive Ty where
 |var (n:Nat)
 |int
 |bool
 |fn (a b:Ty)
 |pair (a b:Ty)
 deriving DecidableEq
inductive RootOf(st:SS):Nat->Nat->Prop
 |here {r:Nat} {x:Sh} (h:st.shs[r]?=some x) (hs:x.same=r):RootOf st r r
 |step {r p:Nat} {x:Sh} (h:st.shs[r]?=some x) (hs:x.same≠r) (hr:RootOf st x.same p):RootOf st r p
theorem RootOf.unique{st:SS}{q:Nat}(h:RootOf st r p)(k:RootOf st r q):p=q:=by
 induction h with
 |here h hs=>
  cases k with
  |here=>rfl
  |step h' hs'=>rw[h]at h';cases h';exact absurd hs hs'
 |step h hs _ ih=>
  cases k with
  |here h' hs'=>rw[h]at h';cases h';exact absurd hs' hs
  |step h' hs' hr=>rw[h]at h';cases h';exact ih hr
theorem RootOf.root{st:SS}(h:RootOf st r p):∃x,st.shs[p]?=some x/\x.same=p:=by
 induction h with
 |here h hs=>exact⟨_,h,hs⟩
 |step _ _ _ ih=>exact ih
theorem RootOf.self{st:SS}(h:RootOf st r p):RootOf st p p:=by
 obtain⟨x,c,d⟩:=h.root;exact .here c d
theorem RootOf.lt{st:SS}(h:RootOf st r p):r<st.shs.length/\p<st.shs.length:=by
 obtain⟨x,c,_⟩:=h.root;refine⟨?_,(zlE.1 c).1⟩;cases h with
 |here h=>exact(zlE.1 h).1
 |step h=>exact(zlE.1 h).1
def SS.eqv(st:SS)(a b:Nat):Prop:=∃p,RootOf st a p/\RootOf st b p
theorem SS.eqv.symm{st:SS}(h:st.eqv a b):st.eqv b a:=by obtain⟨p,x,y⟩:=h;exact⟨p,y,x⟩
theorem SS.eqv.trans{st:SS}{c:Nat}(h:st.eqv a b)(k:st.eqv b c):st.eqv a c:=by
 obtain⟨p,x,y⟩:=h;obtain⟨q,z,d⟩:=k
 have:=y.unique z;subst this;exact⟨p,x,d⟩
structure SS.Wf(st:SS)(f:Nat->Nat):Prop where
 rank:∀(r:Nat) (x:Sh),st.shs[r]?=some x->x.same≠r->f x.same<f r
 range:∀(r:Nat) (x:Sh),st.shs[r]?=some x->x.same<st.shs.length/\x.left<st.shs.length/\x.right<st.shs.length
 sort:∀(r:Nat) (x:Sh),st.shs[r]?=some x->x.sort=0\/x.sort=1\/x.sort=2\/x.sort=3\/x.sort=4
 leaf:∀(r:Nat) (x:Sh),st.shs[r]?=some x->x.sort≠3->x.sort≠4->x.left=0/\x.right=0
 like:∀(r p:Nat) (x y:Sh),st.shs[r]?=some x->RootOf st r p->st.shs[p]?=some y->x.sort≠0->y.sort=x.sort
theorem SS.Wf.rootAt{st:SS}(h:st.Wf f):∀(k r:Nat),f r<=k->r<st.shs.length->∃p,RootOf st r p
 |k,r,hk,hr=>by
  have c:st.shs[r]?=some st.shs[r]:=fA hr;by_cases d:(st.shs[r]).same=r
  ·exact⟨r,.here c d⟩
  ·have g:=h.rank r _ c d;obtain⟨p,e⟩:∃p,RootOf st (st.shs[r]).same p:=by
    cases k with
    |zero=>omega
    |succ k=>exact h.rootAt k _ oM (h.range r _ c).1
   exact⟨p,.step c d e⟩
theorem SS.Wf.rooted{st:SS}(h:st.Wf f)(c:r<st.shs.length):∃p,RootOf st r p:=h.rootAt (f r) r (znL _) c
structure SS.Sim(st st':SS):Prop where
 len:st'.shs.length=st.shs.length
 clash:st'.clash=st.clash
 shape:∀(r:Nat) (x:Sh),st.shs[r]?=some x->∃y,st'.shs[r]?=some y/\y.sort=x.sort/\y.left=x.left/\y.right=x.right
 root:∀r p,RootOf st r p↔RootOf st' r p
theorem SS.Sim.refl(st:SS):st.Sim st:=⟨rfl,rfl,λ_ x h=>⟨x,h,rfl,rfl,rfl⟩,λ_ _=>.rfl⟩
theorem SS.Sim.trans{a b c:SS}(h:a.Sim b)(k:b.Sim c):a.Sim c:=
 ⟨k.len.trans h.len,k.clash.trans h.clash,λr x m=>by
  obtain⟨y,n,d,e,g⟩:=h.shape r x m;obtain⟨z,o,i,j,l⟩:=k.shape r y n;exact⟨z,o,i.trans d,j.trans e,l.trans g⟩,λr p=>(h.root r p).trans (k.root r p)⟩
theorem SS.Sim.eqv{a b:SS}(h:a.Sim b){x y:Nat}:a.eqv x y↔b.eqv x y:=
 ⟨λ⟨p,c,v⟩=>⟨p,(h.root _ _).1 c,(h.root _ _).1 v⟩,λ⟨p,c,v⟩=>⟨p,(h.root _ _).2 c,(h.root _ _).2 v⟩⟩
theorem SS.Sim.back{st st':SS}(h:st.Sim st')(d:st'.shs[r]?=some y):∃x,st.shs[r]?=some x/\y.sort=x.sort/\y.left=x.left/\y.right=x.right:=by
 have c:=(zlE.1 d).1;rw[h.len]at c;obtain⟨i,e,g⟩:=h.shape r _ (fA c);rw[d]at e;cases e;exact⟨_,fA c,g⟩
theorem Uk{st:SS}(d:st.shs[r]?=some x)(n q:Nat):(Bh st r x n).shs[q]?=if q=r then some {x with same:=n}else st.shs[q]? :=by
 unfold Bh;have c:=(zlE.1 d).1;by_cases h:q=r
 ·subst h;rw[mA rfl,List.getElem?_set_self c]
 ·rw[jA h,qD (λe=>h e.symm)]
theorem znn{st:SS}(W:st.Wf f)(k:st.shs[r]?=some x)(m:x.same≠r)(n:st.shs[x.same]?=some y):
  (Bh st r x y.same).Wf f/\st.Sim (Bh st r x y.same):=by
 have e:=Uk k y.same;have len:(Bh st r x y.same).shs.length=st.shs.length:=by simp[Bh]
 have v:=W.rank r x k m;have w:y.same≠x.same->f y.same<f x.same:=W.rank _ _ n;have D:y.same≠r:=by
  intro t;by_cases h:y.same=x.same
  ·exact m (h.symm.trans t)
  ·have:=w h;rw[t]at this;omega
 have A:∀q p,RootOf st q p->RootOf (Bh st r x y.same) q p:=by
  intro q p h
  induction h with
  |@here q z h1 h2=>
   by_cases d:q=r
   ·subst d;rw[k]at h1;cases h1;exact absurd h2 m
   ·exact .here (x:=z) (by rw[e,jA d];exact h1) h2
  |@step q p z h1 h2 _ ih=>
   by_cases d:q=r
   ·subst d;rw[k]at h1;cases h1;by_cases h:y.same=x.same
    ·exact .step (x:={x with same:=y.same}) (by rw[e,mA rfl]) (by simpa using D) (by simpa[h]using ih)
    ·have C:x.same≠q:=m;cases ih with
     |here h3 h4=>rw[e,jA C,n]at h3;cases h3;exact absurd h4 h
     |step h3 h4 h5=>
      rw[e,jA C,n]at h3;cases h3;exact .step (x:={x with same:=y.same}) (by rw[e,mA rfl]) (by simpa using D) h5
   ·exact .step (x:=z) (by rw[e,jA d];exact h1) h2 ih
 have M:∀(q:Nat) (z:Sh),st.shs[q]?=some z->∃l,(Bh st r x y.same).shs[q]?=some l/\l.sort=z.sort/\l.left=z.left/\l.right=z.right:=by
  intro q z c;rw[e];by_cases d:q=r
  ·subst d;rw[k]at c;cases c;exact⟨_,mA rfl,rfl,rfl,rfl⟩
  ·exact⟨z,by rw[jA d];exact c,rfl,rfl,rfl⟩
 have L:∀(q:Nat) (z:Sh),(Bh st r x y.same).shs[q]?=some z->z.same≠q->f z.same<f q:=by
  intro q z c F;rw[e]at c;by_cases d:q=r
  ·subst d;rw[mA rfl]at c;cases c;show f y.same<f q;by_cases h:y.same=x.same
   ·rw[h];exact v
   ·exact Nat.lt_trans (w h) v
  ·rw[jA d]at c;exact W.rank q z c F
 have sim:st.Sim (Bh st r x y.same):=by
  refine⟨len,rfl,M,λq p=>⟨A q p,λh=>?_⟩⟩;have d:=h.lt.1;rw[len]at d;obtain⟨J,B⟩:=W.rooted d
  have:=(A q J B).unique h;subst this;exact B
 refine⟨⟨L,?_,?_,?_,?_⟩,sim⟩
 ·intro q z c;rw[len];obtain⟨i,g,j,o,s⟩:=sim.back c;rw[o,s];refine⟨?_,(W.range q i g).2⟩;rw[e]at c;by_cases d:q=r
  ·rw[mA d]at c;cases c;exact(W.range _ _ n).1
  ·rw[jA d]at c;exact(W.range q z c).1
 ·intro q z c;obtain⟨i,g,j,_⟩:=sim.back c;rw[j];exact W.sort q i g
 ·intro q z c;obtain⟨i,g,j,o,s⟩:=sim.back c;rw[j,o,s];exact W.leaf q i g
 ·intro q p z l c G H;obtain⟨i,g,j,_⟩:=sim.back c;obtain⟨N,I,E,_⟩:=sim.back H;rw[j,E];exact W.like q p i N g ((sim.root q p).2 G) I
theorem zgp :∀(k:Nat) {st:SS} {r:Nat},st.Wf f->f r<=k->r<st.shs.length ->
  ∃p st',(∀n,k<n->Ga n st r=some (p,st'))/\RootOf st r p/\st'.Wf f/\st.Sim st':=by
 intro k
 induction k with
 |zero=>
  intro st r W v g;have d:st.shs[r]?=some st.shs[r]:=fA g;have c:(st.shs[r]).same=r:=by
   by_cases c:(st.shs[r]).same=r
   ·exact c
   ·have:=W.rank r _ d c;omega
  refine⟨r,st,λn h=>?_,.here d c,W,.refl _⟩;obtain⟨m,rfl⟩:∃m,n=m+1:=⟨n-1,oM⟩;rw[Ga,d];simp[c]
 |succ k ih=>
  intro st r W v g;have d:st.shs[r]?=some st.shs[r]:=fA g;by_cases c:(st.shs[r]).same=r
  ·refine⟨r,st,λn h=>?_,.here d c,W,.refl _⟩;obtain⟨m,rfl⟩:∃m,n=m+1:=⟨n-1,oM⟩;rw[Ga,d];simp[c]
  ·have w:=W.rank r _ d c;have i:=(W.range r _ d).1;have j:st.shs[(st.shs[r]).same]?=some st.shs[(st.shs[r]).same]:=fA i;obtain⟨l,e⟩:=znn W d c j;obtain⟨p,st',o,q,s,t⟩:=ih (st:=Bh st r st.shs[r] (st.shs[(st.shs[r]).same]).same) (r:=(st.shs[r]).same) l oM (by rw[e.len];exact i);refine⟨p,st',λn h=>?_,.step d c ((e.root _ _).2 q),s,e.trans t⟩;obtain⟨m,rfl⟩:∃m,n=m+1:=⟨n-1,oM⟩;rw[Ga,d];simp only[c,if_false];rw[j];exact o m oM
theorem Iv{st:SS}(W:st.Wf f)(e:r<st.shs.length):∃g p st',(∀n,g<=n->Ga n st r=some (p,st'))/\RootOf st r p/\st'.Wf f/\st.Sim st':=by
 obtain⟨p,st',c,d⟩:=zgp (f r) W (znL _) e;exact⟨f r+1,p,st',λn h=>c n oM,d⟩
end
section
open Go
variable{v:Nat->Ty}{r a b p q:Nat}{f:Nat->Nat}
def Sh.says(x:Sh)(v:Nat->Ty)(r:Nat):Prop:=(x.sort=1->v r=.int)/\(x.sort=2->v r=.bool)/\(x.sort=3->v r=.fn (v x.left) (v x.right))/\(x.sort=4->v r=.pair (v x.left) (v x.right))
structure SS.sat(st:SS)(v:Nat->Ty):Prop where
 clash:st.clash=false
 root:∀r p,RootOf st r p->v r=v p
 shape:∀(r:Nat) (x:Sh),st.shs[r]?=some x->x.says v r
theorem Sh.Vb{x y:Sh}(c:y.sort=x.sort)(d:y.left=x.left)(e:y.right=x.right)(h:x.says v r):y.says v r:=by
 unfold Sh.says at h ⊢;rw[c,d,e];exact h
theorem SS.Sim.sat{st st':SS}(h:st.Sim st'):st.sat v↔st'.sat v:=by
 constructor
 ·intro s;refine⟨h.clash.trans s.clash,λr p g=>s.root r p ((h.root r p).2 g),λr y j=>?_⟩;obtain⟨x,i,c,d,e⟩:=h.back j;exact Sh.Vb c d e (s.shape r x i)
 ·intro s;refine⟨h.clash.symm.trans s.clash,λr p g=>s.root r p ((h.root r p).1 g),λr x i=>?_⟩;obtain⟨y,j,c,d,e⟩:=h.shape r x i;exact Sh.Vb c.symm d.symm e.symm (s.shape r y j)
structure Rel(R:Nat->Nat->Prop):Prop where
 symm:∀ {a b},R a b->R b a
 trans:∀ {a b c},R a b->R b c->R a c
def SS.Closed(st:SS)(P:List (Nat×Nat)):Prop:=∀R:Nat->Nat->Prop,Rel R->(∀a b,st.eqv a b->R a b)->(∀q∈P,R q.1 q.2) ->
 ∀(r p:Nat) (x y:Sh),st.shs[r]?=some x->RootOf st r p->st.shs[p]?=some y->x.sort=3\/x.sort=4->R x.left y.left/\R x.right y.right
theorem SS.Sim.closed{st st':SS}(h:st.Sim st'){P:List (Nat×Nat)}(c:st.Closed P):st'.Closed P:=by
 intro R l n k r p C D t o x s;obtain⟨z,w,g,i,j⟩:=h.back t;obtain⟨A,y,B,d,e⟩:=h.back x;rw[i,j,d,e];exact c R l (λa b m=>n a b (h.eqv.1 m)) k r p z A w ((h.root r p).2 o) y (by rw[<-g];exact s)
structure SS.Joins(st st':SS)(a b:Nat):Prop where
 len:st'.shs.length=st.shs.length
 clash:st'.clash=st.clash
 shape:∀(r:Nat) (x:Sh),st.shs[r]?=some x->∃y,st'.shs[r]?=some y/\y.sort=x.sort/\y.left=x.left/\y.right=x.right
 root:∀q p,RootOf st' q p↔(RootOf st q a/\p=b)\/(RootOf st q p/\p≠a)
theorem join{st:SS}(W:st.Wf f){x:Sh}(l:st.shs[a]?=some x)(G:x.same=a)(E:RootOf st b b)(D:a≠b)(Q:∀y,st.shs[b]?=some y->x.sort=0\/y.sort=x.sort):
  (∃O,(Bh st a x b).Wf O)/\st.Joins (Bh st a x b) a b:=by
 have k:=Uk l b;have len:(Bh st a x b).shs.length=st.shs.length:=by simp[Bh]
 have P:RootOf st a a:=.here l G;obtain⟨Y,T,U⟩:=E.root;have s:∀q p,RootOf st q p->(p≠a->RootOf (Bh st a x b) q p)/\(p=a->RootOf (Bh st a x b) q b):=by
  intro q p h
  induction h with
  |@here q z g j=>
   refine⟨λc=>.here (x:=z) (by rw[k,jA c];exact g) j,λc=>?_⟩;subst c;exact .step (x:={x with same:=b}) (by rw[k,mA rfl]) (by simpa using D.symm) (.here (x:=Y) (by rw[k,jA D.symm];exact T) U)
  |@step q p z g j _ ih=>
   have c:q≠a:=(by intro w;subst w;rw[l]at g;cases g;exact j G);exact⟨λn=>.step (x:=z) (by rw[k,jA c];exact g) j (ih.1 n),λn=>.step (x:=z) (by rw[k,jA c];exact g) j (ih.2 n)⟩
 have X:∀(q:Nat) (z:Sh),st.shs[q]?=some z->∃d,(Bh st a x b).shs[q]?=some d/\d.sort=z.sort/\d.left=z.left/\d.right=z.right:=by
  intro q z e;rw[k];by_cases c:q=a
  ·subst c;rw[l]at e;cases e;exact⟨_,mA rfl,rfl,rfl,rfl⟩
  ·exact⟨z,by rw[jA c];exact e,rfl,rfl,rfl⟩
 have back:∀(q:Nat) (z:Sh),(Bh st a x b).shs[q]?=some z->∃d,st.shs[q]?=some d/\z.sort=d.sort/\z.left=d.left/\z.right=d.right/\(q≠a->z=d)/\(q=a->z.same=b):=by
  intro q z e;rw[k]at e;by_cases c:q=a
  ·subst c;rw[mA rfl]at e;cases e;exact⟨x,l,rfl,rfl,rfl,λh=>absurd rfl h,λ_=>rfl⟩
  ·rw[jA c]at e;exact⟨z,e,rfl,rfl,rfl,λ_=>rfl,λh=>absurd h c⟩
 have root:∀q p,RootOf (Bh st a x b) q p↔(RootOf st q a/\p=b)\/(RootOf st q p/\p≠a):=by
  intro q p;constructor
  ·intro h;have c:=h.lt.1;rw[len]at c;obtain⟨L,t⟩:=W.rooted c;by_cases F:L=a
   ·subst F;exact .inl ⟨t,h.unique ((s q _ t).2 rfl)⟩
   ·have:=((s q L t).1 F).unique h;subst this;exact .inr ⟨t,F⟩
  ·rintro(⟨h,rfl⟩|⟨h,n⟩)
   ·exact(s q a h).2 rfl
   ·exact(s q p h).1 n
 classical
 refine⟨⟨λq=>if RootOf st q a then f q+f b+1 else f q,?_,?_,?_,?_,?_⟩,len,rfl,X,root⟩
 ·intro q z e H;obtain⟨d,i,_,_,_,g,j⟩:=back q z e;have V:¬RootOf st b a:=λh=>D (h.unique E);by_cases c:q=a
  ·subst c;rw[j rfl];simp only[jA V,mA P];omega
  ·have:=g c;subst this
   have:=W.rank q z i H;have w:RootOf st q a↔RootOf st z.same a:=by
    constructor
    ·intro h;cases h with
     |here=>exact absurd rfl c
     |step h3 _ h4=>rw[i]at h3;cases h3;exact h4
    ·exact λh=>.step i H h
   simp only[w];split<;>omega
 ·intro q z e;obtain⟨d,i,_,A,B,g,j⟩:=back q z e;rw[len,A,B];refine⟨?_,(W.range q d i).2⟩;by_cases c:q=a
  ·rw[j c];exact E.lt.1
  ·rw[g c];exact(W.range q d i).1
 ·intro q z e;obtain⟨d,i,m,_⟩:=back q z e;rw[m];exact W.sort q d i
 ·intro q z e;obtain⟨d,i,m,A,B,_⟩:=back q z e;rw[m,A,B];exact W.leaf q d i
 ·intro q p z y e R S o;obtain⟨d,i,m,_⟩:=back q z e;obtain⟨M,J,N,_⟩:=back p y S;rw[m]at o ⊢;rw[N];rcases(root q p).1 R with⟨g,rfl⟩|⟨g,_⟩
  ·have I:=W.like q a d x i g l o;rcases Q M J with C|C
   ·rw[<-I]at o;exact absurd C o
   ·rw[C,I]
  ·exact W.like q p d M i g J o
theorem SS.Joins.back{st st':SS}(h:st.Joins st' a b){y:Sh}(d:st'.shs[r]?=some y):∃x,st.shs[r]?=some x/\y.sort=x.sort/\y.left=x.left/\y.right=x.right:=by
 have c:=(zlE.1 d).1;rw[h.len]at c;obtain⟨i,e,g⟩:=h.shape r _ (fA c);rw[d]at e;cases e;exact⟨_,fA c,g⟩
theorem SS.Joins.eqv{st st':SS}(h:st.Joins st' a b){x y:Nat}(k:st.eqv x y):st'.eqv x y:=by
 obtain⟨p,d,e⟩:=k;by_cases c:p=a
 ·subst c;exact⟨b,(h.root _ _).2 (.inl ⟨d,rfl⟩),(h.root _ _).2 (.inl ⟨e,rfl⟩)⟩
 ·exact⟨p,(h.root _ _).2 (.inr ⟨d,c⟩),(h.root _ _).2 (.inr ⟨e,c⟩)⟩
theorem SS.Joins.one{st st':SS}(h:st.Joins st' a b)(c:RootOf st a a)(e:RootOf st b b)(d:a≠b):st'.eqv a b:=
 ⟨b,(h.root _ _).2 (.inl ⟨c,rfl⟩),(h.root _ _).2 (.inr ⟨e,d.symm⟩)⟩
theorem SS.Joins.sat{st st':SS}(h:st.Joins st' a b)(s:st.sat v)(j:v a=v b):st'.sat v:=by
 refine⟨h.clash.trans s.clash,λr p i=>?_,λr y l=>?_⟩
 ·rcases(h.root r p).1 i with⟨c,rfl⟩|⟨c,_⟩
  ·rw[s.root r a c,j]
  ·exact s.root r p c
 ·obtain⟨x,k,d,e,g⟩:=h.back l;exact Sh.Vb d e g (s.shape r x k)
structure UOk(st st':SS)(a b:Nat):Prop where
 wf:∃f,st'.Wf f
 len:st'.shs.length=st.shs.length
 clash:st'.clash=false->st.clash=false
 shape:∀(r:Nat) (x:Sh),st.shs[r]?=some x->∃y,st'.shs[r]?=some y/\y.sort=x.sort/\y.left=x.left/\y.right=x.right
 eqv:∀ {x y},st.eqv x y->st'.eqv x y
 one:st'.clash=false->st'.eqv a b
 sat:∀ {v:Nat->Ty},st.sat v->v a=v b->st'.sat v
 closed:∀ {P},st.Closed ((a,b)::P)->st'.clash=false->st'.Closed P
def SS.few(st:SS)(k:Nat):Prop:=∃L:List Nat,L.length<=k/\∀r,RootOf st r r->r∈L
theorem zgq{x y:Sh}(e:x.says v p)(g:y.says v q)(d:x.sort=y.sort)(c:v p=v q)(i:x.sort=3\/x.sort=4):v x.left=v y.left/\v x.right=v y.right:=by
 rcases i with h|h
 ·have a:=e.2.2.1 h;have b:=g.2.2.1 (by rw[<-d];exact h);rw[a,b]at c;injection c with h1 h2;exact⟨h1,h2⟩
 ·have a:=e.2.2.2 h;have b:=g.2.2.2 (by rw[<-d];exact h);rw[a,b]at c;injection c with h1 h2;exact⟨h1,h2⟩
theorem zdg{x y:Sh}(o:x.says v p)(s:y.says v q)(t:x.sort=0\/x.sort=1\/x.sort=2\/x.sort=3\/x.sort=4)(w:y.sort=0\/y.sort=1\/y.sort=2\/y.sort=3\/y.sort=4)(z:x.sort≠0)(A:y.sort≠0)(B:x.sort≠y.sort):v p≠v q:=by
 obtain⟨d,e,g,i⟩:=o;obtain⟨j,l,m,n⟩:=s;intro c;rcases t with h|h|h|h|h<;>rcases w with k|k|k|k|k<;>first|omega|(first|rw[d h]at c|rw[e h]at c|rw[g h]at c|rw[i h]at c)<;>(first|rw[j k]at c|rw[l k]at c|rw[m k]at c|rw[n k]at c)<;>cases c
theorem zdh:∀(k:Nat) {st:SS} {f:Nat->Nat} {a b:Nat},st.Wf f->st.few k->a<st.shs.length->b<st.shs.length ->
  ∃n0 st',(∀n,n0<=n->Dk n st a b=some st')/\UOk st st' a b/\st'.few k:=by
 intro k
 induction k with
 |zero=>
  intro st f a b W hF ha hb;obtain⟨L,hL,hL2⟩:=hF;obtain⟨p,hp⟩:=W.rooted ha
  have:=hL2 p hp.self;rw[List.length_eq_zero_iff.1 (Nat.le_zero.1 hL)]at this;simp at this
 |succ k ih=>
  intro st f a b W hF ha hb;obtain⟨n1,p,st1,f1,ra,W1,S1⟩:=Iv W ha;obtain⟨n2,q,st2,f2,rb,W2,S2⟩:=Iv W1 (r:=b) (by rw[S1.len];exact hb);have S:=S1.trans S2;have ra2:RootOf st2 a p:=(S.root _ _).1 ra;have rb2:RootOf st2 b q:=(S2.root _ _).1 rb;obtain⟨x,hx,hxs⟩:=ra2.root;obtain⟨y,hy,hys⟩:=rb2.root;have hF2:st2.few (k+1):=by
   obtain⟨L,h1,h2⟩:=hF;exact⟨L,h1,λr hr=>h2 r ((S.root _ _).2 hr)⟩
  have unf:∀n,max n1 n2+1<=n->Dk n st a b=(if p=q then some st2 else if x.sort=0 then some (Bh st2 p x q)else if y.sort=0 then some (Bh st2 q y p)
    else if x.sort=y.sort then(Dk (n-1) (Bh st2 p x q) x.left y.left).bind λst'=>Dk (n-1) st' x.right y.right else some {st2 with clash:=true}):=by
   intro n hn;obtain⟨m,rfl⟩:∃m,n=m+1:=⟨n-1,oM⟩;rw[Dk,f1 m oM];simp only[zbS];rw[f2 m oM];simp only[zbS,hx,hy,Nat.add_sub_cancel]
  -- what the first two finds have kept
  have simU:∀ {st':SS},UOk st2 st' p q->UOk st st' a b:=by
   intro st' U;refine⟨U.wf,U.len.trans S.len,λh=>S.clash.symm.trans (U.clash h),λr z hz=>?_,λh=>U.eqv (S.eqv.1 h),λh=>?_,λ{v} s hv=>?_,λ{P} c h=>?_⟩
   ·obtain⟨z1,hz1,a1,a2,a3⟩:=S.shape r z hz;obtain⟨z2,hz2,b1,b2,b3⟩:=U.shape r z1 hz1;exact⟨z2,hz2,b1.trans a1,b2.trans a2,b3.trans a3⟩
   ·exact((U.eqv ⟨p,ra2,ra2.self⟩).trans (U.one h)).trans (U.eqv ⟨q,rb2.self,rb2⟩)
   ·have s2:=S.sat.1 s;exact U.sat s2 (by rw[<-s2.root a p ra2,<-s2.root b q rb2];exact hv)
   ·refine U.closed ?_ h;intro R hR he hP r p' x' y' hx' hr' hy' hs';refine(S.closed c) R hR he (λw hw=>?_) r p' x' y' hx' hr' hy' hs';simp only[zmC]at hw;rcases hw with rfl|hw
    ·exact hR.trans (he _ _ ⟨p,ra2,ra2.self⟩) (hR.trans (hP (p,q) sM) (he _ _ ⟨q,rb2.self,rb2⟩))
    ·exact hP w (by simp[hw])
  by_cases hpq:p=q
  ·refine⟨max n1 n2+1,st2,λn hn=>by rw[unf n hn,mA hpq],simU ⟨⟨f,W2⟩,rfl,id,λr z hz=>⟨z,hz,rfl,rfl,rfl⟩,id,λ_=>⟨p,ra2.self,by rw[<-hpq];exact ra2.self⟩,λs _=>s,λ{P} c _=>?_⟩,hF2⟩;intro R hR he hP r p' x' y' hx' hr' hy' hs';refine c R hR he (λw hw=>?_) r p' x' y' hx' hr' hy' hs';simp only[zmC]at hw;rcases hw with rfl|hw
   ·exact he _ _ ⟨p,ra2.self,by rw[<-hpq];exact ra2.self⟩
   ·exact hP w hw
  -- a variable is put
  have putOne:∀ {c d:Nat} {z:Sh},st2.shs[c]?=some z->z.same=c->RootOf st2 d d->c≠d->z.sort=0->(∀v:Nat->Ty,v p=v q->v c=v d)->(∀R:Nat->Nat->Prop,Rel R->R c d->R p q)->(∀s':SS,s'.eqv c d->s'.eqv p q)->UOk st2 (Bh st2 c z d) p q/\(Bh st2 c z d).few (k+1):=by
   intro c d z hz hzs hd hcd h0 hv hRc hEq;obtain⟨Wj,J⟩:=join W2 hz hzs hd hcd (λ_ _=>.inl h0);have hcc:RootOf st2 c c:=.here hz hzs;refine⟨⟨Wj,J.len,λh=>J.clash.symm.trans h,J.shape,J.eqv,λ_=>hEq _ (J.one hcc hd hcd),λ{v} s h=>J.sat s (hv v h),λ{P} cl _=>?_⟩,?_⟩
   ·intro R hR he hP r p' x' y' hx' hr' hy' hs';obtain⟨x2,hx2,e1,e2,e3⟩:=J.back hx';obtain⟨y2,hy2,d1,d2,d3⟩:=J.back hy';rw[e2,e3,d2,d3];rcases(J.root r p').1 hr' with⟨h1,rfl⟩|⟨h1,_⟩
    ·have:=W2.like r c x2 z hx2 h1 hz (by rw[<-e1];omega);rw[h0]at this;rw[e1]at hs';omega
    ·refine cl R hR (λu w h=>he u w (J.eqv h)) (λw hw=>?_) r p' x2 y2 hx2 h1 hy2 (by rw[<-e1];exact hs');simp only[zmC]at hw;rcases hw with rfl|hw
     ·exact hRc R hR (he _ _ (J.one hcc hd hcd))
     ·exact hP w hw
   ·obtain⟨L,h1,h2⟩:=hF2;refine⟨L,h1,λr hr=>?_⟩;rcases(J.root r r).1 hr with⟨h3,rfl⟩|⟨h3,_⟩
    ·exact h2 _ hd
    ·exact h2 r h3
  by_cases hx0:x.sort=0
  ·obtain⟨U,F⟩:=putOne hx hxs rb2.self hpq hx0 (λ_ h=>h) (λ_ _ h=>h) (λ_ h=>h);exact⟨max n1 n2+1,_,λn hn=>by rw[unf n hn,jA hpq,mA hx0],simU U,F⟩
  by_cases hy0:y.sort=0
  ·obtain⟨U,F⟩:=putOne hy hys ra2.self (Ne.symm hpq) hy0 (λ_ h=>h.symm) (λ_ hR h=>hR.symm h) (λ_ h=>h.symm);exact⟨max n1 n2+1,_,λn hn=>by rw[unf n hn,jA hpq,jA hx0,mA hy0],simU U,F⟩
  by_cases hxy:x.sort=y.sort;rotate_left
  ·refine⟨max n1 n2+1,_,λn hn=>by rw[unf n hn,jA hpq,jA hx0,jA hy0,jA hxy],simU ?_,?_⟩
   ·have rt:∀r p',RootOf st2 r p'↔RootOf {st2 with clash:=true} r p':=by
     intro r p';constructor<;>(intro h;induction h with|here a b=>exact .here a b|step a b _ c=>exact .step a b c)
    refine⟨⟨f,W2.rank,W2.range,W2.sort,W2.leaf,λr p' z u hz hr=>W2.like r p' z u hz ((rt _ _).2 hr)⟩,rfl,λh=>by simp at h,λr z hz=>⟨z,hz,rfl,rfl,rfl⟩,λ⟨c,h1,h2⟩=>⟨c,(rt _ _).1 h1,(rt _ _).1 h2⟩,λh=>by simp at h,λ{v} s hv=>?_,λ{P} _ h=>by simp at h⟩;exact absurd hv (zdg (s.shape p x hx) (s.shape q y hy) (W2.sort p x hx) (W2.sort q y hy) hx0 hy0 hxy)
   ·obtain⟨L,h1,h2⟩:=hF2;refine⟨L,h1,λr hr=>h2 r ?_⟩;obtain⟨z,h3,h4⟩:=hr.root;exact .here h3 h4
  -- both are made
  obtain⟨⟨fj,Wj⟩,J⟩:=join W2 hx hxs rb2.self hpq (λy' hy'=>by rw[hy]at hy';cases hy';exact .inr hxy.symm);have one:=J.one ra2.self rb2.self hpq;have Fj:(Bh st2 p x q).few k:=by
   obtain⟨L,h1,h2⟩:=hF2;refine⟨L.erase p,?_,λr hr=>?_⟩
   ·rw[List.length_erase_of_mem (h2 p ra2.self)];omega
   ·rcases(J.root r r).1 hr with⟨h3,rfl⟩|⟨h3,h4⟩
    ·exact(List.mem_erase_of_ne (Ne.symm hpq)).2 (h2 _ rb2.self)
    ·exact(List.mem_erase_of_ne h4).2 (h2 r h3)
  have rx:=W2.range p x hx;have ry:=W2.range q y hy;obtain⟨n3,st3,h3,U3,F3⟩:=ih (a:=x.left) (b:=y.left) Wj Fj (by rw[J.len];exact rx.2.1) (by rw[J.len];exact ry.2.1);obtain⟨f3,W3⟩:=U3.wf;obtain⟨n4,st4,h4,U4,F4⟩:=ih (a:=x.right) (b:=y.right) W3 F3 (by rw[U3.len,J.len];exact rx.2.2) (by rw[U3.len,J.len];exact ry.2.2);refine⟨max (max n1 n2) (max n3 n4)+1,st4,λn hn=>?_,simU ?_,?_⟩
  ·rw[unf n oM,jA hpq,jA hx0,jA hy0,mA hxy,h3 (n-1) oM];exact h4 (n-1) oM
  ·refine⟨U4.wf,by rw[U4.len,U3.len,J.len],λh=>J.clash.symm.trans (U3.clash (U4.clash h)),λr z hz=>?_,λh=>U4.eqv (U3.eqv (J.eqv h)),λ_=>U4.eqv (U3.eqv one),λ{v} s hv=>?_,λ{P} c h=>?_⟩
   ·obtain⟨z1,hz1,a1,a2,a3⟩:=J.shape r z hz;obtain⟨z2,hz2,b1,b2,b3⟩:=U3.shape r z1 hz1;obtain⟨z3,hz3,c1,c2,c3⟩:=U4.shape r z2 hz2;exact⟨z3,hz3,c1.trans (b1.trans a1),c2.trans (b2.trans a2),c3.trans (b3.trans a3)⟩
   ·have hlr:v x.left=v y.left/\v x.right=v y.right:=by
     by_cases hm:x.sort=3\/x.sort=4
     ·exact zgq (s.shape p x hx) (s.shape q y hy) hxy hv hm
     ·have lx:=W2.leaf p x hx (λh=>hm (.inl h)) (λh=>hm (.inr h));have ly:=W2.leaf q y hy (λh=>hm (.inl (hxy.trans h))) (λh=>hm (.inr (hxy.trans h)));rw[lx.1,lx.2,ly.1,ly.2];exact⟨rfl,rfl⟩
    exact U4.sat (U3.sat (J.sat s hv) hlr.1) hlr.2
   ·refine U4.closed (U3.closed ?_ (U4.clash h)) h;intro R hR he hP r p' x' y' hx' hr' hy' hs';obtain⟨x2,hx2,e1,e2,e3⟩:=J.back hx';obtain⟨y2,hy2,d1,d2,d3⟩:=J.back hy';rw[e2,e3,d2,d3];have hRl:R x.left y.left:=hP (x.left,y.left) sM;have hRr:R x.right y.right:=hP (x.right,y.right) sM;have key:∀p'' y'',RootOf st2 r p''->st2.shs[p'']?=some y''->R x2.left y''.left/\R x2.right y''.right:=λp'' y'' h1 h2=>by
     refine c R hR (λu w h=>he u w (J.eqv h)) (λw hw=>?_) r p'' x2 y'' hx2 h1 h2 (by rw[<-e1];exact hs');simp only[zmC]at hw;rcases hw with rfl|hw
     ·exact he _ _ one
     ·exact hP w (by simp[hw])
    rcases(J.root r p').1 hr' with⟨h1,rfl⟩|⟨h1,_⟩
    ·rw[hy]at hy2;cases hy2;obtain⟨k1,k2⟩:=key p x h1 hx;exact⟨hR.trans k1 hRl,hR.trans k2 hRr⟩
    ·exact key p' y2 h1 hy2
  ·obtain⟨L,h1,h2⟩:=F4;exact⟨L,oM,h2⟩
theorem SS.zk5{st:SS}:st.few st.shs.length:=⟨List.range st.shs.length,sM,λr c=>List.mem_range.2 c.lt.1⟩
theorem Mh{st:SS}(W:st.Wf f)(g:a<st.shs.length)(h:b<st.shs.length):∃c st',(∀n,c<=n->Dk n st a b=some st')/\UOk st st' a b:=by
 obtain⟨c,st',d,e,_⟩:=zdh st.shs.length W SS.zk5 g h;exact⟨c,st',d,e⟩
theorem UOk.sound{st st':SS}(U:UOk st st' a b)(s:st'.sat v):st.sat v/\v a=v b:=by
 have eq:∀ {x y},st'.eqv x y->v x=v y:=λ⟨p,h,i⟩=>(s.root _ _ h).trans (s.root _ _ i).symm;refine⟨⟨U.clash s.clash,λr p c=>eq (U.eqv ⟨p,c,c.self⟩),λr x j=>?_⟩,eq (U.one s.clash)⟩;obtain⟨y,k,d,e,g⟩:=U.shape r x j;exact Sh.Vb d.symm e.symm g.symm (s.shape r y k)
end
end Go.Proofs.YtckhafpejefbbaaGreatDoor.Tw
