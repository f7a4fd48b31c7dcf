import Derived.Test.YtckhafpejefbbaaGreatDoorB08
import Derived.Deep.RegionHeld3

set_option maxRecDepth 100000
set_option maxHeartbeats 4000000
namespace Go.Proofs.YtckhafpejefbbaaGreatDoor
abbrev vD:=@World.cell?_of_block
section
open Tw Go.Proofs.Tryz
open Go.RowKit
theorem zo4 (hPI:Ew.Ho) {w:World} {bp gt cap:Nat} {cur:Array Value} {s:ByteArray} {ts:List Tw.Tok} {st st':PS} {tk:Tw.Tok}
    (h:B7 w bp gt cap cur s ts st) (ht:Ej ts st=some tk) {r:Tw.Tok} (b16:(tk.sort==16)=false) (hb:Ap tk.sort=true) (hf:Tw.Bg ts tk.sort st=some (r,st')) (b2:(tk.sort==2)=true) (hp1:tk.fr<=tk.to) (hp2:tk.to<=s.size) {v:Int} (hv:Lib.parseIntB 64 (Bv s.data.toList tk.fr tk.to)=.ok v) :
    Calls prog 233 #[pT bp] w (Mi w bp gt cap cur s ts (.int tk.fr tk.to v) st'):=by
  have HH:=h
  have HT:=ht
  have hbp:=h.Js
  have hsz:=h.size
  have H2:=hf
  have HB:=hb
  go_in
  go_wp21
  go_call Cs HH HT as e w1 ⟨rfl,hg⟩
  have P1:=HH.kept hg
  have K1:Bl bp w w1:=Bl.Ax hg
  have z1:w.heap.size<=w1.heap.size:=hg.size
  go_wp21
  go_call Dr _ _ as e w2 ⟨rfl,rfl⟩
  rw[HB]
  go_wp21
  go_call Dq (P1.alloc _) _ H2 as e w3 ⟨rfl,hk,h⟩
  have P3:=h
  have K3:=(K1.alloc _).trans hk
  have z3:w1.heap.size<w3.heap.size:=by have:=hk.size;simp at this;omega
  have L3:=Ag (hk.at (Ac w1 _) oM)
  have⟨a0,a1,a2,f0,f1,f2⟩:=L3
  have⟨p0,p1,p2,p3,p4,p5⟩:=P3.p
  have hbp3:bp<w3.heap.size:=oM
  have hq1:(tk.fr:Int)<=(tk.to:Int):=oM
  have hq2:(tk.to:Int)<=(s.size:Int):=oM
  have hvs:(s.extract tk.fr tk.to).size<=300:=by simp[ByteArray.size_extract];omega
  have HV:Lib.parseIntB 64 (s.extract tk.fr tk.to).data.toList=.ok v:=by show _=_;rw[Lh];exact hv
  go_wp21
  go_region_held3 (λW=>W.cell? (aD w3.heap.size 0)=some (vI tk.fr)/\W.cell? (aD w3.heap.size 1)=some (vI tk.to)/\W.cell? (aD bp 0)=some (.string s)/\W.cell? (aD w1.heap.size 1)=some (vI tk.fr)/\W.cell? (aD w1.heap.size 2)=some (vI tk.to)) (go_keep)
    ((go_at_call 238; refine (zl1 hPI _ hvs _ HV _).mono ?_; rintro e w4 ⟨rfl,hg⟩
      have hg4:=hg
      have q4:=A8 ((hg.block _ sM sM).trans (Ac w3 (.cells #[vI tk.fr,vI tk.to] 85)))
      have ⟨q0,q1,_,_⟩:=q4
      have r0:w4.cell? (aD bp 0)=some (.string s):=by
        rw [vD (w:=(w3.alloc (.cells #[vI tk.fr,vI tk.to] 85)).drew) (hg.block bp (by simp; omega) sM)]
        go_simp
      have r1:w4.cell? (aD w1.heap.size 1)=some (vI tk.fr):=by
        rw [vD (w:=(w3.alloc (.cells #[vI tk.fr,vI tk.to] 85)).drew) (hg.block w1.heap.size (by simp; omega) sM)]
        go_simp
      have r2:w4.cell? (aD w1.heap.size 2)=some (vI tk.to):=by
        rw [vD (w:=(w3.alloc (.cells #[vI tk.fr,vI tk.to] 85)).drew) (hg.block w1.heap.size (by simp; omega) sM)]
        go_simp
      clear hg))
  go_wp21
  go_ret
  go_light
  have z4:=hg4.size
  simp at z4
  have G4:=Ab (Ad (zwA w3 _ none)) hg4
  exact⟨_,rfl,(K3.trans (Bl.Ax G4)).alloc _,(P3.kept G4).alloc _,⟨w4.heap.size,oM,sM,rfl,Ac w4 _⟩⟩
theorem zl9{n:Nat}(B:Ew.Ho)(A:Db 237 Cd n):Db 233 Ev (n+1):=by
 intro R F I G H z O L N M h v;rw[Ev]at v;have⟨tk,g,f⟩:=zbE.1 v;by_cases q:tk.sort=16
 ·rw[mA q]at f;exact zdu A h g (by simp[q]) f
 rw[jA q]at f;have i:(tk.sort==16)=false:=by simp[q]
 cases e:Ap tk.sort
 ·rw[e]at f;simp only[xA,if_false]at f;have⟨E,C,s⟩:=zbE.1 f;simp only[zsI,zpI]at s;obtain⟨rfl,rfl⟩:=s;exact zl6 h g i e C
 rw[e]at f;simp only[if_true]at f;have⟨⟨J,E⟩,k,s⟩:=zbE.1 f;have⟨S,a,w⟩:=zbE.1 s;simp only[zsI,zpI]at w;obtain⟨rfl,rfl⟩:=w;have x:z.data.toList.length=z.size:=rfl;unfold Lv at a;by_cases r:tk.sort=2
 ·rw[mA r]at a;split at a;rotate_left
  ·cases a
  rename_i o;have⟨P,p,y⟩:=zbE.1 a;simp only[zsI]at y;subst y;unfold Me at p;split at p;rotate_left
  ·cases p
  rename_i Q D;simp only[zsI]at p;subst p;exact zo4 B h g i e k (by simp[r]) o.1 (by rw[<-x];exact o.2) D
 rw[jA r]at a;have m:(tk.sort==2)=false:=by simp[r]
 by_cases c:tk.sort=10\/tk.sort=11
 ·rw[mA c]at a;simp only[zsI]at a;subst a;rcases c with c|c
  ·have d:(tk.sort==10)=true:=(by simp[c]);rw[d];exact zl7 h g i e k m d
  ·have d:(tk.sort==10)=false:=(by simp[c]);rw[d];exact zh8 h g i e k m d (by simp[c])
 rw[jA c]at a;have d:(tk.sort==10)=false:=by simp;exact λj=>c (.inl j)
 have t:(tk.sort==11)=false:=by simp;exact λj=>c (.inr j)
 by_cases b:tk.sort=12\/tk.sort=13
 ·rw[mA b]at a;simp only[zsI]at a;subst a;rcases b with b|b
  ·have l:(tk.sort==13)=false:=(by simp[b]);rw[l];exact zo2 h g i e k m d t (by simp[b]) l
  ·have l:(tk.sort==13)=true:=(by simp[b]);rw[l];exact zo3 h g i e k m d t (by simp[b]) l
 rw[jA b]at a;split at a;rotate_left
 ·cases a
 rename_i o;simp only[zsI]at a;subst a;exact zl8 h g i e k m d t (by simp;exact λj=>b (.inl j)) (by simp;exact λj=>b (.inr j)) o.1 (by rw[<-x];exact o.2)
structure zvm(n:Nat):Prop where
 expr:Db 81 Cg n
 Am:Db 156 Oh n
 fn:Db 157 Oj n
 cond:Db 158 Ie n
 cmp:Db 159 Kk n
 sum:Db 206 Kj n
 term:Db 218 Ha n
 call:Db 225 Gv n
 atom:Db 233 Ev n
 bracket:Db 237 Cd n
theorem zma(d:Ew.Ho):∀n,zvm n:=by
 intro n
 induction n using Nat.strongRecOn with
 |_ n ih=>
  cases n with
  |zero=>
   constructor
   all_goals
    intro w e h f g s l j t k i a
    first
     |(simp[Cg]at a;done)|(simp[Oh]at a;done)|(simp[Oj]at a;done)|(simp[Ie]at a;done)|(simp[Kk]at a;done)
     |(simp[Kj]at a;done)|(simp[Ha]at a;done)|(simp[Gv]at a;done)|(simp[Ev]at a;done)|(simp[Cd]at a;done)
  |succ n=>
   have b:=ih n oM;exact
    {expr:=zl2 b.Am b.fn b.cond b.cmp
     Am:=zoz b.expr
     fn:=zoy b.expr
     cond:=zl3 b.expr
     cmp:=zo0 b.sum
     sum:=zo1 λm c=>(ih m oM).term
     term:=zl4 λm c=>(ih m oM).call
     call:=zl5 λm c=>(ih m oM).atom
     atom:=zl9 d b.bracket
     bracket:=zdt b.expr}
section
variable{w:World}{v x y z u q:Value}{ts:List Tw.Tok}{b:Nat}{t:TypeId}
structure zbm(w:World)(gt cap:Nat)(cur:Array Value)(ts:List Tw.Tok):Prop where
 row:w.heap[gt]?=some (.cells cur 176 (0,0))
 cells:cur.toList.take (ts.length*3)=Cx ts
 len:ts.length<=cap
 zop:cap<=maxLen
 many:ts.length<=301
theorem zbm.zkx{base:Nat}(h:w.ownsRow base 176 3 v ts.length (Cx ts))(m:0<ts.length)(e:ts.length<=301):
  ∃c cap a,v=sL c ts.length cap/\base<=c/\zbm w c cap a ts:=by
 rcases h.2 with⟨_,d⟩|⟨g,cap,a,l,f,j,d,i,_,k⟩
 ·omega
 ·exact⟨g,cap,a,l,f,⟨j,k,d,i,e⟩⟩
def zq9(w:World)(r:Except Nat Tw.T)(e:Ending)(w':World):Prop:=w.grownBy w' none /\
 match r with
 |.ok t=>∃v,e=.returned (.tuple #[v,.int .i64 0,.bool true])/\Rep w' w.heap.size w'.heap.size t v
 |.error k=>e=.returned (.tuple #[.nilIface,.int .i64 k,.bool false])
theorem T9{w':World}{o:Obj}(h:Bl w.heap.size (w.alloc o) w'):zG w w':=
 ⟨h.os,h.tape,h.output,by have:=h.size;simp at this;omega,λk a _=>by rw[h.block k (by simp;omega) (by simp;omega)];exact Below.heap_alloc w o k a⟩
theorem zfi(C:Ew.Ho){c cap:Nat}{o:Array Value}(h:zbm w c cap o ts)(s:ByteArray)(E:s.size<=300){fuel:Nat}{r:Except Nat Tw.T}(p:Gj s.data.toList ts fuel=some r):
  Calls prog 47 #[.string s,sL c ts.length cap] w (zq9 w r):=by
 unfold Gj at p;have⟨⟨t,J⟩,F,D⟩:=zbE.1 p;have⟨⟨tk,G⟩,A,a⟩:=zbE.1 D;simp only[zsI]at a;simp only at A;have H:c<w.heap.size:=(zgE.1 h.row).1;have n:B7 (w.alloc (.cells #[.string s,sL c ts.length cap,vI 0,vI 0,.bool false,vI 0] 179)) w.heap.size c cap o s ts ⟨0,0,false,0⟩:=
  {parser:=Ac w _,row:=Pq h.row _,ne:=oM,cells:=h.cells,len:=h.len,zop:=h.zop,size:=E,many:=h.many,nxt:=sM,dep:=sM}
 have k:=F;have l:=A;have m:=zma C fuel;cases d:G.stuck
 ·rw[d]at a;simp only[xA,if_false]at a;subst a;have f:=d;go_in;go_wp21;go_call m.expr n k as e w1 ⟨v,rfl,hk,h,r⟩;have i:=h;have g:=hk;have B:Rep w1 (w.heap.size+1) w1.heap.size t v:=by show Rep _ _ _ _ _;simpa using r
  go_wp21;go_call Dq i _ l as e w2 ⟨rfl,hk,h⟩;have X:zG w w2/\Rep w2 w.heap.size w2.heap.size t v:=⟨T9 (g.trans hk),B.Aq hk oM oM hk.size⟩;have j:=h.p.2.2.2.2.1;rw[f]at j;go_wp21;go_ret3;exact⟨X.1,_,rfl,X.2⟩
 ·rw[d]at a;simp only[if_true]at a;subst a;have f:=d;go_in;go_wp21;go_call m.expr n k as e w1 ⟨v,rfl,hk,h,r⟩;have i:=h;have g:=hk;go_wp21;go_call Dq i _ l as e w2 ⟨rfl,hk,h⟩;have X:=T9 (g.trans hk);have⟨_,_,_,_,j,I⟩:=h.p;rw[f]at j;go_wp21;go_region;go_wp21;go_ret3;exact⟨Ad X,rfl⟩
theorem Rep.iface{lo hi:Nat}{t:Tw.T}(h:Rep w lo hi t v):∃T b,v=.iface T (pT b):=by
 have⟨b,_,_,a,_⟩:=h.node;exact⟨_,b,a⟩
theorem Ea(h:zH w b #[x,y,z,u,q] t):
  w.cell? (aD b 0)=some x/\w.cell? (aD b 1)=some y/\w.cell? (aD b 2)=some z/\w.cell? (aD b 3)=some u/\w.cell? (aD b 4)=some q:=by
 refine⟨?_,?_,?_,?_,?_⟩<;>(rw[mB w b _ _ _ _ h];rfl)
theorem Ba{r s:Value}(h:zH w b #[x,y,z,u,q,r,s] t):
  w.cell? (aD b 2)=some z/\w.cell? (aD b 3)=some u/\w.cell? (aD b 5)=some r/\w.cell? (aD b 6)=some s:=by
 refine⟨?_,?_,?_,?_⟩<;>(rw[mB w b _ _ _ _ h];rfl)
end
end
namespace Tw
section
open Go
structure Sh where
 sort:Int
 left:Nat
 right:Nat
 same:Nat
 deriving DecidableEq
structure SS where
 shs:List Sh
 Ar:Bool
 deriving DecidableEq
def Ld(of:Int)(l r:Nat)(st:SS):Option (Nat×SS):=
 if st.shs.length<=10000000 then some (st.shs.length,{st with shs:=st.shs++[⟨of,l,r,st.shs.length⟩]})else none
def B9(st:SS)(r:Nat)(x:Sh)(n:Nat):SS:={st with shs:=st.shs.set r {x with same:=n}}
def I7:Nat->SS->Nat->Option (Nat×SS)
 |0,_,_=>none
 |n+1,st,r=>match st.shs[r]? with
  |none=>none
  |some x=>if x.same=r then some (r,st)else match st.shs[x.same]? with
   |none=>none
   |some y=>I7 n (B9 st r x y.same) x.same
def Eg:Nat->SS->Nat->Nat->Option SS
 |0,_,_,_=>none
 |n+1,st,a,b=>(I7 n st a).bind λp=>(I7 n p.2 b).bind λq=>
  match q.2.shs[p.1]?,q.2.shs[q.1]? with
  |some x,some y=>
   if p.1=q.1 then some q.2
   else if x.sort=0 then some (B9 q.2 p.1 x q.1)
   else if y.sort=0 then some (B9 q.2 q.1 y p.1)
   else if x.sort=y.sort then(Eg n (B9 q.2 p.1 x q.1) x.left y.left).bind λst'=>Eg n st' x.right y.right
   else some {q.2 with Ar:=true}
  |_,_=>none
inductive En where
 |nil
 |fix (name:List UInt8) (r:Nat) (o:En)
 |dfn (name:List UInt8) (t:T) (o:En)
def En.look:En->zU->Option (Nat ⊕ (T×En))
 |.nil,_=>none
 |.fix n r o,x=>if n=x then some (.inl r)else o.look x
 |.dfn n t o,x=>if n=x then some (.inr (t,o))else o.look x
mutual
def Be:Nat->T->En->SS->Option (Nat×SS)
 |0,_,_,_=>none
 |n+1,.name _ _ x,e,st=>match e.look x with
  |none=>none
  |some (.inl r)=>some (r,st)
  |some (.inr (t,o))=>defS n t o st
 |_+1,.int _ _ _,_,st=>some (0,st)
 |_+1,.Ak _ _ _,_,st=>some (1,st)
 |_+1,.side _ _ sec,_,st=>(Ld 0 0 0 st).bind λa=>(Ld 0 0 0 a.2).bind λb=>(Ld 4 a.1 b.1 b.2).bind λp=>Ld 3 p.1 (if sec then b.1 else a.1) p.2
 |n+1,.bracket _ _ i,e,st=>Be n i e st
 |n+1,.pair _ _ l r,e,st=>(Be n l e st).bind λa=>(Be n r e a.2).bind λb=>Ld 4 a.1 b.1 b.2
 |n+1,.call _ _ f a,e,st=>(Be n f e st).bind λx=>(Be n a e x.2).bind λy=>(Ld 0 0 0 y.2).bind λto=>
  (Ld 3 y.1 to.1 to.2).bind λj=>(Eg n j.2 x.1 j.1).bind λst'=>some (to.1,st')
 |n+1,.binary _ _ sg l r,e,st=>(Be n l e st).bind λx=>(Eg n x.2 x.1 0).bind λh=>(Be n r e h).bind λy=>(Eg n y.2 y.1 0).bind λst2=>
  some (if sg=23\/sg=15 then 1 else 0,st2)
 |n+1,.cond _ _ c t f,e,st=>(Be n c e st).bind λx=>(Eg n x.2 x.1 1).bind λh=>(Be n t e h).bind λy=>(Be n f e y.2).bind λz=>
  (Eg n z.2 y.1 z.1).bind λst2=>some (y.1,st2)
 |n+1,.fn _ _ bn _ b,e,st=>(Ld 0 0 0 st).bind λg=>(Be n b (.fix bn g.1 e) g.2).bind λto=>Ld 3 g.1 to.1 to.2
 |n+1,.Am fr to rc bn bat d b,e,st=>(defS n (.Am fr to rc bn bat d b) e st).bind λx=>Be n b (.dfn bn (.Am fr to rc bn bat d b) e) x.2
def defS:Nat->T->En->SS->Option (Nat×SS)
 |0,_,_,_=>none
 |n+1,.Am _ _ false _ _ d _,e,st=>Be n d e st
 |n+1,.Am _ _ true bn _ d _,e,st=>(Ld 0 0 0 st).bind λown=>(Be n d (.fix bn own.1 e) own.2).bind λx=>(Eg n x.2 own.1 x.1).bind λst'=>some (own.1,st')
 |_+1,_,_,_=>none
end
end
end Tw
theorem dZ{p:Prop}(h:p:=by decide):p:=h
section
open Tw Go.Proofs.Tryz
open Go.RowKit
section
variable{bs g n:Nat}{a b c w w':World}{o:Obj}{v:Value}
def Yc(x:Sh):List Value:=[.int .i64 x.sort,.int .i64 x.left,.int .i64 x.right,.int .i64 x.same]
def D9:List Sh->List Value
 |[]=>[]
 |x::l=>Yc x++D9 l
theorem Zx(a b:List Sh):D9 (a++b)=D9 a++D9 b:=by
 induction a with
 |nil=>rfl
 |cons t a ih=>simp[D9,ih]
theorem Zy(a:List Sh):(D9 a).length=a.length*4:=by
 induction a with
 |nil=>rfl
 |cons t a ih=>simp[D9,Yc,ih];omega
theorem zfj(l:List Sh)(j:Nat)(x:Sh)(h:l[j]?=some x):
  (D9 l)[j*4]?=some (vI x.sort)/\(D9 l)[j*4+1]?=some (vI x.left)/\(D9 l)[j*4+2]?=some (vI x.right)/\(D9 l)[j*4+3]?=some (vI x.same):=by
 induction l generalizing j with
 |nil=>simp at h
 |cons a l ih=>
  cases j with
  |zero=>simp at h;subst h;simp[D9,Yc]
  |succ j=>
   have:=ih j (by simpa using h);simp[D9,Yc];rw[show(j+1)*4=j*4+1+1+1+1 from oM];simpa using this
def zra(o:Option Obj):Prop:=∀d m,o≠some (.cells d 334 m)
structure SK(bs:Nat)(w w':World):Prop where
 os:w'.os=w.os
 tape:w'.tape=w.tape
 output:w'.output=w.output
 size:w.heap.size<=w'.heap.size
 block:∀k,k<w.heap.size->k≠bs->(k<bs\/zra w.heap[k]?)->w'.heap[k]?=w.heap[k]?
theorem SK.refl(bs:Nat)(w:World):SK bs w w:=⟨rfl,rfl,rfl,znL _,λ_ _ _ _=>rfl⟩
theorem SK.trans(h:SK bs a b)(k:SK bs b c):SK bs a c:=
 ⟨k.os.trans h.os,k.tape.trans h.tape,k.output.trans h.output,kB h.size k.size,λj f d i=>by
  have e:=h.block j f d i;rw[k.block j (aB f h.size) d (i.imp id λq=>by rw[e];exact q),e]⟩
theorem SK.Ax(h:zG w w'):SK bs w w':=⟨h.os,h.tape,h.output,h.size,λi d _ _=>h.block i d sM⟩
theorem SK.set(h:SK bs a w)(j:Nat)(v:Value):SK bs a (w.setCell (aD bs j) v):=
 h.trans ⟨rfl,rfl,rfl,sM,λk _ d _=>aA w (aD bs j) k v (by simpa using d)⟩
theorem SK.at(h:SK bs w w'){b:Nat}(d:w.heap[b]?=some o)(e:b≠bs)(f:zra (some o)):w'.heap[b]?=some o:=by
 rw[h.block b (zgE.1 d).1 e (.inr (by rw[d];exact f))];exact d
structure UK(bs g:Nat)(w w':World):Prop where
 os:w'.os=w.os
 tape:w'.tape=w.tape
 output:w'.output=w.output
 size:w.heap.size<=w'.heap.size
 block:∀k,k<w.heap.size->k≠bs->k≠g->w'.heap[k]?=w.heap[k]?
theorem UK.refl(bs g:Nat)(w:World):UK bs g w w:=⟨rfl,rfl,rfl,znL _,λ_ _ _ _=>rfl⟩
theorem UK.trans(h:UK bs g a b)(k:UK bs g b c):UK bs g a c:=
 ⟨k.os.trans h.os,k.tape.trans h.tape,k.output.trans h.output,kB h.size k.size,λi e d f=>(k.block i (aB e h.size) d f).trans (h.block i e d f)⟩
theorem UK.Ax(h:zG w w'):UK bs g w w':=⟨h.os,h.tape,h.output,h.size,λi d _ _=>h.block i d sM⟩
theorem UK.drew(h:UK bs g a w):UK bs g a w.drew:=⟨h.os,h.tape,h.output,h.size,h.block⟩
theorem UK.alloc(h:UK bs g a w)(o:Obj):UK bs g a (w.alloc o):=h.trans (UK.Ax (zwA w o none))
theorem UK.set(h:UK bs g a w)(j:Nat)(v:Value):UK bs g a (w.setCell (aD bs j) v):=
 h.trans ⟨rfl,rfl,rfl,sM,λk _ d _=>aA w (aD bs j) k v (by simpa using d)⟩
theorem UK.setRow(h:UK bs g a w)(j:Nat)(v:Value):UK bs g a (w.setCell (aD g j) v):=
 h.trans ⟨rfl,rfl,rfl,sM,λk _ _ d=>aA w (aD g j) k v (by simpa using d)⟩
theorem UK.at(h:UK bs g w w'){b:Nat}(d:w.heap[b]?=some o)(e:b≠bs)(f:b≠g):w'.heap[b]?=some o:=by
 rw[h.block b (zgE.1 d).1 e f];exact d
theorem UK.sk(h:UK bs g w w'){d:Array Value}{m:Nat×Nat}(i:w.heap[g]?=some (.cells d 334 m))(p:bs<=g):SK bs w w':=
 ⟨h.os,h.tape,h.output,h.size,λk j f l=>h.block k j f (λe=>by subst e;exact l.elim (λq=>oM) (λq=>q _ _ i))⟩
structure zdm(w:World)(bs:Nat)(v:Value)(st:SS):Prop where
 solver:w.heap[bs]?=some (.cells #[v,.bool st.Ar] 128 (0,0))
 owns:w.ownsRow bs 334 4 v st.shs.length (D9 st.shs)
 ne:v.ownBlock≠some bs
 many:st.shs.length<=10000001
theorem Tryz.ztu:(Tryz.prog.info? 334).map (λi=>(i.zero,i.size,i.bytes))=some (some (.agg #[vI 0,vI 0,vI 0,vI 0]),4,32):=kR
theorem zbx(w:World)(a b c d:Value)(t:TypeId):∀j u,[a,b,c,d][j]?=some u->(w.alloc (.cells #[a,b,c,d] t)).cell? (((aD w.heap.size 0):Addr).add j)=some u:=by
 intro j u e
 match j,e with
 |0,e=>simp at e;subst e;simp[Addr.add]
 |1,e=>simp at e;subst e;simp[Addr.add]
 |2,e=>simp at e;subst e;simp[Addr.add]
 |3,e=>simp at e;subst e;simp[Addr.add]
 |j+4,e=>simp at e
theorem zo5{l:List Value}(j:w.ownsRow bs 334 4 v n l)(d:w.grownBy w' v.ownBlock):SK bs w w':=
 ⟨d.os,d.tape,d.output,d.size,λk h _ i=>d.block k h (λe=>by
  rcases j.2 with⟨rfl,_⟩|⟨g,m,p,rfl,r,f,_⟩
  ·simp[Value.ownBlock]at e
  ·simp[Value.ownBlock]at e;subst e;exact i.elim (λq=>oM) (λq=>q _ _ f))⟩
theorem zdv {st st':SS} (h:zdm w bs v st) (of:Int) (l r:Nat)  (hf:Ld of l r st=some (n,st')) :
    Calls prog 97 #[pT bs,vI of,vI l,vI r] w λe w'=>e=.returned (vI n)/\SK bs w w'/\∃v',zdm w' bs v' st':=by
  unfold Ld at hf
  split at hf
  rotate_left
  · cases hf
  rename_i hlen
  simp[Option.some.injEq,Prod.mk.injEq]at hf
  obtain⟨rfl,rfl⟩:=hf
  have⟨i0,hi,hz0,hz1,hz2⟩:=info_parts Tryz.ztu
  have⟨c0,c1,f0,f1⟩:=A8 h.solver
  have hbs:bs<w.heap.size:=(zgE.1 h.solver).1
  have HH:=h
  have ho:=h.owns
  obtain⟨⟨a,cap,hv⟩,hlenv⟩:(∃a cap,v=.slice a st.shs.length cap)/\True:=by
    refine⟨?_,trivial⟩
    rcases ho.2 with⟨hv,hn⟩|⟨g,cap,cur,hv,_⟩
    · exact ⟨none,0,by rw [hv,hn]⟩
    · exact ⟨_,_,hv⟩
  subst hv
  generalize hN:st.shs.length=N at *
  have HN:=hN
  go_in
  go_wp2_with (first
    | (at_builtin; refine wpList_append_own _ rfl _ _ 126 rfl bs 334 i0 (.agg #[vI 0,vI 0,vI 0,vI 0]) 4 32 underlying126 hi hz0 hz1 hz2 rfl dZ (.slice a N cap) N (D9 st.shs) rfl (ho.alloc _) (aD w.heap.size 0) 1 1 [vI of,vI l,vI r,vI N] rfl rfl (zbx _ _ _ _ _ _) (by intro u hu; simp at hu; rcases hu with rfl | rfl | rfl | rfl <;> rfl) (by unfold maxLen; omega) oM (by simp; omega) ?_; intro v3 w3 hown3 hgrow3 hnil3
       obtain ⟨g,cap3,rfl⟩:∃g cap3,v3 = sL g (N+1) cap3:=by
         rcases hown3.2 with ⟨_,hn⟩ | ⟨g,cap3,_,hv,_⟩
         · omega
         · exact ⟨g,cap3,hv⟩
       have hne:=HH.ne
       have S3:=(hgrow3.block bs (by simp; omega) (fun e=>hne e.symm)).trans (Pq HH.solver _)
       have K3:=(SK.Ax (zwA w _ none)).trans (zo5 (ho.alloc _) hgrow3)
       have gne:g≠bs:=by
         rcases hown3.2 with ⟨hv,_⟩ | ⟨g',cap',cur',hv,_,hh,_⟩
         · cases hv
         · cases hv
           intro e
           subst e
           rw [S3] at hh
           simp at hh
       have O3:=hown3
       have ⟨k0,k1,e0,e1⟩:=A8 S3
       clear hgrow3 hown3 hnil3))
  go_ret
  go_light
  refine⟨rfl,K3.set 0 _,sL g (N+1) cap3,?_⟩
  have hl:(st.shs++[(⟨of,l,r,N⟩:Sh)]).length=N+1:=by simp[HN]
  refine⟨by rw[cD _ _ _ _ _ _ S3];rfl,?_,by simpa[Value.ownBlock]using gne,by show List.length _<=_;rw[hl];omega⟩
  show World.ownsRow _ _ _ _ _ (List.length _) (D9 _)
  rw[hl,Zx]
  have:=O3
  refine⟨this.1,?_⟩
  rcases this.2 with⟨hv,_⟩|⟨g',cap',cur',hv,hb,hh,rest⟩
  · cases hv
  · cases hv
    exact .inr ⟨g,cap3,cur',rfl,hb,by rw[aA _ _ _ _ (by simpa using gne)];exact hh,rest⟩
end
end
abbrev bE:=@Array.toList_setIfInBounds
section
open Tw Go.Proofs.Tryz
open Go.RowKit
section
variable{w:World}{bs g cap j:Nat}{st:Tw.SS}{cur:Array Value}{x:Tw.Sh}
structure Bx(w:World)(bs g cap:Nat)(cur:Array Value)(st:SS):Prop where
 solver:w.heap[bs]?=some (.cells #[.slice (some ⟨g,0,none⟩) st.shs.length cap,.bool st.Ar] 128 (0,0))
 row:w.heap[g]?=some (.cells cur 334 (0,0))
 ne:g≠bs
 low:bs<=g
 len:st.shs.length<=cap
 zop:cap<=maxLen
 full:cur.size=cap*4
 cells:cur.toList.take (st.shs.length*4)=D9 st.shs
 many:st.shs.length<=10000001
theorem zdm.row{v:Value}(h:zdm w bs v st)(l:0<st.shs.length):∃g cap cur,v=sL g st.shs.length cap/\Bx w bs g cap cur st:=by
 rcases h.owns.2 with⟨_,a⟩|⟨g,cap,cur,k,d,c,a,b,f,i⟩
 ·omega
 ·subst k;exact⟨g,cap,cur,rfl,⟨h.solver,c,λe=>h.ne (by simp[Value.ownBlock,e]),d,a,b,f,i,h.many⟩⟩
theorem Bx.sol(h:Bx w bs g cap cur st):zdm w bs (sL g st.shs.length cap) st:=
 ⟨h.solver,⟨Zy _,
  .inr ⟨g,cap,cur,rfl,h.low,h.row,h.len,h.zop,h.full,h.cells⟩⟩,by simpa[Value.ownBlock]using h.ne,h.many⟩
theorem Bx.sh(h:Bx w bs g cap cur st)(e:st.shs[j]?=some x):
  j<st.shs.length/\w.cell? (aD g (j*4))=some (vI x.sort)/\w.cell? (aD g (j*4+1))=some (vI x.left)/\w.cell? (aD g (j*4+2))=some (vI x.right)/\w.cell? (aD g (j*4+3))=some (vI x.same):=by
 have⟨a,b,c,d⟩:=zfj st.shs j x e;have f:j<st.shs.length:=(zlE.1 e).1;rw[<-h.cells,List.getElem?_take,mA oM]at a b c d;refine⟨f,?_,?_,?_,?_⟩
 ·rw[mB w g _ cur _ _ h.row];simpa using a
 ·rw[mB w g _ cur _ _ h.row];simpa using b
 ·rw[mB w g _ cur _ _ h.row];simpa using c
 ·rw[mB w g _ cur _ _ h.row];simpa using d
theorem Bx.fz(h:Bx w bs g cap cur st)(j:Nat):w.frozen? (aD g j)=false:=eB w g j _ _ h.row
theorem zfk(l:List Sh)(j:Nat)(x:Sh)(n:Nat)(h:l[j]?=some x):
  D9 (l.set j {x with same:=n})=(D9 l).set (j*4+3) (vI n):=by
 induction l generalizing j with
 |nil=>simp at h
 |cons a l ih=>
  cases j with
  |zero=>simp at h;subst h;simp[D9,Yc]
  |succ j=>
   have:=ih j (by simpa using h);simp only[zsS,D9,this,Yc];rw[show(j+1)*4+3=j*4+3+1+1+1+1 from oM];simp
theorem Bx.set(h:Bx w bs g cap cur st)(b:st.shs[j]?=some x)(n:Nat):
  Bx (w.setCell (aD g (j*4+3)) (vI n)) bs g cap (cur.setIfInBounds (j*4+3) (vI n)) (B9 st j x n):=by
 have a:(B9 st j x n).shs.length=st.shs.length:=by simp[B9]
 refine⟨?_,cD _ _ _ _ _ _ h.row,h.ne,h.low,by rw[a];exact h.len,h.zop,by simp[h.full],?_,by rw[a];exact h.many⟩
 ·rw[aA _ _ _ _ (by simpa using h.ne.symm),a];exact h.solver
 ·rw[a];show _=D9 (st.shs.set j {x with same:=n});rw[zfk st.shs j x n b,<-h.cells,bE,List.take_set]
theorem Bx.drew(h:Bx w bs g cap cur st):Bx w.drew bs g cap cur st:={h with}
theorem Bx.grown{w':World}(h:Bx w bs g cap cur st)(a:zG w w'):Bx w' bs g cap cur st:=
 {h with solver:=by rw[a.block bs (zgE.1 h.solver).1 sM];exact h.solver,row:=by rw[a.block g (zgE.1 h.row).1 sM];exact h.row}
theorem Ju{st':SS}(h:Bx w bs g cap cur st){fuel r m:Nat}(B:I7 fuel st r=some (m,st')):
  Calls prog 177 #[pT bs,vI r] w λe w'=>e=.returned (vI m)/\UK bs g w w'/\∃A,Bx w' bs g cap A st':=by
 have t:=h;have s:=B;go_in;go_wp21;go_loopg[1] fuel (λk C wr=>∃(q:Nat) (b:SS) (f:Array Value),C=vI q/\(Bx wr bs g cap f b)/\(UK bs g w wr)/\(I7 k b q=some (m,st')))
 case atStart=>exact⟨r,st,cur,rfl,t,UK.refl _ _ _,s⟩
 case round=>
  obtain⟨q,b,f,rfl,c,o,n⟩:=hrel;cases gk with
  |zero=>have:=n;simp[I7]at this
  |succ k=>
  have a:=n;rw[I7]at a;cases d:b.shs[q]? with
  |none=>rw[d]at a;simp at a
  |some x=>
  rw[d]at a;simp only at a;have⟨D,J,L,M,N⟩:=c.sh d;have⟨H,I,_,_⟩:=A8 c.solver;have F:(q:Int)<(b.shs.length:Int):=oM;have v:=d;by_cases i:x.same=q
  ·rw[mA i]at a;simp[Option.some.injEq,Prod.mk.injEq]at a;obtain⟨rfl,rfl⟩:=a;have z:((x.same:Int) != (q:Int))=false:=(by simp[i]);go_wp21;go_ret;exact⟨rfl,o,f,c⟩
  ·rw[jA i]at a;cases l:b.shs[x.same]? with
   |none=>rw[l]at a;simp at a
   |some y=>
   rw[l]at a;simp only at a;have⟨E,O,P,Q,R⟩:=c.sh l;have G:(x.same:Int)<(b.shs.length:Int):=oM;have z:((x.same:Int) != (q:Int))=true:=(by simp;omega);have fz:=c.fz (q*4+3);have p:=a;go_wp21;go_region;go_wp21;go_roundg k
   case measure=>omega
   case rel=>exact⟨x.same,_,_,rfl,Bx.drew (Bx.set c v y.same),UK.drew (o.setRow _ _),p⟩
end
section
variable{w:World}
def zvt(bs g cap:Nat)(w:World)(st':SS)(e:Ending)(w':World):Prop:=e=.returned (.tuple #[])/\UK bs g w w'/\∃a,Bx w' bs g cap a st'
def zlk(n:Nat):Prop:=∀ {w:World} {a g d:Nat} {h:Array Value} {e f:SS} {b c:Nat},Bx w a g d h e->Eg n e b c=some f ->
  Calls prog 176 #[.pointer (some ⟨a,0,none⟩),.int .i64 b,.int .i64 c] w (zvt a g d w f)
theorem Bx.Ar{bs g cap:Nat}{a:Array Value}{st:SS}(h:Bx w bs g cap a st):Bx (w.setCell (aD bs 1) (.bool true)) bs g cap a {st with Ar:=true}:=
 {h with solver:=by rw[cD _ _ _ _ _ _ h.solver];rfl,row:=by rw[aA _ _ _ _ (by simpa using h.ne)];exact h.row}
theorem Cj{b:Nat}{x y z u:Value}{t:TypeId}(h:zH w b #[x,y,z,u] t):
  w.cell? (aD b 0)=some x/\w.cell? (aD b 1)=some y/\w.cell? (aD b 2)=some z/\w.cell? (aD b 3)=some u:=by
 refine⟨?_,?_,?_,?_⟩<;>(rw[mB w b _ _ _ _ h];rfl)
theorem zr6(w:World)(a:Addr)(v:Value)(b c:Obj):(((w.setCell a v).alloc b).alloc c).drew.heap[w.heap.size]?=some b/\(((w.setCell a v).alloc b).alloc c).drew.heap[w.heap.size+1]?=some c:=by
 have d:(w.setCell a v).heap.size=w.heap.size:=sM;have e:((w.setCell a v).alloc b).heap.size=w.heap.size+1:=sM;refine⟨?_,?_⟩
 ·have:=Pq (Ac (w.setCell a v) b) c;rw[d]at this;exact this
 ·have:=Ac ((w.setCell a v).alloc b) c;rw[e]at this;exact this
theorem zh9{n:Nat}(ih:zlk n):zlk (n+1):=by
 intro w b g j Y F G R S h D;rw[Eg]at D;obtain⟨⟨p,z⟩,E,a0⟩:=zbE.1 D;obtain⟨⟨q,d⟩,t,c⟩:=zbE.1 a0;simp only at t c;cases k:d.shs[p]? with
 |none=>rw[k]at c;simp at c
 |some x=>
 cases v:d.shs[q]? with
 |none=>rw[k,v]at c;simp at c
 |some y=>
 rw[k,v]at c;simp only at c;have M:Bx w b g j Y F:=h;have H:I7 n F R=some (p,z):=E;have I:I7 n z S=some (q,d):=t;have r:d.shs[p]?=some x:=k;have B:d.shs[q]?=some y:=v;have C:zlk n:=ih;go_in;go_wp21;go_call Ju M H as f w1 ⟨rfl,hk,cur1,h⟩;have P:Bx w1 b g j cur1 z:=h;have N:UK b g w w1:=hk;go_wp21;go_call Ju P I as f w2 ⟨rfl,hk,cur2,h⟩;have e:Bx w2 b g j cur2 d:=h;have i:UK b g w w2:=N.trans hk;obtain⟨E,x0,x1,x2,x3⟩:=h.sh r;obtain⟨t,y0,y1,y2,y3⟩:=h.sh B;obtain⟨s0,s1,f0,f1⟩:=A8 h.solver;have a3:(p:Int)<(d.shs.length:Int):=oM;have a4:(q:Int)<(d.shs.length:Int):=oM;have a1:b<w2.heap.size:=(zgE.1 h.solver).1;have a2:g<w2.heap.size:=(zgE.1 h.row).1;go_wp21;have z0:=e.fz (p*4+3);have z1:=e.fz (q*4+3);go_region
 all_goals
  by_cases s:p=q
  ·have f:=c;rw[mA s]at f;simp[Option.some.injEq]at f;subst f;have W:((p:Int)==(q:Int))=true:=(by simp[s]);go_wp21;go_end0;exact⟨rfl,((i.alloc _).alloc _).drew,cur2,((e.grown (zwA _ _ none)).grown (zwA _ _ none)).drew⟩
  have a:=c;rw[jA s]at a;have W:((p:Int)==(q:Int))=false:=by simp;omega
  by_cases l:x.sort=0
  ·rw[mA l]at a;simp[Option.some.injEq]at a;subst a;have T:(x.sort==0)=true:=(by simp[l]);go_wp21;go_end0;exact⟨rfl,(((i.setRow _ _).alloc _).alloc _).drew,_,(((e.set r q).grown (zwA _ _ none)).grown (zwA _ _ none)).drew⟩
  rw[jA l]at a;have T:(x.sort==0)=false:=by simp[l]
  by_cases o:y.sort=0
  ·rw[mA o]at a;simp[Option.some.injEq]at a;subst a;have V:(y.sort==0)=true:=(by simp[o]);go_wp21;go_end0;exact⟨rfl,(((i.setRow _ _).alloc _).alloc _).drew,_,(((e.set B p).grown (zwA _ _ none)).grown (zwA _ _ none)).drew⟩
  rw[jA o]at a;have V:(y.sort==0)=false:=by simp[o]
  by_cases m:x.sort=y.sort
  ·rw[mA m]at a;obtain⟨A,h3,h4⟩:=zbE.1 a;have J:Eg n (B9 d p x q) x.left y.left=some A:=h3;have L:Eg n A x.right y.right=some G:=h4;have U:(x.sort != y.sort)=false:=(by simp[m]);have PS:=e.set r q;go_wp21;go_call C ((PS.grown (zwA _ _ none)).grown (zwA _ _ none)).drew J as f w3 ⟨rfl,hk,cur3,h⟩;have Q:Bx w3 b g j cur3 A:=h;have O:UK b g w w3:=((((i.setRow _ _).alloc _).alloc _).drew).trans hk;obtain⟨m1,m2⟩:=zr6 w2 (aD g (p*4+3)) (vI q) _ _;obtain⟨i0,i1,i2,i3⟩:=Cj (hk.at m1 oM oM);obtain⟨j0,j1,j2,j3⟩:=Cj (hk.at m2 oM oM);go_wp21;go_call C Q L as f w4 ⟨rfl,hk,cur4,h⟩;have X:UK b g w w4/\∃Z,Bx w4 b g j Z G:=⟨O.trans hk,cur4,h⟩;go_wp21;go_end0;exact⟨rfl,X⟩
  ·rw[jA m]at a;simp[Option.some.injEq]at a;subst a;have U:(x.sort != y.sort)=true:=(by simp[m]);go_wp21;go_end0;exact⟨rfl,(((i.set 1 _).alloc _).alloc _).drew,_,((e.Ar.grown (zwA _ _ none)).grown (zwA _ _ none)).drew⟩
theorem zcq:∀n,zlk n
 |0=>λ_ a=>by simp[Eg]at a
 |n+1=>zh9 (zcq n)
end
section
variable{bs hi b n:Nat}{w w':World}{st st':Tw.SS}{v:Value}
def Sol(w:World)(bs:Nat)(st:SS):Prop:=∃g a c,Bx w bs g a c st
theorem nodeAt.sk(l:Sol w bs st)(m:SK bs w w'){lo fr to:Nat}{rest:List Value}{d a:TypeId}(h:nodeAt w lo hi fr to rest d a v)
  (_h1:a≠128) (j:a≠334):nodeAt w' lo hi fr to rest d a v:=by
 have⟨b,f,g,o,c⟩:=h;have⟨q,p,i,k⟩:=l;refine⟨b,f,g,o,m.at c (λe=>?_) (λi r e=>?_)⟩
 ·subst e;rw[k.solver]at c;simp at c
 ·simp at e;exact j e.2.1
theorem Rep.sk{bs:Nat}{w w':World}{st:SS}(a:Sol w bs st)(c:SK bs w w'){lo hi:Nat}:∀ {t:Tw.T} {v:Value},Rep w lo hi t v->Rep w' lo hi t v
 |.name ..,_,h=>nodeAt.sk a c h dZ dZ
 |.int ..,_,h=>nodeAt.sk a c h dZ dZ
 |.Ak ..,_,h=>nodeAt.sk a c h dZ dZ
 |.side ..,_,h=>nodeAt.sk a c h dZ dZ
 |.bracket ..,_,⟨v1,h,r1⟩=>⟨v1,h.sk a c dZ dZ,Rep.sk a c r1⟩
 |.pair ..,_,⟨v1,v2,h,r1,r2⟩=>⟨v1,v2,h.sk a c dZ dZ,Rep.sk a c r1,Rep.sk a c r2⟩
 |.call ..,_,⟨v1,v2,h,r1,r2⟩=>⟨v1,v2,h.sk a c dZ dZ,Rep.sk a c r1,Rep.sk a c r2⟩
 |.binary ..,_,⟨v1,v2,h,r1,r2⟩=>⟨v1,v2,h.sk a c dZ dZ,Rep.sk a c r1,Rep.sk a c r2⟩
 |.cond ..,_,⟨v1,v2,v3,h,r1,r2,r3⟩=>⟨v1,v2,v3,h.sk a c dZ dZ,Rep.sk a c r1,Rep.sk a c r2,Rep.sk a c r3⟩
 |.fn ..,_,⟨v1,h,r1⟩=>⟨v1,h.sk a c dZ dZ,Rep.sk a c r1⟩
 |.Am ..,_,⟨v1,v2,h,r1,r2⟩=>⟨v1,v2,h.sk a c dZ dZ,Rep.sk a c r1,Rep.sk a c r2⟩
def Ca(w:World)(hi:Nat):En->Value->Prop
 |.nil,v=>v=.pointer none
 |.fix n r o,v=>∃b a,v=.pointer (some ⟨b,0,none⟩)/\w.heap[b]?=some (.cells #[ug n,.int .i64 r,.pointer none,.pointer none,a] 339 (0,0))/\Ca w hi o a
 |.dfn n t o,v=>∃b a bl,v=.pointer (some ⟨b,0,none⟩)/\w.heap[b]?=some (.cells #[ug n,.int .i64 0,.pointer (some ⟨bl,0,none⟩),a,a] 339 (0,0))/\Ca w hi o a/\Rep w 0 hi t (.iface 136 (.pointer (some ⟨bl,0,none⟩)))
theorem zub(f:Sol w bs st)(g:SK bs w w'){a:Array Value}(c:w.heap[b]?=some (.cells a 339 (0,0))):w'.heap[b]?=some (.cells a 339 (0,0)):=by
 have⟨j,h,i,d⟩:=f;refine g.at c (λe=>?_) (λa m e=>?_)
 ·subst e;rw[d.solver]at c;simp at c
 ·simp at e
theorem Ca.sk{bs:Nat}{w w':World}{st:SS}(a:Sol w bs st)(c:SK bs w w'){hi:Nat}:∀ {e:En} {v:Value},Ca w hi e v->Ca w' hi e v
 |.nil,_,h=>h
 |.fix ..,_,⟨b,vo,hv,hb,ho⟩=>⟨b,vo,hv,zub a c hb,Ca.sk a c ho⟩
 |.dfn ..,_,⟨b,vo,bl,hv,hb,ho,hr⟩=>⟨b,vo,bl,hv,zub a c hb,Ca.sk a c ho,Rep.sk a c hr⟩
theorem Ca.grown{w w':World}(a:zG w w'){hi:Nat}:∀ {e:En} {v:Value},Ca w hi e v->Ca w' hi e v
 |.nil,_,h=>h
 |.fix ..,_,⟨b,vo,hv,hb,ho⟩=>⟨b,vo,hv,zbG a hb,Ca.grown a ho⟩
 |.dfn ..,_,⟨b,vo,bl,hv,hb,ho,hr⟩=>⟨b,vo,bl,hv,zbG a hb,Ca.grown a ho,hr.grown a (znL _) (znL _)⟩
theorem Sol.grown(h:Sol w bs st)(e:zG w w'):Sol w' bs st:=by
 have⟨g,a,c,d⟩:=h;exact⟨g,a,c,d.grown e⟩
theorem Ca.ptr{e:En}(h:Ca w hi e v):∃a,v=.pointer a:=by
 cases e with
 |nil=>exact⟨none,h⟩
 |fix=>obtain⟨b,_,c,_⟩:=h;exact⟨_,c⟩
 |dfn=>obtain⟨b,_,_,c,_⟩:=h;exact⟨_,c⟩
theorem Tg(h:Sol w bs st)(of:Int)(l r:Nat)(a:Ld of l r st=some (n,st')):
  Calls prog 97 #[pT bs,vI of,vI l,vI r] w λe w'=>e=.returned (vI n)/\SK bs w w'/\Sol w' bs st':=by
 have⟨o,k,m,g⟩:=h;go_call zdv g.sol of l r a as e w' ⟨rfl,hk,v',hv⟩;refine⟨rfl,hk,?_⟩;have j:0<st'.shs.length:=by
  unfold Ld at a;split at a
  ·simp[Option.some.injEq,Prod.mk.injEq]at a;obtain⟨_,rfl⟩:=a;simp
  ·cases a
 have⟨f,c,d,_,i⟩:=hv.row j;exact⟨f,c,d,i⟩
theorem Ps(h:Sol w bs st)(d:Ld 0 0 0 st=some (n,st')):
  Calls prog 103 #[pT bs] w λe w'=>e=.returned (vI n)/\SK bs w w'/\Sol w' bs st':=by
 have c:=h;have a:=d;go_in;go_wp21;go_call Tg c 0 0 0 a as e w1 ⟨rfl,hX⟩;have X:=hX;go_wp21;go_ret;exact⟨rfl,X⟩
theorem Mw(h:Sol w bs st){a:Nat}(f:Eg n st a b=some st'):
  Calls prog 176 #[pT bs,vI a,vI b] w λe w'=>e=.returned (.tuple #[])/\SK bs w w'/\Sol w' bs st':=by
 have⟨g,d,i,c⟩:=h;go_call zcq n c f as e w' ⟨rfl,hk,cur',hR'⟩;exact⟨rfl,hk.sk c.row c.low,g,d,cur',hR'⟩
theorem Zz(e:En)(v:Value)(f:Ca w hi e v)(n:zU)(r:Nat)(pl a:Option Addr):
  Calls prog 104 #[v,ug n,.agg #[vI r,.pointer pl,.pointer a]] w λe w'=>∃b,e=.returned (pT b)/\zG w w'/\zH w' b #[ug n,vI r,.pointer pl,.pointer a,v] 339:=by
 obtain⟨d,rfl⟩:=f.ptr;go_in;go_wp21;go_ret;go_light;have c:=Ac (w.alloc (.cells #[vI r,.pointer pl,.pointer a] 238)) (.cells #[ug n,vI r,.pointer pl,.pointer a,.pointer d] 339);rw[show(w.alloc (.cells #[vI r,.pointer pl,.pointer a] 238)).heap.size=w.heap.size+1 from sM]at c;exact⟨_,rfl,Aj (zwA _ _ none) _,c⟩
end
def zrb(w:World)(hi:Nat)(m:Nat ⊕ (Tw.T×En))(e:Ending)(w':World):Prop:=
 w.grownBy w' none/\match m with
 |.inl r=>∃a,e=.returned (.tuple #[.agg #[.int .i64 r,.pointer none,.pointer a],.bool true])
 |.inr (t,o)=>∃bl a,e=.returned (.tuple #[.agg #[.int .i64 0,.pointer (some ⟨bl,0,none⟩),.pointer a],.bool true])/\Ca w hi o (.pointer a)/\Rep w 0 hi t (.iface 136 (.pointer (some ⟨bl,0,none⟩)))
def Tw.En.size:Tw.En->Nat
 |.nil=>0
 |.fix _ _ o=>o.size+1
 |.dfn _ _ o=>o.size+1
theorem zfl{w:World}{hi:Nat}{e:En}{v:Value}(G:Ca w hi e v)(x:zU){m:Nat ⊕ (Tw.T×En)}(H:e.look x=some m):
  Calls prog 175 #[v,ug x] w (zrb w hi m):=by
 have s:=G;have y:=H;go_in;go_wp21;go_loopg[0] e.size (λk L wr=>wr=w.alloc (.cells #[vI 0,.pointer none,.pointer none] 238)/\∃d:En,k=d.size/\(Ca w hi d L)/\(d.look x=some m))
 case atStart=>exact⟨rfl,e,rfl,s,y⟩
 case round=>
  obtain⟨J,d,q,HK,c⟩:=hrel;subst J;cases d with
  |nil=>have:=c;simp[En.look]at this
  |fix n r o=>
   obtain⟨j,M,p,f,g⟩:=HK;obtain⟨i,rfl⟩:=g.ptr;subst p;obtain⟨A,B,C,D,E⟩:=Ea f;have F:j<w.heap.size:=(zgE.1 f).1;have h:=g;have a:=c;simp[En.look]at a;by_cases b:n=x
   ·rw[mA b]at a;simp[Option.some.injEq]at a;subst a;have l:(n==x)=true:=(by simp[b]);go_wp21;exact bodyPost_ret (v:=.tuple #[.agg #[vI r,.pointer none,.pointer none],.bool true]) (by simp[results,results175,go_sem]) rfl ⟨zwA _ _ none,none,rfl⟩
   ·rw[jA b]at a;have l:(n==x)=false:=(by simp[b]);have c:=a;go_wp21;go_roundg o.size
    case measure=>simp[En.size]at q;omega
    case rel=>exact⟨rfl,o,rfl,h,c⟩
  |dfn n t o=>
   obtain⟨j,M,bl,p,f,g,I⟩:=HK;obtain⟨i,rfl⟩:=g.ptr;subst p;obtain⟨A,B,C,D,E⟩:=Ea f;have F:j<w.heap.size:=(zgE.1 f).1;have h:=g;have z:=I;have a:=c;simp[En.look]at a;by_cases b:n=x
   ·rw[mA b]at a;simp[Option.some.injEq]at a;subst a;have l:(n==x)=true:=(by simp[b]);go_wp21;exact bodyPost_ret (v:=.tuple #[.agg #[vI 0,pT bl,.pointer i],.bool true]) (by simp[results,results175,go_sem]) rfl ⟨zwA _ _ none,bl,i,rfl,h,z⟩
   ·rw[jA b]at a;have l:(n==x)=false:=(by simp[b]);have c:=a;go_wp21;go_roundg o.size
    case measure=>simp[En.size]at q;omega
    case rel=>exact⟨rfl,o,rfl,h,c⟩
end
section
open Go.Proofs.Tryz
open Go.RowKit
abbrev Bo(X Y:TypeId):Prop:=∀(a:Option Addr) (w:World),Sem.run prog (Instr.typeAssert (.iface X (.pointer a)) 68 Y true) w=.ok (.tuple #[.pointer none,.bool false]) w
theorem Mm(a:Option Addr)(w:World):Sem.run prog (Instr.typeAssert (.iface 83 (.pointer a)) 68 83 true) w=.ok (.tuple #[.pointer a,.bool true]) w:=kR
theorem Zh:Bo 83 204:=λ_ _=>kR
theorem zdw:Bo 83 207:=λ_ _=>kR
theorem zdx:Bo 83 209:=λ_ _=>kR
theorem Z0:Bo 83 211:=λ_ _=>kR
theorem zia:Bo 83 213:=λ_ _=>kR
theorem Yj:Bo 83 215:=λ_ _=>kR
theorem Yk:Bo 83 136:=λ_ _=>kR
theorem On:Bo 191 83:=λ_ _=>kR
theorem zib(a:Option Addr)(w:World):Sem.run prog (Instr.typeAssert (.iface 191 (.pointer a)) 68 191 true) w=.ok (.tuple #[.pointer a,.bool true]) w:=kR
theorem zdy:Bo 191 195:=λ_ _=>kR
theorem zfm:Bo 191 199:=λ_ _=>kR
theorem Rr:Bo 191 204:=λ_ _=>kR
theorem Yl:Bo 191 207:=λ_ _=>kR
theorem Ym:Bo 191 209:=λ_ _=>kR
theorem Ua:Bo 191 211:=λ_ _=>kR
theorem zcr:Bo 191 213:=λ_ _=>kR
theorem Ng:Bo 191 215:=λ_ _=>kR
theorem Nh:Bo 191 136:=λ_ _=>kR
theorem Li:Bo 195 83:=λ_ _=>kR
theorem zdz:Bo 195 191:=λ_ _=>kR
theorem Rs(a:Option Addr)(w:World):Sem.run prog (Instr.typeAssert (.iface 195 (.pointer a)) 68 195 true) w=.ok (.tuple #[.pointer a,.bool true]) w:=kR
theorem Xb:Bo 195 204:=λ_ _=>kR
theorem zby:Bo 195 207:=λ_ _=>kR
theorem zbz:Bo 195 209:=λ_ _=>kR
theorem Zi:Bo 195 211:=λ_ _=>kR
theorem zfn:Bo 195 213:=λ_ _=>kR
theorem Mn:Bo 195 215:=λ_ _=>kR
theorem Mo:Bo 195 136:=λ_ _=>kR
theorem Mp:Bo 199 83:=λ_ _=>kR
theorem zfo:Bo 199 191:=λ_ _=>kR
theorem Ub:Bo 199 195:=λ_ _=>kR
theorem Vl(a:Option Addr)(w:World):Sem.run prog (Instr.typeAssert (.iface 199 (.pointer a)) 68 199 true) w=.ok (.tuple #[.pointer a,.bool true]) w:=kR
theorem Zj:Bo 199 204:=λ_ _=>kR
theorem zd0:Bo 199 207:=λ_ _=>kR
theorem zd1:Bo 199 209:=λ_ _=>kR
theorem Z1:Bo 199 211:=λ_ _=>kR
theorem zic:Bo 199 213:=λ_ _=>kR
theorem Oo:Bo 199 215:=λ_ _=>kR
theorem Oq:Bo 199 136:=λ_ _=>kR
theorem Jd:Bo 204 83:=λ_ _=>kR
theorem Z2:Bo 204 191:=λ_ _=>kR
theorem Pt:Bo 204 195:=λ_ _=>kR
theorem Rg:Bo 204 199:=λ_ _=>kR
theorem Jh(a:Option Addr)(w:World):Sem.run prog (Instr.typeAssert (.iface 204 (.pointer a)) 68 204 true) w=.ok (.tuple #[.pointer a,.bool true]) w:=kR
theorem Ni:Bo 204 215:=λ_ _=>kR
theorem Nj:Bo 204 136:=λ_ _=>kR
theorem Mq:Bo 207 83:=λ_ _=>kR
theorem zfp:Bo 207 191:=λ_ _=>kR
theorem Uc:Bo 207 195:=λ_ _=>kR
theorem Vm:Bo 207 199:=λ_ _=>kR
theorem Ma:Bo 207 204:=λ_ _=>kR
theorem Qh(a:Option Addr)(w:World):Sem.run prog (Instr.typeAssert (.iface 207 (.pointer a)) 68 207 true) w=.ok (.tuple #[.pointer a,.bool true]) w:=kR
theorem Rt:Bo 207 215:=λ_ _=>kR
theorem Ru:Bo 207 136:=λ_ _=>kR
theorem Mr:Bo 209 83:=λ_ _=>kR
theorem zfq:Bo 209 191:=λ_ _=>kR
theorem Ud:Bo 209 195:=λ_ _=>kR
theorem Vn:Bo 209 199:=λ_ _=>kR
theorem Mb:Bo 209 204:=λ_ _=>kR
theorem Qi:Bo 209 207:=λ_ _=>kR
theorem Qj(a:Option Addr)(w:World):Sem.run prog (Instr.typeAssert (.iface 209 (.pointer a)) 68 209 true) w=.ok (.tuple #[.pointer a,.bool true]) w:=kR
theorem Rv:Bo 209 215:=λ_ _=>kR
theorem Rw:Bo 209 136:=λ_ _=>kR
theorem Jv:Bo 211 83:=λ_ _=>kR
theorem zb0:Bo 211 191:=λ_ _=>kR
theorem Rh:Bo 211 195:=λ_ _=>kR
theorem Rx:Bo 211 199:=λ_ _=>kR
theorem Jw:Bo 211 204:=λ_ _=>kR
theorem Nk:Bo 211 207:=λ_ _=>kR
theorem Nl:Bo 211 209:=λ_ _=>kR
theorem Kl(a:Option Addr)(w:World):Sem.run prog (Instr.typeAssert (.iface 211 (.pointer a)) 68 211 true) w=.ok (.tuple #[.pointer a,.bool true]) w:=kR
theorem Pf:Bo 211 215:=λ_ _=>kR
theorem Pg:Bo 211 136:=λ_ _=>kR
theorem Qk:Bo 213 83:=λ_ _=>kR
theorem zmb:Bo 213 191:=λ_ _=>kR
theorem Yn:Bo 213 195:=λ_ _=>kR
theorem Z3:Bo 213 199:=λ_ _=>kR
theorem Ph:Bo 213 204:=λ_ _=>kR
theorem Us:Bo 213 207:=λ_ _=>kR
theorem Ut:Bo 213 209:=λ_ _=>kR
theorem Ql:Bo 213 211:=λ_ _=>kR
theorem Z4(a:Option Addr)(w:World):Sem.run prog (Instr.typeAssert (.iface 213 (.pointer a)) 68 213 true) w=.ok (.tuple #[.pointer a,.bool true]) w:=kR
theorem Xc:Bo 213 215:=λ_ _=>kR
theorem Xd:Bo 213 136:=λ_ _=>kR
theorem Ot:Bo 215 83:=λ_ _=>kR
theorem zid:Bo 215 191:=λ_ _=>kR
theorem Vo:Bo 215 195:=λ_ _=>kR
theorem Yo:Bo 215 199:=λ_ _=>kR
theorem Nn:Bo 215 204:=λ_ _=>kR
theorem Ry:Bo 215 207:=λ_ _=>kR
theorem Rz:Bo 215 209:=λ_ _=>kR
theorem Pi:Bo 215 211:=λ_ _=>kR
theorem Xe:Bo 215 213:=λ_ _=>kR
theorem Km(a:Option Addr)(w:World):Sem.run prog (Instr.typeAssert (.iface 215 (.pointer a)) 68 215 true) w=.ok (.tuple #[.pointer a,.bool true]) w:=kR
theorem Ou:Bo 136 83:=λ_ _=>kR
theorem zie:Bo 136 191:=λ_ _=>kR
theorem Vp:Bo 136 195:=λ_ _=>kR
theorem Yp:Bo 136 199:=λ_ _=>kR
theorem No:Bo 136 204:=λ_ _=>kR
theorem Sa:Bo 136 207:=λ_ _=>kR
theorem Sb:Bo 136 209:=λ_ _=>kR
theorem Pj:Bo 136 211:=λ_ _=>kR
theorem Xf:Bo 136 213:=λ_ _=>kR
theorem Kn:Bo 136 215:=λ_ _=>kR
theorem Ko(a:Option Addr)(w:World):Sem.run prog (Instr.typeAssert (.iface 136 (.pointer a)) 68 136 true) w=.ok (.tuple #[.pointer a,.bool true]) w:=kR
end
section
open Tw Go.Proofs.Tryz
open Go.RowKit
section
variable{w:World}{bs b hi r:Nat}{st st':Tw.SS}{e:Tw.En}{ev:Value}
def Hk(bs:Nat)(w:World)(r:Nat)(st':SS)(e:Ending)(w':World):Prop:=e=.returned (.int .i64 r)/\SK bs w w'/\Sol w' bs st'
def Fc(n:Nat):Prop:=∀ {w:World} {bs hi:Nat} {st st':SS} {t:Tw.T} {e:En} {a ev:Value} {r:Nat},Sol w bs st->Rep w 0 hi t a->Ca w hi e ev->Be n t e st=some (r,st') ->
  Calls prog 53 #[.pointer (some ⟨bs,0,none⟩),a,ev] w (Hk bs w r st')
def Wo(n:Nat):Prop:=∀ {w:World} {bs hi bl:Nat} {st st':SS} {t:Tw.T} {e:En} {ev:Value} {r:Nat},Sol w bs st->Rep w 0 hi t (.iface 136 (.pointer (some ⟨bl,0,none⟩)))->Ca w hi e ev->defS n t e st=some (r,st') ->
  Calls prog 105 #[.pointer (some ⟨bs,0,none⟩),.pointer (some ⟨bl,0,none⟩),ev] w (Hk bs w r st')
theorem zmc(h:Sol w bs st)(c:Ca w hi e ev):
  Calls prog 53 #[pT bs,.iface 191 (pT b),ev] w (Hk bs w 0 st):=by
 have a:=h;obtain⟨d,rfl⟩:=c.ptr;have f:=On;have g:=zdy;have i:=zfm;have j:=Rr;have k:=Yl;have l:=Ym;have m:=Ua;have n:=zcr;have o:=Ng;have p:=Nh;go_in;go_wp21;go_ret;exact⟨rfl,SK.refl _ _,a⟩
theorem zfr(h:Sol w bs st)(c:Ca w hi e ev):
  Calls prog 53 #[pT bs,.iface 195 (pT b),ev] w (Hk bs w 1 st):=by
 have a:=h;obtain⟨d,rfl⟩:=c.ptr;have f:=Li;have g:=Rs;go_in;go_wp21;go_ret;exact⟨rfl,SK.refl _ _,a⟩
theorem zo6{n:Nat}(p:Wo n){x:zU}{fr to:Nat}(h:Sol w bs st)
  (q:zH w b #[vI fr,vI to,ug x] 87) (j:Ca w hi e ev) (c:Be (n+1) (.name fr to x) e st=some (r,st')) :
  Calls prog 98 #[pT bs,pT b,ev] w (Hk bs w r st'):=by
 have g:=h;have f:=j;have⟨t,v,y,_⟩:=Ag q;rw[Be]at c;obtain⟨s,rfl⟩:=j.ptr;cases d:e.look x with
 |none=>rw[d]at c;simp at c
 |some m=>
 rw[d]at c;have i:=d;rcases m with A|⟨B,z⟩
 ·simp[Option.some.injEq,Prod.mk.injEq]at c;obtain⟨rfl,rfl⟩:=c;go_in;go_wp21;go_call zfl f x i as e1 w1 ⟨hg,po,rfl⟩;have a:=hg;go_wp21;go_ret;exact⟨rfl,SK.Ax (Aj a _),g.grown (Aj a _)⟩
 ·have k:=c;go_in;go_wp21;go_call zfl f x i as e1 w1 ⟨hg,bl,po,rfl,ho,hr⟩;have a:=hg;have l:=ho;have o:=hr;go_wp21;go_call p (g.grown (Aj a _)) (o.grown (Aj a _) (znL _) (znL _)) (l.grown (Aj a _)) k as e2 w2 ⟨rfl,hk,hs⟩;have X:SK bs w w2/\Sol w2 bs st':=⟨(SK.Ax (Aj a _)).trans hk,hs⟩;go_wp21;go_ret;exact⟨rfl,X⟩
theorem zif(c:Ca w hi e ev)(a:Calls prog 98 #[pT bs,pT b,ev] w (Hk bs w r st')):
  Calls prog 53 #[pT bs,.iface 83 (pT b),ev] w (Hk bs w r st'):=by
 obtain⟨d,rfl⟩:=c.ptr;have f:=Mm;go_in;go_wp21;go_call a as e1 w1 ⟨rfl,hk,hs⟩;have X:SK bs w w1/\Sol w1 bs st':=⟨hk,hs⟩;go_wp21;go_ret;exact⟨rfl,X⟩
theorem zig(c:Ca w hi e ev)(a:Calls prog 100 #[pT bs,pT b,ev] w (Hk bs w r st')):
  Calls prog 53 #[pT bs,.iface 209 (pT b),ev] w (Hk bs w r st'):=by
 obtain⟨d,rfl⟩:=c.ptr;have f:=Mr;have g:=Ud;have h:=Vn;have i:=Mb;have j:=Qi;have k:=Qj;go_in;go_wp21;go_call a as e1 w1 ⟨rfl,hk,hs⟩;have X:SK bs w w1/\Sol w1 bs st':=⟨hk,hs⟩;go_wp21;go_ret;exact⟨rfl,X⟩
theorem zd2(c:Ca w hi e ev)(a:Calls prog 101 #[pT bs,pT b,ev] w (Hk bs w r st')):
  Calls prog 53 #[pT bs,.iface 211 (pT b),ev] w (Hk bs w r st'):=by
 obtain⟨d,rfl⟩:=c.ptr;have f:=Jv;have g:=Rh;have h:=Rx;have i:=Jw;have j:=Nk;have k:=Nl;have l:=Kl;go_in;go_wp21;go_call a as e1 w1 ⟨rfl,hk,hs⟩;have X:SK bs w w1/\Sol w1 bs st':=⟨hk,hs⟩;go_wp21;go_ret;exact⟨rfl,X⟩
theorem zo7(c:Ca w hi e ev)(a:Calls prog 102 #[pT bs,pT b,ev] w (Hk bs w r st')):
  Calls prog 53 #[pT bs,.iface 213 (pT b),ev] w (Hk bs w r st'):=by
 obtain⟨d,rfl⟩:=c.ptr;have f:=Qk;have g:=Yn;have h:=Z3;have i:=Ph;have j:=Us;have k:=Ut;have l:=Ql;have m:=Z4;go_in;go_wp21;go_call a as e1 w1 ⟨rfl,hk,hs⟩;have X:SK bs w w1/\Sol w1 bs st':=⟨hk,hs⟩;go_wp21;go_ret;exact⟨rfl,X⟩
theorem zih(c:Ca w hi e ev)(a:Calls prog 99 #[pT bs,pT b] w (Hk bs w r st')):
  Calls prog 53 #[pT bs,.iface 199 (pT b),ev] w (Hk bs w r st'):=by
 obtain⟨d,rfl⟩:=c.ptr;have f:=Mp;have g:=Ub;have h:=Vl;go_in;go_wp21;go_call a as e1 w1 ⟨rfl,hk,hs⟩;have X:SK bs w w1/\Sol w1 bs st':=⟨hk,hs⟩;go_wp21;go_ret;exact⟨rfl,X⟩
end
theorem zo8{w:World}{bs b:Nat}{st st':SS}{f:Bool}{fr to n r:Nat}{e:En}(h:Sol w bs st)
  (d:zH w b #[vI fr,vI to,.bool f] 201) (o:Be (n+1) (.side fr to f) e st=some (r,st')) :
  Calls prog 99 #[pT bs,pT b] w (Hk bs w r st'):=by
 rw[Be]at o;have⟨⟨E,P⟩,G,I⟩:=zbE.1 o;have⟨⟨c,Q⟩,l,J⟩:=zbE.1 I;have⟨⟨p,R⟩,m,g⟩:=zbE.1 J;simp only at l m g;have j:=h;have t:=G;have v:=l;have x:=m;have y:=d;have Aq:∀(w i:World) (st:SS),Sol w bs st->SK bs w i->w.heap[b]?=some (.cells #[vI fr,vI to,.bool f] 201 (0,0))->i.heap[b]?=some (.cells #[vI fr,vI to,.bool f] 201 (0,0)):=by
  rintro w i st ⟨N,L,F,H⟩ a d;refine a.at d (λe=>?_) (λF O e=>?_)
  ·subst e;rw[H.solver]at d;simp at d
  ·simp at e
 cases f
 all_goals
  simp only[xA,if_false,if_true]at g;go_in;go_wp21;go_call Ps j t as e1 w1 ⟨rfl,a,hs⟩;have k:=hs;have z:=a;have q:=Aq _ _ _ j a y;go_wp21;go_call Ps k v as e1 w2 ⟨rfl,a,hs⟩;have C:=hs;have A:=z.trans a;have s:=Aq _ _ _ k a q;have⟨_,_,M,_⟩:=Ag s;go_wp21;go_call Tg C 4 E c x as e1 w3 ⟨rfl,a,hs⟩;have D:=hs;have B:=A.trans a;go_wp21;go_call Tg D 3 p _ g as e1 w4 ⟨rfl,a,hs⟩;have X:SK bs w w4/\Sol w4 bs st':=⟨B.trans a,hs⟩;go_wp21;go_ret;exact⟨rfl,X⟩
section
variable{bs b n hi fr to r:Nat}{w:World}{st st':Tw.SS}{e:Tw.En}{ev v1 v2:Value}{f:Tw.T}
theorem Fn{w':World}{a:Array Value}{d:TypeId}{x:Int}(j:Sol w bs st)(k:SK bs w w')(c:w.heap[b]?=some (.cells a d (0,0)))(g:a[0]?=some (vI x))(h:d≠334):w'.heap[b]?=some (.cells a d (0,0)):=by
 have⟨o,l,m,i⟩:=j;refine k.at c (λe=>?_) (λa p e=>?_)
 ·subst e;rw[i.solver]at c;simp at c;rw[<-c.1]at g;simp at g
 ·simp at e;exact h e.2.1
theorem zo9(H:Fc n){a:Tw.T}(h:Sol w bs st)
  (hb:zH w b #[vI fr,vI to,v1,v2] 319) (M:Rep w 0 hi f v1) (N:Rep w 0 hi a v2) (I:Ca w hi e ev) (J:Be (n+1) (.call fr to f a) e st=some (r,st')) :
  Calls prog 100 #[pT bs,pT b,ev] w (Hk bs w r st'):=by
 rw[Be]at J;have⟨⟨x1,a8⟩,h1,a4⟩:=zbE.1 J;have⟨⟨x2,ac⟩,D,a5⟩:=zbE.1 a4;have⟨⟨x3,ad⟩,E,a6⟩:=zbE.1 a5;have⟨⟨x4,ae⟩,F,a7⟩:=zbE.1 a6;have⟨af,G,L⟩:=zbE.1 a7;simp only at D E F G;simp[Option.some.injEq,Prod.mk.injEq]at L;obtain⟨rfl,rfl⟩:=L;have j:=h;have z:=I;have q:=hb;have A:=M;have X:=N;obtain⟨c,g,rfl⟩:=M.iface;obtain⟨d,i,rfl⟩:=N.iface;obtain⟨ea,rfl⟩:=I.ptr;have Q:SK bs w w:=SK.refl _ _;have o:w.cell? (aD b 2)=some (.iface c (pT g)):=zcR q;have p:w.cell? (aD b 3)=some (.iface d (pT i)):=zcR q;go_in;go_wp21;go_call H j A z h1 as e1 w1 ⟨rfl,hk,hs⟩;have k:Sol w1 bs a8:=hs;have R:=Q.trans hk;have E1:=Ca.sk j hk z;have s:=Fn j hk q rfl dZ;have Y:=Rep.sk j hk A;have B:=Rep.sk j hk X;have o:w1.cell? (aD b 2)=some (.iface c (pT g)):=zcR s;have p:w1.cell? (aD b 3)=some (.iface d (pT i)):=zcR s;go_wp21;go_call H k B E1 D as e1 w2 ⟨rfl,hk,hs⟩;have l:=hs;have S:=R.trans hk;have O:=Ca.sk k hk E1;have t:=Fn k hk s rfl dZ;have a0:=Rep.sk k hk Y;have Z:=Rep.sk k hk B;have o:w2.cell? (aD b 2)=some (.iface c (pT g)):=zcR t;have p:w2.cell? (aD b 3)=some (.iface d (pT i)):=zcR t;go_wp21;go_call Ps l E as e1 w3 ⟨rfl,hk,hs⟩;have m:=hs;have U:SK bs w w3:=S.trans hk;have P:=Ca.sk l hk O;have v:=Fn l hk t rfl dZ;have a2:=Rep.sk l hk a0;have a1:=Rep.sk l hk Z;have o:w3.cell? (aD b 2)=some (.iface c (pT g)):=zcR v;have p:w3.cell? (aD b 3)=some (.iface d (pT i)):=zcR v;go_wp21;go_call Tg m 3 x2 x3 F as e1 w4 ⟨rfl,hk,hs⟩;have C:=hs;have V:=U.trans hk;have a9:=Ca.sk m hk P;have x:=Fn m hk v rfl dZ;have ab:=Rep.sk m hk a2;have aa:=Rep.sk m hk a1;have o:w4.cell? (aD b 2)=some (.iface c (pT g)):=zcR x;have p:w4.cell? (aD b 3)=some (.iface d (pT i)):=zcR x;go_wp21;go_call Mw C G as e1 w5 ⟨rfl,hk,hs⟩;have a3:=hs;have W:=V.trans hk;have y:=Fn C hk x rfl dZ;have o:w5.cell? (aD b 2)=some (.iface c (pT g)):=zcR y;have p:w5.cell? (aD b 3)=some (.iface d (pT i)):=zcR y;go_wp21;go_ret;exact⟨rfl,W,a3⟩
theorem zii(D:Fc n){c:Tw.T}{t:Tw.T}{v3:Value}(h:Sol w bs st)
  (hb:zH w b #[vI fr,vI to,v1,v2,v3] 326) (U:Rep w 0 hi c v1) (V:Rep w 0 hi t v2) (r2:Rep w 0 hi f v3) (Q:Ca w hi e ev) (R:Be (n+1) (.cond fr to c t f) e st=some (r,st')) :
  Calls prog 102 #[pT bs,pT b,ev] w (Hk bs w r st'):=by
 rw[Be]at R;have⟨⟨x1,al⟩,h1,ac⟩:=zbE.1 R;have⟨am,M,ad⟩:=zbE.1 ac;have⟨⟨x3,ag⟩,N,ae⟩:=zbE.1 ad;have⟨⟨x4,an⟩,O,af⟩:=zbE.1 ae;have⟨ao,P,S⟩:=zbE.1 af;simp only at M N O P;simp[Option.some.injEq,Prod.mk.injEq]at S;obtain⟨rfl,rfl⟩:=S;have a:=h;have E:=Q;have x:=hb;have H:=U;have a3:=V;have a2:Rep w 0 hi f v3:=r2;obtain⟨j,m,rfl⟩:=U.iface;obtain⟨k,o,rfl⟩:=V.iface;obtain⟨l,p,rfl⟩:=r2.iface;obtain⟨ea,rfl⟩:=Q.ptr;have W:SK bs w w:=SK.refl _ _;have q:w.cell? (aD b 2)=some (.iface j (pT m)):=zcR x;have s:w.cell? (aD b 3)=some (.iface k (pT o)):=zcR x;have v:w.cell? (aD b 4)=some (.iface l (pT p)):=zcR x;go_in;go_wp21;go_call D a H E h1 as e1 w1 ⟨rfl,hk,hs⟩;have d:=hs;have X:=W.trans hk;have E1:=Ca.sk a hk E;have y:=Fn a hk x rfl dZ;have a4:=Rep.sk a hk H;have a6:=Rep.sk a hk a3;have a5:=Rep.sk a hk a2;have q:w1.cell? (aD b 2)=some (.iface j (pT m)):=zcR y;have s:w1.cell? (aD b 3)=some (.iface k (pT o)):=zcR y;have v:w1.cell? (aD b 4)=some (.iface l (pT p)):=zcR y;go_wp21;go_call Mw d M as e1 w2 ⟨rfl,hk,hs⟩;have g:=hs;have Y:SK bs w w2:=X.trans hk;have F:=Ca.sk d hk E1;have z:=Fn d hk y rfl dZ;have a7:=Rep.sk d hk a4;have I:=Rep.sk d hk a6;have a8:=Rep.sk d hk a5;have q:w2.cell? (aD b 2)=some (.iface j (pT m)):=zcR z;have s:w2.cell? (aD b 3)=some (.iface k (pT o)):=zcR z;have v:w2.cell? (aD b 4)=some (.iface l (pT p)):=zcR z;go_wp21;go_call D g I F N as e1 w3 ⟨rfl,hk,hs⟩;have i:Sol w3 bs ag:=hs;have Z:=Y.trans hk;have G:=Ca.sk g hk F;have A:=Fn g hk z rfl dZ;have a9:=Rep.sk g hk a7;have aa:=Rep.sk g hk I;have J:=Rep.sk g hk a8;have q:w3.cell? (aD b 2)=some (.iface j (pT m)):=zcR A;have s:w3.cell? (aD b 3)=some (.iface k (pT o)):=zcR A;have v:w3.cell? (aD b 4)=some (.iface l (pT p)):=zcR A;go_wp21;go_call D i J G O as e1 w4 ⟨rfl,hk,hs⟩;have L:=hs;have a0:=Z.trans hk;have ah:=Ca.sk i hk G;have B:=Fn i hk A rfl dZ;have ai:=Rep.sk i hk a9;have ak:=Rep.sk i hk aa;have aj:=Rep.sk i hk J;have q:w4.cell? (aD b 2)=some (.iface j (pT m)):=zcR B;have s:w4.cell? (aD b 3)=some (.iface k (pT o)):=zcR B;have v:w4.cell? (aD b 4)=some (.iface l (pT p)):=zcR B;go_wp21;go_call Mw L P as e1 w5 ⟨rfl,hk,hs⟩;have ab:=hs;have a1:=a0.trans hk;have C:=Fn L hk B rfl dZ;have q:w5.cell? (aD b 2)=some (.iface j (pT m)):=zcR C;have s:w5.cell? (aD b 3)=some (.iface k (pT o)):=zcR C;have v:w5.cell? (aD b 4)=some (.iface l (pT p)):=zcR C;go_wp21;go_ret;exact⟨rfl,a1,ab⟩
end
theorem Xg{n:Nat}(hI:Fc n){w:World}{bs hi b:Nat}{st st':SS}{e:En}{ev:Value}{l:Tw.T}{q:Tw.T}{v1:Value}{v2:Value}{sg:Int}{fr to r:Nat}(h:Sol w bs st)
  (hb:zH w b #[vI fr,vI to,vI sg,v1,v2] 322) (r0:Rep w 0 hi l v1) (r1:Rep w 0 hi q v2) (he:Ca w hi e ev) (hf:Be (n+1) (.binary fr to sg l q) e st=some (r,st')) :
  Calls prog 101 #[pT bs,pT b,ev] w (Hk bs w r st'):=by
 rw[Be]at hf;have⟨⟨x1,st1⟩,h1,hf1⟩:=zbE.1 hf;have⟨st2,h2,hf2⟩:=zbE.1 hf1;have⟨⟨x3,st3⟩,h3,hf3⟩:=zbE.1 hf2;have⟨st4,h4,hf4⟩:=zbE.1 hf3;simp only at h2 h3 h4;simp[Option.some.injEq,Prod.mk.injEq]at hf4;obtain⟨hr,rfl⟩:=hf4;have HR:=hr;have S0:=h;have E0:Ca w hi e ev:=he;have B0:=hb;have R0l:=r0;have R0q:Rep w 0 hi q v2:=r1;have H1:=h1;have H2:=h2;obtain⟨T0,n0,rfl⟩:=r0.iface;obtain⟨T1,n1,rfl⟩:=r1.iface;obtain⟨ea,rfl⟩:=he.ptr;have K0:SK bs w w:=SK.refl _ _;have c0:w.cell? (aD b 3)=some (.iface T0 (pT n0)):=zcR B0;have c1:w.cell? (aD b 4)=some (.iface T1 (pT n1)):=zcR B0;have c9:w.cell? (aD b 2)=some (vI sg):=zcR B0;go_in;go_wp21;go_call hI S0 R0l E0 H1 as e1 w1 ⟨rfl,hk,hs⟩;have S1:=hs;have K1:=K0.trans hk;have E1:=Ca.sk S0 hk E0;have B1:=Fn S0 hk B0 rfl dZ;have R1l:=Rep.sk S0 hk R0l;have R1q:=Rep.sk S0 hk R0q;have c0:w1.cell? (aD b 3)=some (.iface T0 (pT n0)):=zcR B1;have c1:w1.cell? (aD b 4)=some (.iface T1 (pT n1)):=zcR B1;have c9:w1.cell? (aD b 2)=some (vI sg):=zcR B1;go_wp21;go_call Mw S1 H2 as e1 w2 ⟨rfl,hk,hs⟩;have S2:=hs;have K2:SK bs w w2:=K1.trans hk;have E2:=Ca.sk S1 hk E1;have B2:=Fn S1 hk B1 rfl dZ;have R2l:=Rep.sk S1 hk R1l;have R2q:=Rep.sk S1 hk R1q;have c0:w2.cell? (aD b 3)=some (.iface T0 (pT n0)):=zcR B2;have c1:w2.cell? (aD b 4)=some (.iface T1 (pT n1)):=zcR B2;have c9:w2.cell? (aD b 2)=some (vI sg):=zcR B2;go_wp21;go_call hI S2 R2q E2 h3 as e1 w3 ⟨rfl,hk,hs⟩;have S3:=hs;have K3:=K2.trans hk;have E3:=Ca.sk S2 hk E2;have B3:=Fn S2 hk B2 rfl dZ;have R3l:=Rep.sk S2 hk R2l;have R3q:=Rep.sk S2 hk R2q;have c0:w3.cell? (aD b 3)=some (.iface T0 (pT n0)):=zcR B3;have c1:w3.cell? (aD b 4)=some (.iface T1 (pT n1)):=zcR B3;have c9:w3.cell? (aD b 2)=some (vI sg):=zcR B3;go_wp21;go_call Mw S3 h4 as e1 w4 ⟨rfl,hk,hs⟩;have S4:=hs;have K4:=K3.trans hk;have B4:=Fn S3 hk B3 rfl dZ;have c0:w4.cell? (aD b 3)=some (.iface T0 (pT n0)):=zcR B4;have c1:w4.cell? (aD b 4)=some (.iface T1 (pT n1)):=zcR B4;have c9:w4.cell? (aD b 2)=some (vI sg):=zcR B4;cases b23:(sg==23)
 ·cases b15:(sg==15)
  ·go_wp21;go_ret;exact⟨Fu (by have h1:=b23;have h2:=b15;simp at h1 h2;have hr:=HR;rw[jA (λo=>o.elim h1 h2)]at hr;rw[<-hr];rfl),K4,S4⟩
  ·go_wp21;go_ret;exact⟨Fu (by have:=b15;simp at this;have hr:=HR;rw[mA (.inr this)]at hr;rw[<-hr];rfl),K4,S4⟩
 ·go_wp21;go_ret;exact⟨Fu (by have:=b23;simp at this;have hr:=HR;rw[mA (.inl this)]at hr;rw[<-hr];rfl),K4,S4⟩
section
variable{n bs hi b fr to r:Nat}{w:World}{st st':Tw.SS}{e:Tw.En}{ev v1:Value}
theorem zb2(k:Fc n){i:Tw.T}(h:Sol w bs st)
  (l:zH w b #[vI fr,vI to,v1] 206) (d:Rep w 0 hi i v1) (a:Ca w hi e ev) (c:Be (n+1) (.bracket fr to i) e st=some (r,st')) :
  Calls prog 53 #[pT bs,.iface 204 (pT b),ev] w (Hk bs w r st'):=by
 rw[Be]at c;have j:=h;have f:=a;have g:=d;obtain⟨m,q,rfl⟩:=d.iface;obtain⟨p,rfl⟩:=a.ptr;have⟨_,_,o,_⟩:=Ag l;have s:=Jd;have t:=Pt;have v:=Rg;have x:=Jh;go_in;go_wp21;go_call k j g f c as e1 w1 ⟨rfl,hk,hs⟩;have X:SK bs w w1/\Sol w1 bs st':=⟨hk,hs⟩;go_wp21;go_ret;exact⟨rfl,X⟩
theorem zij(g:Fc n){l q:Tw.T}{v2:Value}(h:Sol w bs st)
  (i:zH w b #[vI fr,vI to,v1,v2] 229) (m:Rep w 0 hi l v1) (o:Rep w 0 hi q v2) (j:Ca w hi e ev) (k:Be (n+1) (.pair fr to l q) e st=some (r,st')) :
  Calls prog 53 #[pT bs,.iface 207 (pT b),ev] w (Hk bs w r st'):=by
 rw[Be]at k;have⟨⟨G,T⟩,E,F⟩:=zbE.1 k;have⟨⟨H,U⟩,d,f⟩:=zbE.1 F;simp only at d f;have a:=h;have c:=j;have p:=i;have z:=m;have x:=o;obtain⟨I,M,rfl⟩:=m.iface;obtain⟨J,N,rfl⟩:=o.iface;obtain⟨L,rfl⟩:=j.ptr;have⟨_,_,C,D⟩:=Cj i;have O:=Mq;have P:=Uc;have Q:=Vm;have R:=Ma;have S:=Qh;go_in;go_wp21;go_call g a z c E as e1 w1 ⟨rfl,hk,hs⟩;have A:=hs;have t:=hk;have E1:=Ca.sk a hk c;have s:=Fn a hk p rfl dZ;have y:=Rep.sk a hk x;have⟨_,_,C,D⟩:=Cj s;go_wp21;go_call g A y E1 d as e1 w2 ⟨rfl,hk,hs⟩;have B:=hs;have v:=t.trans hk;go_wp21;go_call Tg B 4 G H f as e1 w3 ⟨rfl,hk,hs⟩;have X:SK bs w w3/\Sol w3 bs st':=⟨v.trans hk,hs⟩;go_wp21;go_ret;exact⟨rfl,X⟩
theorem zmd(M:Fc n){body:Tw.T}{bn:zU}{bat:Nat}(h:Sol w bs st)
    (N:zH w b #[vI fr,vI to,ug bn,vI bat,v1] 235) (v:Rep w 0 hi body v1) (q:Ca w hi e ev) (s:Be (n+1) (.fn fr to bn bat body) e st=some (r,st')) :
    Calls prog 53 #[pT bs,.iface 215 (pT b),ev] w (Hk bs w r st'):=by
  rw[Be]at s;have⟨⟨l,a0⟩,L,O⟩:=zbE.1 s;have⟨⟨R,a1⟩,o,p⟩:=zbE.1 O;simp only at o p;have i:=h;have B:=q;have y:=N;have F:Rep w 0 hi body v1:=v;obtain⟨I,P,rfl⟩:=v.iface;obtain⟨J,rfl⟩:=q.ptr;have q0:=Ot;have q1:=Vo;have q2:=Yo;have q3:=Nn;have q4:=Ry;have q5:=Rz;have q6:=Pi;have q7:=Xe;have q8:=Km;go_in;go_wp21;go_call Ps i L as k w1 ⟨rfl,a,c⟩;have m:=c;have C:=a;have E1:=Ca.sk i a B;have f:=Fn i a y rfl dZ;have G:=Rep.sk i a F;have⟨_,_,S,_,T⟩:=Ea f;have g:w1.grownBy w1.drew none:=Ad (Aa _);go_wp21;go_region_held3 (λW=>W.cell? (aD b 2)=some (ug bn)/\W.cell? (aD b 4)=some (.iface I (pT P))) (go_keep)
    (first
      |(go_at_call 104;refine(Zz e (.pointer J) (E1.grown g) bn l none none).mono ?_;rintro k Q ⟨x,rfl,j,t⟩;have d:=Ab g j;have E:Ca Q hi (.fix bn l e) (pT x):=⟨x,_,rfl,t,E1.grown (Ab g j)⟩;have z:=Ea ((Ab g j).block b (zgE.1 f).1 sM|>.trans f);have⟨_,_,U,_,V⟩:=z;clear j t)
      |(go_at_call 53;refine(M (m.grown d) (G.grown d (znL _) (znL _)) E o).mono ?_;rintro k w3 ⟨rfl,a,c⟩;have H:=c;have D:=C.trans ((SK.Ax d).trans a);have A:=Ea (Fn (m.grown d) a (zbG d f) rfl dZ);have⟨_,_,Y,_,Z⟩:=A;clear a c))
  go_wp21;go_call Tg H 3 l R p as k w4 ⟨rfl,a,c⟩;have X:SK bs w w4/\Sol w4 bs st':=⟨D.trans a,c⟩;go_wp21;go_ret;exact⟨rfl,X⟩
end
section
variable{n bs hi b fr to bat r:Nat}{w:World}{st st':Tw.SS}{e:Tw.En}{ev v1 v2:Value}{d x:Tw.T}{bn:List UInt8}{rc:Bool}
theorem zme(k:Fc n)(h:Sol w bs st)(m:rc=false)
  (l:zH w b #[vI fr,vI to,.bool rc,ug bn,vI bat,v1,v2] 140) (f:Rep w 0 hi d v1) (a:Ca w hi e ev) (c:defS (n+1) (.Am fr to rc bn bat d x) e st=some (r,st')) :
  Calls prog 105 #[pT bs,pT b,ev] w (Hk bs w r st'):=by
 subst m;rw[defS]at c;have j:=h;have g:=a;have i:=f;obtain⟨o,t,rfl⟩:=f.iface;obtain⟨s,rfl⟩:=a.ptr;have⟨p,_,q,_⟩:=Ba l;go_in;go_wp21;go_call k j i g c as e1 w1 ⟨rfl,hk,hs⟩;have X:SK bs w w1/\Sol w1 bs st':=⟨hk,hs⟩;go_wp21;go_ret;exact⟨rfl,X⟩
theorem zr7(U:Fc n)(h:Sol w bs st)(Y:rc=true)
    (t:zH w b #[vI fr,vI to,.bool rc,ug bn,vI bat,v1,v2] 140) (B:Rep w 0 hi d v1) (v:Ca w hi e ev) (y:defS (n+1) (.Am fr to rc bn bat d x) e st=some (r,st')) :
    Calls prog 105 #[pT bs,pT b,ev] w (Hk bs w r st'):=by
  subst Y;rw[defS]at y;have⟨⟨D,a0⟩,S,V⟩:=zbE.1 y;have⟨⟨x2,a1⟩,q,X⟩:=zbE.1 V;have⟨a2,s,z⟩:=zbE.1 X;simp[Option.some.injEq,Prod.mk.injEq]at z;obtain⟨rfl,rfl⟩:=z;simp only at q s;have j:=h;have H:=v;have E:=t;have N:Rep w 0 hi d v1:=B;obtain⟨Q,Z,rfl⟩:=B.iface;obtain⟨R,rfl⟩:=v.ptr;have⟨c2,_,_,_⟩:=Ba t;go_in;go_wp21;go_call Ps j S as l w1 ⟨rfl,a,c⟩;have o:=c;have I:=a;have E1:=Ca.sk j a H;have g:=Fn j a E rfl dZ;have O:=Rep.sk j a N;have⟨_,c3,c5,_⟩:=Ba g;have i:w1.grownBy w1.drew none:=Ad (Aa _);go_wp21;go_region_held3 (λW=>W.cell? (aD b 3)=some (ug bn)/\W.cell? (aD b 5)=some (.iface Q (pT Z))) (go_keep)
    (first
      |(go_at_call 104;refine(Zz e (.pointer R) (E1.grown i) bn D none none).mono ?_;rintro l w2 ⟨C,rfl,k,A⟩;have f:=Ab i k;have M:Ca w2 hi (.fix bn D e) (pT C):=⟨C,_,rfl,A,E1.grown (Ab i k)⟩;have F:=Ba ((Ab i k).block b (zgE.1 g).1 sM|>.trans g);have⟨_,d3,d5,_⟩:=F;clear k A)
      |(go_at_call 53;refine(U (o.grown f) (O.grown f (znL _) (znL _)) M q).mono ?_;rintro l w3 ⟨rfl,a,c⟩;have p:=c;have J:=I.trans ((SK.Ax f).trans a);have m:=Fn (o.grown f) a (zbG f g) rfl dZ;have⟨_,g3,g5,_⟩:=Ba m;clear a c)
      |(go_at_call 176;refine(Mw p s).mono ?_;rintro l w4 ⟨rfl,a,c⟩;have P:=c;have L:=J.trans a;have G:=Ba (Fn p a m rfl dZ);have⟨_,i3,i5,_⟩:=G;clear a c))
  go_wp21;go_ret;exact⟨rfl,L,P⟩
theorem zmf(P:Fc n)(O:Wo n)(h:Sol w bs st)
    (Q:zH w b #[vI fr,vI to,.bool rc,ug bn,vI bat,v1,v2] 140) (y:Rep w 0 hi x v2) (z:Rep w 0 hi (.Am fr to rc bn bat d x) (.iface 136 (pT b))) (s:Ca w hi e ev) (t:Be (n+1) (.Am fr to rc bn bat d x) e st=some (r,st')) :
    Calls prog 53 #[pT bs,.iface 136 (pT b),ev] w (Hk bs w r st'):=by
  rw[Be]at t;have⟨⟨x1,a0⟩,N,q⟩:=zbE.1 t;simp only at q;have g:=h;have l:=s;have B:=Q;have H:Rep w 0 hi x v2:=y;obtain⟨L,R,rfl⟩:=y.iface;obtain⟨p,rfl⟩:=s.ptr;have q0:=Ou;have q1:=Vp;have q2:=Yp;have q3:=No;have q4:=Sa;have q5:=Sb;have q6:=Pj;have q7:=Xf;have q8:=Kn;have q9:=Ko;go_in;go_wp21;go_call O g z l N as o w1 ⟨rfl,a,k⟩;have m:=k;have E:=a;have E1:=Ca.sk g a l;have j:=Fn g a B rfl dZ;have I:=Rep.sk g a H;have M:=Rep.sk g a z;have⟨_,U,_,V⟩:=Ba j;have c:w1.grownBy w1.drew none:=Ad (Aa _);go_wp21;go_region_held3 (λW=>W.cell? (aD b 3)=some (ug bn)/\W.cell? (aD b 6)=some (.iface L (pT R))) (go_keep)
    (first
      |(go_at_call 104;refine(Zz e (.pointer p) (E1.grown c) bn 0 (some (aD b 0)) p).mono ?_;rintro o S ⟨A,rfl,i,v⟩;have f:=Ab c i;have G:Ca S hi (.dfn bn (.Am fr to rc bn bat d x) e) (pT A):=⟨A,_,b,rfl,v,E1.grown (Ab c i),M.grown (Ab c i) (znL _) (znL _)⟩;have C:=Ba ((Ab c i).block b (zgE.1 j).1 sM|>.trans j);have⟨_,X,_,Y⟩:=C;clear i v)
      |(go_at_call 53;refine(P (m.grown f) (I.grown f (znL _) (znL _)) G q).mono ?_;rintro o w3 ⟨rfl,a,k⟩;have J:=k;have F:=E.trans ((SK.Ax f).trans a);have D:=Fn (m.grown f) a (zbG f j) rfl dZ;have⟨_,Z,_,g6⟩:=Ba D;clear a k))
  go_wp21;go_ret;exact⟨rfl,F,J⟩
end
end
section
open Tw
open Go.RowKit
section
variable{n:Nat}
theorem zpa(b:Fc n):Wo (n+1):=by
 intro z l p bl s v t m o r h i e a;cases t with
 |Am fr to rc bn bat d x=>
  obtain⟨w,y,⟨k,_,_,j,c⟩,g,q⟩:=i;cases j;cases f:rc
  ·subst f;exact zme b h rfl c g e a
  ·subst f;exact zr7 b h rfl c g e a
 |_=>simp[defS]at a
theorem zik(p:Fc n)(t:Wo n):Fc (n+1):=by
 intro M A F H I w B J C G j k e g;cases w with
 |name fr to x=>
  obtain⟨o,_,_,rfl,b⟩:=k;exact zif e (zo6 t j b e g)
 |int fr to v=>
  obtain⟨o,_,_,rfl,b⟩:=k;simp only[Be,zsI,zpI]at g;obtain⟨rfl,rfl⟩:=g;exact zmc j e
 |Ak fr to v=>
  obtain⟨o,_,_,rfl,b⟩:=k;simp only[Be,zsI,zpI]at g;obtain⟨rfl,rfl⟩:=g;exact zfr j e
 |side fr to v=>
  obtain⟨o,_,_,rfl,b⟩:=k;exact zih e (zo8 j b g)
 |bracket fr to i=>
  obtain⟨r,⟨o,_,_,rfl,b⟩,h⟩:=k;exact zb2 p j b h e g
 |pair fr to l q=>
  obtain⟨r,s,⟨o,_,_,rfl,b⟩,h,m⟩:=k;exact zij p j b h m e g
 |call fr to f a=>
  obtain⟨r,s,⟨o,_,_,rfl,b⟩,h,m⟩:=k;exact zig e (zo9 p j b h m e g)
 |binary fr to sg l q=>
  obtain⟨r,s,⟨o,_,_,rfl,b⟩,h,m⟩:=k;refine zd2 e ?_;by_cases E:sg=23
  ·exact Xg p j b h m e g
  ·by_cases D:sg=15
   ·exact Xg p j b h m e g
   ·exact Xg p j b h m e g
 |cond fr to c w f=>
  obtain⟨r,s,L,⟨o,_,_,rfl,b⟩,h,m,z⟩:=k;exact zo7 e (zii p j b h m z e g)
 |fn fr to bn bat body=>
  obtain⟨r,⟨o,_,_,rfl,b⟩,h⟩:=k;exact zmd p j b h e g
 |Am fr to rc bn bat d x=>
  have y:=k;obtain⟨r,s,⟨o,_,_,rfl,b⟩,h,m⟩:=k;exact zmf p t j b m y e g
theorem Mx:∀n,Fc n/\Wo n
 |0=>⟨λ_ _ _ a=>by simp[Be]at a,λ_ _ _ a=>by simp[defS]at a⟩
 |n+1=>⟨zik (Mx n).1 (Mx n).2,zpa (Mx n).1⟩
end
end
namespace Tw
section
open Go
def Rk(x:Sh):Bool:=x.sort==3||x.sort==4
def Ir:Nat->SS->List Int->Nat->Option (Bool×SS×List Int)
 |0,_,_,_=>none
 |n+1,st,mk,r=>(I7 n st r).bind λp=>match p.2.shs[p.1]?,mk[p.1]? with
  |some x,some m=>
   if m=0/\Rk x=true then
    (Ir n p.2 (mk.set p.1 1) x.left).bind λa=>
     if a.1 then some (true,a.2)else(Ir n a.2.1 a.2.2 x.right).bind λb=>if b.1 then some (true,b.2)else some (false,b.2.1,b.2.2.set p.1 2)
   else some (m==1,p.2,mk)
  |_,_=>none
def E9(fuel:Nat):Nat->SS->List Int->Nat->Nat->Option (Bool×SS)
 |0,_,_,_,_=>none
 |n+1,st,mk,r,len=>if r<len then(Ir fuel st mk r).bind λa=>if a.1 then some (true,a.2.1)else E9 fuel n a.2.1 a.2.2 (r+1) len else some (false,st)
def Ss(fuel:Nat)(st:SS):Option (Bool×SS):=E9 fuel (st.shs.length+1) st (List.replicate st.shs.length 0) 0 st.shs.length
end
end Tw
section
open Tw Go.Proofs.Tryz
open Go.RowKit
section
variable{bs g gm b:Nat}{a w w':World}{mk:List Int}
structure HK(bs g gm:Nat)(w w':World):Prop where
 os:w'.os=w.os
 tape:w'.tape=w.tape
 output:w'.output=w.output
 size:w.heap.size<=w'.heap.size
 block:∀k,k<w.heap.size->k≠bs->k≠g->k≠gm->w'.heap[k]?=w.heap[k]?
theorem HK.trans{b c:World}(h:HK bs g gm a b)(k:HK bs g gm b c):HK bs g gm a c:=
 ⟨k.os.trans h.os,k.tape.trans h.tape,k.output.trans h.output,kB h.size k.size,λj e d i f=>(k.block j (aB e h.size) d i f).trans (h.block j e d i f)⟩
theorem HK.Wt(h:UK bs g w w'):HK bs g gm w w':=⟨h.os,h.tape,h.output,h.size,λi d c e _=>h.block i d c e⟩
theorem HK.Ax(h:zG w w'):HK bs g gm w w':=HK.Wt (UK.Ax h)
theorem HK.zfa(h:HK bs g gm a w)(j:Nat)(v:Value):HK bs g gm a (w.setCell (aD gm j) v):=
 h.trans ⟨rfl,rfl,rfl,sM,λk _ _ _ c=>aA w (aD gm j) k v (by simpa using c)⟩
theorem HK.at(h:HK bs g gm w w'){o:Obj}(c:w.heap[b]?=some o)(d:b≠bs)(e:b≠g)(f:b≠gm):w'.heap[b]?=some o:=by
 rw[h.block b (zgE.1 c).1 d e f];exact c
def Kz(mk:List Int):Array Value:=(mk.map λn=>Value.int .i64 n).toArray
def Ep(w:World)(gm:Nat)(mk:List Int):Prop:=w.heap[gm]?=some (.cells (Kz mk) 341 (0,0))
theorem Ep.get(h:Ep w gm mk){j:Nat}{m:Int}(c:mk[j]?=some m):w.cell? (aD gm j)=some (vI m):=by
 rw[mB w gm _ _ _ _ h];simp[Kz,c]
theorem Ep.set(h:Ep w gm mk)(j:Nat)(m:Int):Ep (w.setCell (aD gm j) (vI m)) gm (mk.set j m):=by
 unfold Ep;rw[cD _ _ _ _ _ _ h];congr 2;apply Array.ext';simp[Kz,List.map_set]
theorem Bx.other{cap:Nat}{c:Array Value}{st:SS}(h:Bx w bs g cap c st)(d:b≠bs)(e:b≠g)(j:Nat)(v:Value):Bx (w.setCell (aD b j) v) bs g cap c st:=
 {h with solver:=by rw[aA _ _ _ _ (by simpa using d.symm)];exact h.solver,row:=by rw[aA _ _ _ _ (by simpa using e.symm)];exact h.row}
theorem Vq(x:Sh)(w:World):
  Calls prog 178 #[.agg #[vI x.sort,vI x.left,vI x.right,vI x.same]] w λe w'=>e=.returned (.bool (Rk x))/\zG w w':=by
 unfold Rk;cases c:(x.sort==3)
 ·go_in;go_wp21;go_ret;exact⟨Ft sM,zwA _ _ none⟩
 ·go_in;go_wp21;go_ret;exact⟨Ft sM,zwA _ _ none⟩
def zvu(bs g cap gm:Nat)(w:World)(b:Bool)(st':SS)(d:List Int)(e:Ending)(w':World):Prop:=e=.returned (.bool b)/\HK bs g gm w w'/\(∃c,Bx w' bs g cap c st')/\Ep w' gm d
def zrc(n:Nat):Prop:=∀ {w:World} {bs g c gm:Nat} {h:Array Value} {e f:SS} {mk d:List Int} {r:Nat} {b:Bool},Bx w bs g c h e->Ep w gm mk->gm≠bs->gm≠g->mk.length<=10000001->Ir n e mk r=some (b,f,d) ->
  Calls prog 106 #[.pointer (some ⟨bs,0,none⟩),.int .i64 r,.slice (some ⟨gm,0,none⟩) mk.length mk.length] w (zvu bs g c gm w b f d)
theorem Pu:∀(n:Nat) {st st':SS} {mk i:List Int} {r:Nat} {b:Bool},Ir n st mk r=some (b,st',i)->i.length=mk.length
 |0,_,_,_,_,_,_,h=>by simp[Ir]at h
 |n+1,st,st',mk,i,r,b,h=>by
  rw[Ir]at h;have⟨⟨p,v⟩,q,c⟩:=zbE.1 h;simp only at c;split at c;rotate_left
  ·cases c
  split at c
  ·have⟨⟨m,x,s⟩,k,e⟩:=zbE.1 c;have f:=Pu n k;simp only at e;split at e
   ·simp[Option.some.injEq,Prod.mk.injEq]at e;rw[<-e.2.2,f];simp
   ·have⟨⟨o,y,t⟩,l,d⟩:=zbE.1 e;have j:=Pu n l;simp only at d;split at d
    ·simp[Option.some.injEq,Prod.mk.injEq]at d;rw[<-d.2.2,j,f];simp
    ·simp[Option.some.injEq,Prod.mk.injEq]at d;rw[<-d.2.2];simp[j,f]
  ·simp[Option.some.injEq,Prod.mk.injEq]at c;rw[c.2.2]
end
end
abbrev jB:=@List.length_set
section
open Tw Go.Proofs.Tryz
open Go.RowKit
theorem zil{n:Nat}(ih:zrc n):zrc (n+1):=by
 intro w bs g cap gm cur st st' mk mk' r b h hM hgb hgg hlm hf;rw[Ir]at hf;have⟨⟨p,st1⟩,hp,hf1⟩:=zbE.1 hf;clear hf;simp only at hf1;cases hx:st1.shs[p]? with
 |none=>rw[hx]at hf1;simp at hf1
 |some x=>
 cases hm:mk[p]? with
 |none=>rw[hx,hm]at hf1;simp at hf1
 |some m=>
 rw[hx,hm]at hf1;simp only at hf1;have HH:Hid (Bx w bs g cap cur st):=h;have M0:Hid (Ep w gm mk):=hM;have H1:Hid (I7 n st r=some (p,st1)):=hp;have HX:=hx;have HMK:=hm;have hpm:p<mk.length:=(zlE.1 hm).1;have hpmi:(p:Int)<(mk.length:Int):=oM;have zg:=(zgE.1 h.row).1;have zb:=(zgE.1 h.solver).1;have zm:=(zgE.1 hM).1;clear h hM hp hx hm;by_cases hmx:m=0/\Rk x=true;rotate_left
 ·rw[jA hmx]at hf1;simp only[zsI,zpI]at hf1;obtain⟨hb,rfl,rfl⟩:=hf1;have HB:=bV hb;clear hb;cases hm0:(m != 0)
  ·have hmd:Rk x=false:=by
    show _=_;cases e:Rk x
    ·rfl
    ·exact absurd ⟨by simpa using hm0,e⟩ hmx
   clear hmx;go_in;go_wp21;go_call Ju HH.o H1.o as e1 w1 ⟨rfl,hk,cur1,hR⟩;have P1:=hR;have K1:=hk;have M1:Ep w1 gm mk:=hk.at M0.o hgb hgg;have⟨hpl,x0,x1,x2,x3⟩:=hR.sh HX;have⟨s0,_,_,_⟩:=A8 hR.solver;have hpi:(p:Int)<(st1.shs.length:Int):=oM;have z1:=hk.size;have zm1:gm<w1.heap.size:=oM;have zg1:g<w1.heap.size:=oM;have zb1:bs<w1.heap.size:=oM;have mc:=M1.get HMK;clear hk hR;go_wp21;go_call Vq x _ as e1 w2 ⟨rfl,hg⟩;rw[hmd];have G2:zG w1 w2:=Ab (zwA _ _ none) hg;have M2:Ep w2 gm mk:=(Bl.Ax (bp:=bs) G2).at M1 hgb;have mc2:=M2.get HMK;clear hg;go_wp21;go_ret;exact⟨Ft (uh HB),HK.trans (HK.Wt K1) (HK.Ax G2),⟨cur1,P1.grown G2⟩,M2⟩
  ·clear hmx;go_in;go_wp21;go_call Ju HH.o H1.o as e1 w1 ⟨rfl,hk,cur1,hR⟩;have P1:Bx w1 bs g cap cur1 st1:=hR;have K1:UK bs g w w1:=hk;have M1:Ep w1 gm mk:=hk.at M0.o hgb hgg;have⟨hpl,x0,x1,x2,x3⟩:=hR.sh HX;have⟨s0,_,_,_⟩:=A8 hR.solver;have hpi:(p:Int)<(st1.shs.length:Int):=oM;have z1:=hk.size;have zm1:gm<w1.heap.size:=oM;have zg1:g<w1.heap.size:=oM;have zb1:bs<w1.heap.size:=oM;have mc:=M1.get HMK;clear hk hR;go_wp21;go_ret;exact⟨Ft (uh HB),HK.trans (HK.Wt K1) (HK.Ax (zwA _ _ none)),⟨cur1,P1.grown (zwA _ _ none)⟩,Pq M1 _⟩
 ·rw[mA hmx]at hf1;have⟨hm0,hmd0⟩:=hmx;have hm1:(m != 0)=false:=by simp[hm0]
  have hmd:=hmd0;clear hm0 hmd0;have⟨⟨b1,st2,mk2⟩,h2,hf2⟩:=zbE.1 hf1;clear hf1;simp only at hf2;have L2:=Pu n h2;simp only[jB]at L2;have H2:=h2;clear h2;have HF:=bV hf2;clear hf2;cases hb1:b1
  ·have HF2:=uh HF;rw[hb1]at HF2;simp only[xA,if_false]at HF2;have⟨⟨b2,st3,mk3⟩,h4,hf5⟩:=zbE.1 HF2;simp only at hf5;have L3:=Pu n h4;have H4:=h4;subst hb1;clear HF HF2 h4;have HF5:=bV hf5;clear hf5;go_in;go_wp21;go_call Ju HH.o H1.o as e1 w1 ⟨rfl,hk,cur1,hR⟩;have P1:=hR;have K1:=hk;have M1:Ep w1 gm mk:=hk.at M0.o hgb hgg;have⟨hpl,x0,x1,x2,x3⟩:=hR.sh HX;have⟨s0,_,_,_⟩:=A8 hR.solver;have hpi:(p:Int)<(st1.shs.length:Int):=oM;have z1:=hk.size;have zm1:gm<w1.heap.size:=oM;have zg1:g<w1.heap.size:=oM;have zb1:bs<w1.heap.size:=oM;have mc:=M1.get HMK;clear hk hR;go_wp21;go_call Vq x _ as e1 w2 ⟨rfl,hg⟩;rw[hmd];have G2:zG w1 w2:=Ab (zwA _ _ none) hg;have N2:zH w2 w1.heap.size #[vI x.sort,vI x.left,vI x.right,vI x.same] 334:=(hg.block _ sM sM).trans (Ac w1 _);have M2:Ep w2 gm mk:=(Bl.Ax (bp:=bs) G2).at M1 hgb;have P2:Bx w2 bs g cap cur1 st1:=P1.grown G2;have mc2:=M2.get HMK;have mf2:=eB _ _ p _ _ M2;have⟨y0,y1,y2,y3⟩:=Cj N2;clear hg x0 x1 x2 x3 s0 mc;go_wp21;have Q2:=ih (P2.other hgb hgg p (vI 1)) (M2.set p 1) hgb hgg (by simpa using hlm) H2;rw[jB]at Q2;go_call Q2 as e1 w3 ⟨rfl,hk,⟨cur3,hR⟩,hM3⟩;have P3:Bx w3 bs g cap cur3 st2:=hR;have M3:Ep w3 gm mk2:=hM3;have K3:=(HK.trans (HK.Wt K1) (HK.Ax G2)).zfa p _|>.trans hk;have N2b:(w2.setCell (aD gm p) (vI 1)).heap[w1.heap.size]?=some (.cells #[vI x.sort,vI x.left,vI x.right,vI x.same] 334 (0,0)):=by
    show _=_;rw[aA _ _ _ _ (by simp;omega)];exact N2
   have N3:=hk.at N2b oM oM oM;clear hk hR hM3 Q2 y0 y1 y2 y3 mc2 mf2;have⟨y0,y1,y2,y3⟩:=Cj N3;have Q3:=ih P3 M3 hgb hgg (by rw[L2];exact hlm) H4;rw[L2]at Q3;cases hb2:b2
   ·have HF6:=uh HF5;rw[hb2]at HF6;simp only[xA,if_false,zsI,zpI]at HF6;obtain⟨rfl,rfl,rfl⟩:=HF6;subst hb2;go_wp21;go_call Q3 as e1 w4 ⟨rfl,hk,⟨cur4,hR⟩,hM4⟩;have P4:=hR;have M4:=hM4;have K4:=K3.trans hk;have hp3:mk3[p]?.isSome:=(by simp;omega);have⟨m3,hm3⟩:=Option.isSome_iff_exists.1 hp3;have mc4:=M4.get hm3;have mf4:=eB _ _ p _ _ M4;clear hk hR hM4 Q3 hp3 hm3;go_wp21;go_ret;exact⟨rfl,K4.zfa p _,⟨cur4,P4.other hgb hgg p _⟩,M4.set p 2⟩
   ·have HF6:=uh HF5;rw[hb2]at HF6;simp only[if_true,zsI,zpI]at HF6;obtain⟨rfl,rfl,rfl⟩:=HF6;subst hb2;go_wp21;go_call Q3 as e1 w4 ⟨rfl,hk,⟨cur4,hR⟩,hM4⟩;have X:HK bs g gm w w4/\(∃cur',Bx w4 bs g cap cur' st3)/\Ep w4 gm mk3:=⟨K3.trans hk,⟨cur4,hR⟩,hM4⟩;clear hk hR hM4 Q3;go_wp21;go_ret;exact⟨rfl,X⟩
  ·have HF2:=uh HF;rw[hb1]at HF2;simp only[if_true,zsI,zpI]at HF2;obtain⟨rfl,rfl,rfl⟩:=HF2;subst hb1;clear HF;go_in;go_wp21;go_call Ju HH.o H1.o as e1 w1 ⟨rfl,hk,cur1,hR⟩;have P1:Bx w1 bs g cap cur1 st1:=hR;have K1:UK bs g w w1:=hk;have M1:Ep w1 gm mk:=hk.at M0.o hgb hgg;have⟨hpl,x0,x1,x2,x3⟩:=hR.sh HX;have⟨s0,_,_,_⟩:=A8 hR.solver;have hpi:(p:Int)<(st1.shs.length:Int):=oM;have z1:=hk.size;have zm1:gm<w1.heap.size:=oM;have zg1:g<w1.heap.size:=oM;have zb1:bs<w1.heap.size:=oM;have mc:=M1.get HMK;clear hk hR;go_wp21;go_call Vq x _ as e1 w2 ⟨rfl,hg⟩;rw[hmd];have G2:zG w1 w2:=Ab (zwA _ _ none) hg;have N2:zH w2 w1.heap.size #[vI x.sort,vI x.left,vI x.right,vI x.same] 334:=(hg.block _ sM sM).trans (Ac w1 _);have M2:Ep w2 gm mk:=(Bl.Ax (bp:=bs) G2).at M1 hgb;have P2:Bx w2 bs g cap cur1 st1:=P1.grown G2;have mc2:=M2.get HMK;have mf2:=eB _ _ p _ _ M2;have⟨y0,y1,y2,y3⟩:=Cj N2;clear hg x0 x1 x2 x3 s0 mc;go_wp21;have Q2:=ih (P2.other hgb hgg p (vI 1)) (M2.set p 1) hgb hgg (by simpa using hlm) H2;rw[jB]at Q2;go_call Q2 as e1 w3 ⟨rfl,hk,⟨cur3,hR⟩,hM3⟩;have P3:Bx w3 bs g cap cur3 st2:=hR;have M3:Ep w3 gm mk2:=hM3;have K3:HK bs g gm w w3:=(HK.trans (HK.Wt K1) (HK.Ax G2)).zfa p _|>.trans hk;have N2b:(w2.setCell (aD gm p) (vI 1)).heap[w1.heap.size]?=some (.cells #[vI x.sort,vI x.left,vI x.right,vI x.same] 334 (0,0)):=by
    show _=_;rw[aA _ _ _ _ (by simp;omega)];exact N2
   have N3:zH w3 w1.heap.size #[vI x.sort,vI x.left,vI x.right,vI x.same] 334:=hk.at N2b oM oM oM;clear hk hR hM3 Q2 y0 y1 y2 y3 mc2 mf2;have⟨y0,y1,y2,y3⟩:=Cj N3;go_wp21;go_ret;exact⟨rfl,K3,⟨cur3,P3⟩,M3⟩
theorem zcs:∀n,zrc n
 |0=>λ_ _ _ _ _ a=>by simp[Ir]at a
 |n+1=>zil (zcs n)
end
abbrev zN:Value:=.slice none 0 0
abbrev mD:=@World.ownsRow_nil
section
open Tw Go.Proofs.Tryz
open Go.RowKit
theorem Tryz.ztx:(Tryz.prog.info? 341).map (λi=>(i.zero,i.size,i.bytes))=some (some (vI 0),1,8):=kR
theorem zim(N:Nat):madeCells (vI 0).cells N=Kz (List.replicate N 0):=by
 apply Array.ext
 ·simp[madeCells,Kz]
 ·intro i a b;simp[madeCells,Kz,Value.cells,Nat.mod_one]
theorem zin(N:Nat)(g:N<=10000001):∃a,a=Kz (List.replicate N 0)/\∀W:World,(Instr.makeSlice 240 (vI N) (vI N)).run prog W=.ok (sL W.heap.size N N) (W.alloc (.cells a 341)):=by
 have⟨f,b,c,d,e⟩:=info_parts Tryz.ztx;refine⟨_,rfl,λW=>?_⟩;have h:=run_make (P:=prog) W 240 341 f (vI 0) underlying240 b c .i64 .i64 N N oM oM (by rw[e];omega) oM;rw[d]at h;simp[Int.toNat_natCast,Nat.mul_one]at h;rw[zim]at h;exact h
theorem Yq{w:World}{bs g cap:Nat}{x:Array Value}{st st':SS}(h:Bx w bs g cap x st){fuel:Nat}{b:Bool}(z:Ss fuel st=some (b,st')):
  Calls prog 54 #[pT bs] w λe w'=>e=.returned (.bool b)/\UK bs g w w'/\∃J,Bx w' bs g cap J st':=by
 have⟨V,_,_,_⟩:=A8 h.solver;have W:=(zgE.1 h.solver).1;have Y:=(zgE.1 h.row).1;have M:=h.many;have⟨t,y,T⟩:=zin st.shs.length M;have D:=bV y;have C:=h;have s:E9 fuel (st.shs.length+1) st (List.replicate st.shs.length 0) 0 st.shs.length=some (b,st'):=z;generalize L:st.shs.length=N at *;clear h z y L;go_in;go_wp21;go_loopg[16] (N+1) (λk P wr=>∃(q:Nat) (r:SS) (l:List Int) (n:Array Value),P=vI q/\q<=N/\l.length=N/\Hid (Bx wr bs g cap n r)/\Hid (Ep wr w.heap.size l)/\Hid (HK bs g w.heap.size (w.alloc (.cells t 341)) wr)/\Hid (E9 fuel k r l q N=some (b,st')))
 case atStart=>exact⟨0,st,List.replicate N 0,x,rfl,oM,sM,C.grown (zwA _ _ none),by show _=_;rw[Ac];rw[uh D],HK.Ax (Aa _),s⟩
 case round=>
  obtain⟨q,r,l,n,rfl,U,O,v,G,c,m⟩:=hrel;cases gk with
  |zero=>have:=m.o;simp[E9]at this
  |succ k=>
  have a:=m.o;rw[E9]at a;clear m s;by_cases A:q<N
  ·rw[mA A]at a;have⟨⟨I,B,R⟩,d,f⟩:=zbE.1 a;simp only at f;have Q:=zcs fuel v.o G.o oM oM oM d;rw[O]at Q;have S:=Pu fuel d;clear a d;cases j:I
   ·rw[j]at f;simp only[xA,if_false]at f;subst j;go_wp21;go_call Q as e1 w1 ⟨rfl,hk,⟨cur1,hR⟩,hM⟩;have H:=hR;have F:=hM;have E:=c.o.trans hk;clear hk hR hM Q;go_wp21;go_roundg k
    case measure=>omega
    case rel=>exact⟨q+1,B,R,cur1,by go_num,oM,oM,H,F,E,f⟩
   ·rw[j]at f;simp only[if_true,zsI,zpI]at f;obtain⟨rfl,rfl⟩:=f;subst j;go_wp21;go_call Q as e1 w1 ⟨rfl,hk,⟨cur1,hR⟩,hM⟩;have X:HK bs g w.heap.size (w.alloc (.cells t 341)) w1/\Bx w1 bs g cap cur1 B:=⟨c.o.trans hk,hR⟩;clear hk hR hM Q;go_wp21;go_ret;go_light;refine⟨rfl,⟨X.1.os,X.1.tape,X.1.output,by have:=X.1.size;simp at this;omega,λi p d o=>?_⟩,cur1,X.2⟩;rw[X.1.block i (by simp;omega) d o oM];exact Below.heap_alloc w _ i p
  ·rw[jA A]at a;simp only[zsI,zpI]at a;obtain⟨rfl,rfl⟩:=a;go_wp21;go_ret;go_light;refine⟨rfl,⟨c.o.os,c.o.tape,c.o.output,by have:=c.o.size;simp at this;omega,λi p d o=>?_⟩,n,v.o⟩;rw[c.o.block i (by simp;omega) d o oM];exact Below.heap_alloc w _ i p
theorem Pk(w:World):
  Calls prog 52 #[] w λe w'=>e=.returned (pT w.heap.size)/\zG w w'/\Sol w' w.heap.size ⟨[⟨1,0,0,0⟩,⟨2,0,0,1⟩],false⟩:=by
 have d:zdm (w.alloc (.cells #[zN,.bool false] 128)) w.heap.size zN ⟨[],false⟩:=
  ⟨Ac w _,mD _ _ _ _,by simp[Value.ownBlock],sM⟩
 go_in;go_wp21;go_call (zdv d 1 0 0 (n:=0) (st':=⟨[⟨1,0,0,0⟩],false⟩) rfl) as e1 w1 ⟨rfl,hk,v1,hS⟩;have f:=hS;have b:=hk;go_wp21;go_call (zdv f 2 0 0 (n:=1) (st':=⟨[⟨1,0,0,0⟩,⟨2,0,0,1⟩],false⟩) rfl) as e1 w2 ⟨rfl,hk,v2,hS⟩;have g:=hS;have c:=b.trans hk;go_wp21;go_ret;go_light;refine⟨rfl,?_,?_⟩
 ·have K:=c;exact⟨K.os,K.tape,K.output,by have:=K.size;simp at this;omega,λi a _=>by
   rw[K.block i (by simp;omega) oM (.inl a)];exact Below.heap_alloc w _ i a⟩
 ·have⟨k,h,j,_,l⟩:=g.row sM;exact⟨k,h,j,l⟩
end
namespace Tw
section
open Go
inductive WEn where
 |nil
 |cons (name:List UInt8) (k:Nat) (o:WEn)
def WEn.look:WEn->zU->Option Nat
 |.nil,_=>none
 |.cons n k o,x=>if n=x then some k else o.look x
def WEn.size:WEn->Nat
 |.nil=>0
 |.cons _ _ o=>o.size+1
def Ah:T->WEn->Option Nat
 |.name _ _ x,e=>(e.look x).bind λk=>some (min k 2001)
 |.int _ _ _,_=>some 1
 |.Ak _ _ _,_=>some 1
 |.side _ _ _,_=>some 1
 |.bracket _ _ i,e=>(Ah i e).bind λa=>some (min (1+a) 2001)
 |.pair _ _ l r,e=>(Ah l e).bind λa=>(Ah r e).bind λb=>some (min (1+a+b) 2001)
 |.call _ _ l r,e=>(Ah l e).bind λa=>(Ah r e).bind λb=>some (min (1+a+b) 2001)
 |.binary _ _ _ l r,e=>(Ah l e).bind λa=>(Ah r e).bind λb=>some (min (1+a+b) 2001)
 |.cond _ _ c t f,e=>(Ah c e).bind λa=>(Ah t e).bind λb=>(Ah f e).bind λd=>some (min (1+a+b+d) 2001)
 |.fn _ _ bn _ b,e=>(Ah b (.cons bn 1 e)).bind λa=>some (min (1+a) 2001)
 |.Am _ _ rc bn _ d b,e=>(Ah d (if rc then .cons bn 1 e else e)).bind λa=>(Ah b (.cons bn a e)).bind λc=>some (min (1+(a+c)) 2001)
end
end Tw
abbrev fA:=@List.getElem?_eq_getElem
abbrev qD:=@List.getElem?_set_ne
namespace Tw
section
open Go
section
variable{r p a b:Nat}{f:Nat->Nat}{y x:Sh}
inductive Ty where
 |var (n:Nat)
 |int
 |bool
 |fn (a b:Ty)
 |pair (a b:Ty)
 deriving DecidableEq
inductive Aw(st:SS):Nat->Nat->Prop
 |here {r:Nat} {x:Sh} (h:st.shs[r]?=some x) (hs:x.same=r):Aw st r r
 |step {r p:Nat} {x:Sh} (h:st.shs[r]?=some x) (hs:x.same≠r) (hr:Aw st x.same p):Aw st r p
theorem Aw.unique{st:SS}{q:Nat}(h:Aw st r p)(k:Aw st r q):p=q:=by
 induction h with
 |here h hs=>
  cases k with
  |here=>rfl
  |step h' hs'=>rw[h]at h';cases h';exact absurd hs hs'
 |step h hs _ ih=>
  cases k with
  |here h' hs'=>rw[h]at h';cases h';exact absurd hs' hs
  |step h' hs' hr=>rw[h]at h';cases h';exact ih hr
theorem Aw.root{st:SS}(h:Aw st r p):∃x,st.shs[p]?=some x/\x.same=p:=by
 induction h with
 |here h hs=>exact⟨_,h,hs⟩
 |step _ _ _ ih=>exact ih
theorem Aw.self{st:SS}(h:Aw st r p):Aw st p p:=by
 obtain⟨x,c,d⟩:=h.root;exact .here c d
theorem Aw.lt{st:SS}(h:Aw st r p):r<st.shs.length/\p<st.shs.length:=by
 obtain⟨x,c,_⟩:=h.root;refine⟨?_,(zlE.1 c).1⟩;cases h with
 |here h=>exact(zlE.1 h).1
 |step h=>exact(zlE.1 h).1
def SS.eqv(st:SS)(a b:Nat):Prop:=∃p,Aw st a p/\Aw st b p
theorem SS.eqv.symm{st:SS}(h:st.eqv a b):st.eqv b a:=by obtain⟨p,x,y⟩:=h;exact⟨p,y,x⟩
theorem SS.eqv.trans{st:SS}{c:Nat}(h:st.eqv a b)(k:st.eqv b c):st.eqv a c:=by
 obtain⟨p,x,y⟩:=h;obtain⟨q,z,d⟩:=k
 have:=y.unique z;subst this;exact⟨p,x,d⟩
structure SS.Wf(st:SS)(f:Nat->Nat):Prop where
 zbs:∀(r:Nat) (x:Sh),st.shs[r]?=some x->x.same≠r->f x.same<f r
 range:∀(r:Nat) (x:Sh),st.shs[r]?=some x->x.same<st.shs.length/\x.left<st.shs.length/\x.right<st.shs.length
 sort:∀(r:Nat) (x:Sh),st.shs[r]?=some x->x.sort=0\/x.sort=1\/x.sort=2\/x.sort=3\/x.sort=4
 leaf:∀(r:Nat) (x:Sh),st.shs[r]?=some x->x.sort≠3->x.sort≠4->x.left=0/\x.right=0
 Yf:∀(r p:Nat) (x y:Sh),st.shs[r]?=some x->Aw st r p->st.shs[p]?=some y->x.sort≠0->y.sort=x.sort
theorem SS.Wf.zru{st:SS}(h:st.Wf f):∀(k r:Nat),f r<=k->r<st.shs.length->∃p,Aw st r p
 |k,r,hk,hr=>by
  have c:st.shs[r]?=some st.shs[r]:=fA hr;by_cases d:(st.shs[r]).same=r
  ·exact⟨r,.here c d⟩
  ·have g:=h.zbs r _ c d;obtain⟨p,e⟩:∃p,Aw st (st.shs[r]).same p:=by
    cases k with
    |zero=>omega
    |succ k=>exact h.zru k _ oM (h.range r _ c).1
   exact⟨p,.step c d e⟩
theorem SS.Wf.Ra{st:SS}(h:st.Wf f)(c:r<st.shs.length):∃p,Aw st r p:=h.zru (f r) r (znL _) c
structure SS.Sim(st st':SS):Prop where
 len:st'.shs.length=st.shs.length
 Ar:st'.Ar=st.Ar
 shape:∀(r:Nat) (x:Sh),st.shs[r]?=some x->∃y,st'.shs[r]?=some y/\y.sort=x.sort/\y.left=x.left/\y.right=x.right
 root:∀r p,Aw st r p↔Aw st' r p
theorem SS.Sim.refl(st:SS):st.Sim st:=⟨rfl,rfl,λ_ x h=>⟨x,h,rfl,rfl,rfl⟩,λ_ _=>.rfl⟩
theorem SS.Sim.trans{a b c:SS}(h:a.Sim b)(k:b.Sim c):a.Sim c:=
 ⟨k.len.trans h.len,k.Ar.trans h.Ar,λr x m=>by
  obtain⟨y,n,d,e,g⟩:=h.shape r x m;obtain⟨z,o,i,j,l⟩:=k.shape r y n;exact⟨z,o,i.trans d,j.trans e,l.trans g⟩,λr p=>(h.root r p).trans (k.root r p)⟩
theorem SS.Sim.eqv{a b:SS}(h:a.Sim b){x y:Nat}:a.eqv x y↔b.eqv x y:=
 ⟨λ⟨p,c,v⟩=>⟨p,(h.root _ _).1 c,(h.root _ _).1 v⟩,λ⟨p,c,v⟩=>⟨p,(h.root _ _).2 c,(h.root _ _).2 v⟩⟩
theorem SS.Sim.back{st st':SS}(h:st.Sim st')(d:st'.shs[r]?=some y):∃x,st.shs[r]?=some x/\y.sort=x.sort/\y.left=x.left/\y.right=x.right:=by
 have c:=(zlE.1 d).1;rw[h.len]at c;obtain⟨i,e,g⟩:=h.shape r _ (fA c);rw[d]at e;cases e;exact⟨_,fA c,g⟩
theorem Yr{st:SS}(d:st.shs[r]?=some x)(n q:Nat):(B9 st r x n).shs[q]?=if q=r then some {x with same:=n}else st.shs[q]? :=by
 unfold B9;have c:=(zlE.1 d).1;by_cases h:q=r
 ·subst h;rw[mA rfl,List.getElem?_set_self c]
 ·rw[jA h,qD (λe=>h e.symm)]
theorem zvv{st:SS}(W:st.Wf f)(k:st.shs[r]?=some x)(m:x.same≠r)(n:st.shs[x.same]?=some y):
  (B9 st r x y.same).Wf f/\st.Sim (B9 st r x y.same):=by
 have e:=Yr k y.same;have len:(B9 st r x y.same).shs.length=st.shs.length:=by simp[B9]
 have v:=W.zbs r x k m;have w:y.same≠x.same->f y.same<f x.same:=W.zbs _ _ n;have D:y.same≠r:=by
  intro t;by_cases h:y.same=x.same
  ·exact m (h.symm.trans t)
  ·have:=w h;rw[t]at this;omega
 have A:∀q p,Aw st q p->Aw (B9 st r x y.same) q p:=by
  intro q p h
  induction h with
  |@here q z h1 h2=>
   by_cases d:q=r
   ·subst d;rw[k]at h1;cases h1;exact absurd h2 m
   ·exact .here (x:=z) (by rw[e,jA d];exact h1) h2
  |@step q p z h1 h2 _ ih=>
   by_cases d:q=r
   ·subst d;rw[k]at h1;cases h1;by_cases h:y.same=x.same
    ·exact .step (x:={x with same:=y.same}) (by rw[e,mA rfl]) (by simpa using D) (by simpa[h]using ih)
    ·have C:x.same≠q:=m;cases ih with
     |here h3 h4=>rw[e,jA C,n]at h3;cases h3;exact absurd h4 h
     |step h3 h4 h5=>
      rw[e,jA C,n]at h3;cases h3;exact .step (x:={x with same:=y.same}) (by rw[e,mA rfl]) (by simpa using D) h5
   ·exact .step (x:=z) (by rw[e,jA d];exact h1) h2 ih
 have L:∀(q:Nat) (z:Sh),st.shs[q]?=some z->∃l,(B9 st r x y.same).shs[q]?=some l/\l.sort=z.sort/\l.left=z.left/\l.right=z.right:=by
  intro q z c;rw[e];by_cases d:q=r
  ·subst d;rw[k]at c;cases c;exact⟨_,mA rfl,rfl,rfl,rfl⟩
  ·exact⟨z,by rw[jA d];exact c,rfl,rfl,rfl⟩
 have N:∀(q:Nat) (z:Sh),(B9 st r x y.same).shs[q]?=some z->z.same≠q->f z.same<f q:=by
  intro q z c F;rw[e]at c;by_cases d:q=r
  ·subst d;rw[mA rfl]at c;cases c;show f y.same<f q;by_cases h:y.same=x.same
   ·rw[h];exact v
   ·exact Nat.lt_trans (w h) v
  ·rw[jA d]at c;exact W.zbs q z c F
 have sim:st.Sim (B9 st r x y.same):=by
  refine⟨len,rfl,L,λq p=>⟨A q p,λh=>?_⟩⟩;have d:=h.lt.1;rw[len]at d;obtain⟨J,B⟩:=W.Ra d
  have:=(A q J B).unique h;subst this;exact B
 refine⟨⟨N,?_,?_,?_,?_⟩,sim⟩
 ·intro q z c;rw[len];obtain⟨i,g,j,o,s⟩:=sim.back c;rw[o,s];refine⟨?_,(W.range q i g).2⟩;rw[e]at c;by_cases d:q=r
  ·rw[mA d]at c;cases c;exact(W.range _ _ n).1
  ·rw[jA d]at c;exact(W.range q z c).1
 ·intro q z c;obtain⟨i,g,j,_⟩:=sim.back c;rw[j];exact W.sort q i g
 ·intro q z c;obtain⟨i,g,j,o,s⟩:=sim.back c;rw[j,o,s];exact W.leaf q i g
 ·intro q p z l c G H;obtain⟨i,g,j,_⟩:=sim.back c;obtain⟨M,I,E,_⟩:=sim.back H;rw[j,E];exact W.Yf q p i M g ((sim.root q p).2 G) I
theorem zmg :∀(k:Nat) {st:SS} {r:Nat},st.Wf f->f r<=k->r<st.shs.length ->
  ∃p st',(∀n,k<n->I7 n st r=some (p,st'))/\Aw st r p/\st'.Wf f/\st.Sim st':=by
 intro k
 induction k with
 |zero=>
  intro st r W v g;have d:st.shs[r]?=some st.shs[r]:=fA g;have c:(st.shs[r]).same=r:=by
   by_cases c:(st.shs[r]).same=r
   ·exact c
   ·have:=W.zbs r _ d c;omega
  refine⟨r,st,λn h=>?_,.here d c,W,.refl _⟩;obtain⟨m,rfl⟩:∃m,n=m+1:=⟨n-1,oM⟩;rw[I7,d];simp[c]
 |succ k ih=>
  intro st r W v g;have d:st.shs[r]?=some st.shs[r]:=fA g;by_cases c:(st.shs[r]).same=r
  ·refine⟨r,st,λn h=>?_,.here d c,W,.refl _⟩;obtain⟨m,rfl⟩:∃m,n=m+1:=⟨n-1,oM⟩;rw[I7,d];simp[c]
  ·have w:=W.zbs r _ d c;have i:=(W.range r _ d).1;have j:st.shs[(st.shs[r]).same]?=some st.shs[(st.shs[r]).same]:=fA i;obtain⟨l,e⟩:=zvv W d c j;obtain⟨p,st',o,q,s,t⟩:=ih (st:=B9 st r st.shs[r] (st.shs[(st.shs[r]).same]).same) (r:=(st.shs[r]).same) l oM (by rw[e.len];exact i);refine⟨p,st',λn h=>?_,.step d c ((e.root _ _).2 q),s,e.trans t⟩;obtain⟨m,rfl⟩:∃m,n=m+1:=⟨n-1,oM⟩;rw[I7,d];simp only[c,if_false];rw[j];exact o m oM
theorem Lj{st:SS}(W:st.Wf f)(e:r<st.shs.length):∃g p st',(∀n,g<=n->I7 n st r=some (p,st'))/\Aw st r p/\st'.Wf f/\st.Sim st':=by
 obtain⟨p,st',c,d⟩:=zmg (f r) W (znL _) e;exact⟨f r+1,p,st',λn h=>c n oM,d⟩
end
section
variable{v:Nat->Ty}{r a b p q:Nat}{f:Nat->Nat}
def Sh.says(x:Sh)(v:Nat->Ty)(r:Nat):Prop:=(x.sort=1->v r=.int)/\(x.sort=2->v r=.bool)/\(x.sort=3->v r=.fn (v x.left) (v x.right))/\(x.sort=4->v r=.pair (v x.left) (v x.right))
structure SS.sat(st:SS)(v:Nat->Ty):Prop where
 Ar:st.Ar=false
 root:∀r p,Aw st r p->v r=v p
 shape:∀(r:Nat) (x:Sh),st.shs[r]?=some x->x.says v r
theorem Sh.Zn{x y:Sh}(c:y.sort=x.sort)(d:y.left=x.left)(e:y.right=x.right)(h:x.says v r):y.says v r:=by
 unfold Sh.says at h ⊢;rw[c,d,e];exact h
theorem SS.Sim.sat{st st':SS}(h:st.Sim st'):st.sat v↔st'.sat v:=by
 constructor
 ·intro s;refine⟨h.Ar.trans s.Ar,λr p g=>s.root r p ((h.root r p).2 g),λr y j=>?_⟩;obtain⟨x,i,c,d,e⟩:=h.back j;exact Sh.Zn c d e (s.shape r x i)
 ·intro s;refine⟨h.Ar.symm.trans s.Ar,λr p g=>s.root r p ((h.root r p).1 g),λr x i=>?_⟩;obtain⟨y,j,c,d,e⟩:=h.shape r x i;exact Sh.Zn c.symm d.symm e.symm (s.shape r y j)
structure Rel(R:Nat->Nat->Prop):Prop where
 symm:∀ {a b},R a b->R b a
 trans:∀ {a b c},R a b->R b c->R a c
def SS.Ki(st:SS)(P:List (Nat×Nat)):Prop:=∀R:Nat->Nat->Prop,Rel R->(∀a b,st.eqv a b->R a b)->(∀q∈P,R q.1 q.2) ->
 ∀(r p:Nat) (x y:Sh),st.shs[r]?=some x->Aw st r p->st.shs[p]?=some y->x.sort=3\/x.sort=4->R x.left y.left/\R x.right y.right
theorem SS.Sim.closed{st st':SS}(h:st.Sim st'){P:List (Nat×Nat)}(c:st.Ki P):st'.Ki P:=by
 intro R l n k r p C D t o x s;obtain⟨z,w,g,i,j⟩:=h.back t;obtain⟨A,y,B,d,e⟩:=h.back x;rw[i,j,d,e];exact c R l (λa b m=>n a b (h.eqv.1 m)) k r p z A w ((h.root r p).2 o) y (by rw[<-g];exact s)
structure SS.Wv(st st':SS)(a b:Nat):Prop where
 len:st'.shs.length=st.shs.length
 Ar:st'.Ar=st.Ar
 shape:∀(r:Nat) (x:Sh),st.shs[r]?=some x->∃y,st'.shs[r]?=some y/\y.sort=x.sort/\y.left=x.left/\y.right=x.right
 root:∀q p,Aw st' q p↔(Aw st q a/\p=b)\/(Aw st q p/\p≠a)
theorem join{st:SS}(W:st.Wf f){x:Sh}(l:st.shs[a]?=some x)(G:x.same=a)(E:Aw st b b)(D:a≠b)(Q:∀y,st.shs[b]?=some y->x.sort=0\/y.sort=x.sort):
  (∃O,(B9 st a x b).Wf O)/\st.Wv (B9 st a x b) a b:=by
 have k:=Yr l b;have len:(B9 st a x b).shs.length=st.shs.length:=by simp[B9]
 have P:Aw st a a:=.here l G;obtain⟨Y,T,U⟩:=E.root;have s:∀q p,Aw st q p->(p≠a->Aw (B9 st a x b) q p)/\(p=a->Aw (B9 st a x b) q b):=by
  intro q p h
  induction h with
  |@here q z g j=>
   refine⟨λc=>.here (x:=z) (by rw[k,jA c];exact g) j,λc=>?_⟩;subst c;exact .step (x:={x with same:=b}) (by rw[k,mA rfl]) (by simpa using D.symm) (.here (x:=Y) (by rw[k,jA D.symm];exact T) U)
  |@step q p z g j _ ih=>
   have c:q≠a:=(by intro w;subst w;rw[l]at g;cases g;exact j G);exact⟨λn=>.step (x:=z) (by rw[k,jA c];exact g) j (ih.1 n),λn=>.step (x:=z) (by rw[k,jA c];exact g) j (ih.2 n)⟩
 have X:∀(q:Nat) (z:Sh),st.shs[q]?=some z->∃d,(B9 st a x b).shs[q]?=some d/\d.sort=z.sort/\d.left=z.left/\d.right=z.right:=by
  intro q z e;rw[k];by_cases c:q=a
  ·subst c;rw[l]at e;cases e;exact⟨_,mA rfl,rfl,rfl,rfl⟩
  ·exact⟨z,by rw[jA c];exact e,rfl,rfl,rfl⟩
 have back:∀(q:Nat) (z:Sh),(B9 st a x b).shs[q]?=some z->∃d,st.shs[q]?=some d/\z.sort=d.sort/\z.left=d.left/\z.right=d.right/\(q≠a->z=d)/\(q=a->z.same=b):=by
  intro q z e;rw[k]at e;by_cases c:q=a
  ·subst c;rw[mA rfl]at e;cases e;exact⟨x,l,rfl,rfl,rfl,λh=>absurd rfl h,λ_=>rfl⟩
  ·rw[jA c]at e;exact⟨z,e,rfl,rfl,rfl,λ_=>rfl,λh=>absurd h c⟩
 have root:∀q p,Aw (B9 st a x b) q p↔(Aw st q a/\p=b)\/(Aw st q p/\p≠a):=by
  intro q p;constructor
  ·intro h;have c:=h.lt.1;rw[len]at c;obtain⟨L,t⟩:=W.Ra c;by_cases F:L=a
   ·subst F;exact .inl ⟨t,h.unique ((s q _ t).2 rfl)⟩
   ·have:=((s q L t).1 F).unique h;subst this;exact .inr ⟨t,F⟩
  ·rintro(⟨h,rfl⟩|⟨h,n⟩)
   ·exact(s q a h).2 rfl
   ·exact(s q p h).1 n
 classical
 refine⟨⟨λq=>if Aw st q a then f q+f b+1 else f q,?_,?_,?_,?_,?_⟩,len,rfl,X,root⟩
 ·intro q z e H;obtain⟨d,i,_,_,_,g,j⟩:=back q z e;have V:¬Aw st b a:=λh=>D (h.unique E);by_cases c:q=a
  ·subst c;rw[j rfl];simp only[jA V,mA P];omega
  ·have:=g c;subst this
   have:=W.zbs q z i H;have w:Aw st q a↔Aw st z.same a:=by
    constructor
    ·intro h;cases h with
     |here=>exact absurd rfl c
     |step h3 _ h4=>rw[i]at h3;cases h3;exact h4
    ·exact λh=>.step i H h
   simp only[w];split<;>omega
 ·intro q z e;obtain⟨d,i,_,A,B,g,j⟩:=back q z e;rw[len,A,B];refine⟨?_,(W.range q d i).2⟩;by_cases c:q=a
  ·rw[j c];exact E.lt.1
  ·rw[g c];exact(W.range q d i).1
 ·intro q z e;obtain⟨d,i,m,_⟩:=back q z e;rw[m];exact W.sort q d i
 ·intro q z e;obtain⟨d,i,m,A,B,_⟩:=back q z e;rw[m,A,B];exact W.leaf q d i
 ·intro q p z y e R S o;obtain⟨d,i,m,_⟩:=back q z e;obtain⟨M,J,N,_⟩:=back p y S;rw[m]at o ⊢;rw[N];rcases(root q p).1 R with⟨g,rfl⟩|⟨g,_⟩
  ·have I:=W.Yf q a d x i g l o;rcases Q M J with C|C
   ·rw[<-I]at o;exact absurd C o
   ·rw[C,I]
  ·exact W.Yf q p d M i g J o
theorem SS.Wv.back{st st':SS}(h:st.Wv st' a b){y:Sh}(d:st'.shs[r]?=some y):∃x,st.shs[r]?=some x/\y.sort=x.sort/\y.left=x.left/\y.right=x.right:=by
 have c:=(zlE.1 d).1;rw[h.len]at c;obtain⟨i,e,g⟩:=h.shape r _ (fA c);rw[d]at e;cases e;exact⟨_,fA c,g⟩
theorem SS.Wv.eqv{st st':SS}(h:st.Wv st' a b){x y:Nat}(k:st.eqv x y):st'.eqv x y:=by
 obtain⟨p,d,e⟩:=k;by_cases c:p=a
 ·subst c;exact⟨b,(h.root _ _).2 (.inl ⟨d,rfl⟩),(h.root _ _).2 (.inl ⟨e,rfl⟩)⟩
 ·exact⟨p,(h.root _ _).2 (.inr ⟨d,c⟩),(h.root _ _).2 (.inr ⟨e,c⟩)⟩
theorem SS.Wv.one{st st':SS}(h:st.Wv st' a b)(c:Aw st a a)(e:Aw st b b)(d:a≠b):st'.eqv a b:=
 ⟨b,(h.root _ _).2 (.inl ⟨c,rfl⟩),(h.root _ _).2 (.inr ⟨e,d.symm⟩)⟩
theorem SS.Wv.sat{st st':SS}(h:st.Wv st' a b)(s:st.sat v)(hv:v a=v b):st'.sat v:=by
 refine⟨h.Ar.trans s.Ar,λr p i=>?_,λr y k=>?_⟩
 ·rcases(h.root r p).1 i with⟨c,rfl⟩|⟨c,_⟩
  ·rw[s.root r a c,hv]
  ·exact s.root r p c
 ·obtain⟨x,j,d,e,g⟩:=h.back k;exact Sh.Zn d e g (s.shape r x j)
structure UOk(st st':SS)(a b:Nat):Prop where
 wf:∃f,st'.Wf f
 len:st'.shs.length=st.shs.length
 Ar:st'.Ar=false->st.Ar=false
 shape:∀(r:Nat) (x:Sh),st.shs[r]?=some x->∃y,st'.shs[r]?=some y/\y.sort=x.sort/\y.left=x.left/\y.right=x.right
 eqv:∀ {x y},st.eqv x y->st'.eqv x y
 one:st'.Ar=false->st'.eqv a b
 sat:∀ {v:Nat->Ty},st.sat v->v a=v b->st'.sat v
 closed:∀ {P},st.Ki ((a,b)::P)->st'.Ar=false->st'.Ki P
def SS.few(st:SS)(k:Nat):Prop:=∃L:List Nat,L.length<=k/\∀r,Aw st r r->r∈L
theorem zmh{x y:Sh}(d:x.says v p)(e:y.says v q)(c:x.sort=y.sort)(hv:v p=v q)(g:x.sort=3\/x.sort=4):v x.left=v y.left/\v x.right=v y.right:=by
 rcases g with h|h
 ·have a:=d.2.2.1 h;have b:=e.2.2.1 (by rw[<-c];exact h);rw[a,b]at hv;injection hv with h1 h2;exact⟨h1,h2⟩
 ·have a:=d.2.2.2 h;have b:=e.2.2.2 (by rw[<-c];exact h);rw[a,b]at hv;injection hv with h1 h2;exact⟨h1,h2⟩
theorem zio{x y:Sh}(o:x.says v p)(s:y.says v q)(t:x.sort=0\/x.sort=1\/x.sort=2\/x.sort=3\/x.sort=4)(w:y.sort=0\/y.sort=1\/y.sort=2\/y.sort=3\/y.sort=4)(z:x.sort≠0)(A:y.sort≠0)(B:x.sort≠y.sort):v p≠v q:=by
 obtain⟨d,e,g,i⟩:=o;obtain⟨j,l,m,n⟩:=s;intro c;rcases t with h|h|h|h|h<;>rcases w with k|k|k|k|k<;>first|omega|(first|rw[d h]at c|rw[e h]at c|rw[g h]at c|rw[i h]at c)<;>(first|rw[j k]at c|rw[l k]at c|rw[m k]at c|rw[n k]at c)<;>cases c
theorem ziq:∀(k:Nat) {st:SS} {f:Nat->Nat} {a b:Nat},st.Wf f->st.few k->a<st.shs.length->b<st.shs.length ->
  ∃n0 st',(∀n,n0<=n->Eg n st a b=some st')/\UOk st st' a b/\st'.few k:=by
 intro k
 induction k with
 |zero=>
  intro st f a b W hF ha hb;obtain⟨L,hL,hL2⟩:=hF;obtain⟨p,hp⟩:=W.Ra ha
  have:=hL2 p hp.self;rw[List.length_eq_zero_iff.1 (Nat.le_zero.1 hL)]at this;simp at this
 |succ k ih=>
  intro st f a b W hF ha hb;obtain⟨n1,p,st1,f1,ra,W1,S1⟩:=Lj W ha;obtain⟨n2,q,st2,f2,rb,W2,S2⟩:=Lj W1 (r:=b) (by rw[S1.len];exact hb);have S:=S1.trans S2;have ra2:Aw st2 a p:=(S.root _ _).1 ra;have rb2:Aw st2 b q:=(S2.root _ _).1 rb;obtain⟨x,hx,hxs⟩:=ra2.root;obtain⟨y,hy,hys⟩:=rb2.root;have hF2:st2.few (k+1):=by
   obtain⟨L,h1,h2⟩:=hF;exact⟨L,h1,λr hr=>h2 r ((S.root _ _).2 hr)⟩
  have unf:∀n,max n1 n2+1<=n->Eg n st a b=(if p=q then some st2 else if x.sort=0 then some (B9 st2 p x q)else if y.sort=0 then some (B9 st2 q y p)
    else if x.sort=y.sort then(Eg (n-1) (B9 st2 p x q) x.left y.left).bind λst'=>Eg (n-1) st' x.right y.right else some {st2 with Ar:=true}):=by
   intro n hn;obtain⟨m,rfl⟩:∃m,n=m+1:=⟨n-1,oM⟩;rw[Eg,f1 m oM];simp only[zbS];rw[f2 m oM];simp only[zbS,hx,hy,Nat.add_sub_cancel]
  -- what the first two finds have kept
  have simU:∀ {st':SS},UOk st2 st' p q->UOk st st' a b:=by
   intro st' U;refine⟨U.wf,U.len.trans S.len,λh=>S.Ar.symm.trans (U.Ar h),λr z hz=>?_,λh=>U.eqv (S.eqv.1 h),λh=>?_,λ{v} s hv=>?_,λ{P} c h=>?_⟩
   ·obtain⟨z1,hz1,a1,a2,a3⟩:=S.shape r z hz;obtain⟨z2,hz2,b1,b2,b3⟩:=U.shape r z1 hz1;exact⟨z2,hz2,b1.trans a1,b2.trans a2,b3.trans a3⟩
   ·exact((U.eqv ⟨p,ra2,ra2.self⟩).trans (U.one h)).trans (U.eqv ⟨q,rb2.self,rb2⟩)
   ·have s2:=S.sat.1 s;exact U.sat s2 (by rw[<-s2.root a p ra2,<-s2.root b q rb2];exact hv)
   ·refine U.closed ?_ h;intro R hR he hP r p' x' y' hx' hr' hy' hs';refine(S.closed c) R hR he (λw hw=>?_) r p' x' y' hx' hr' hy' hs';simp only[zmC]at hw;rcases hw with rfl|hw
    ·exact hR.trans (he _ _ ⟨p,ra2,ra2.self⟩) (hR.trans (hP (p,q) sM) (he _ _ ⟨q,rb2.self,rb2⟩))
    ·exact hP w (by simp[hw])
  by_cases hpq:p=q
  ·refine⟨max n1 n2+1,st2,λn hn=>by rw[unf n hn,mA hpq],simU ⟨⟨f,W2⟩,rfl,id,λr z hz=>⟨z,hz,rfl,rfl,rfl⟩,id,λ_=>⟨p,ra2.self,by rw[<-hpq];exact ra2.self⟩,λs _=>s,λ{P} c _=>?_⟩,hF2⟩;intro R hR he hP r p' x' y' hx' hr' hy' hs';refine c R hR he (λw hw=>?_) r p' x' y' hx' hr' hy' hs';simp only[zmC]at hw;rcases hw with rfl|hw
   ·exact he _ _ ⟨p,ra2.self,by rw[<-hpq];exact ra2.self⟩
   ·exact hP w hw
  -- a variable is put
  have putOne:∀ {c d:Nat} {z:Sh},st2.shs[c]?=some z->z.same=c->Aw st2 d d->c≠d->z.sort=0->(∀v:Nat->Ty,v p=v q->v c=v d)->(∀R:Nat->Nat->Prop,Rel R->R c d->R p q)->(∀s':SS,s'.eqv c d->s'.eqv p q)->UOk st2 (B9 st2 c z d) p q/\(B9 st2 c z d).few (k+1):=by
   intro c d z hz hzs hd hcd h0 hv hRc hEq;obtain⟨Wj,J⟩:=join W2 hz hzs hd hcd (λ_ _=>.inl h0);have hcc:Aw st2 c c:=.here hz hzs;refine⟨⟨Wj,J.len,λh=>J.Ar.symm.trans h,J.shape,J.eqv,λ_=>hEq _ (J.one hcc hd hcd),λ{v} s h=>J.sat s (hv v h),λ{P} cl _=>?_⟩,?_⟩
   ·intro R hR he hP r p' x' y' hx' hr' hy' hs';obtain⟨x2,hx2,e1,e2,e3⟩:=J.back hx';obtain⟨y2,hy2,d1,d2,d3⟩:=J.back hy';rw[e2,e3,d2,d3];rcases(J.root r p').1 hr' with⟨h1,rfl⟩|⟨h1,_⟩
    ·have:=W2.Yf r c x2 z hx2 h1 hz (by rw[<-e1];omega);rw[h0]at this;rw[e1]at hs';omega
    ·refine cl R hR (λu w h=>he u w (J.eqv h)) (λw hw=>?_) r p' x2 y2 hx2 h1 hy2 (by rw[<-e1];exact hs');simp only[zmC]at hw;rcases hw with rfl|hw
     ·exact hRc R hR (he _ _ (J.one hcc hd hcd))
     ·exact hP w hw
   ·obtain⟨L,h1,h2⟩:=hF2;refine⟨L,h1,λr hr=>?_⟩;rcases(J.root r r).1 hr with⟨h3,rfl⟩|⟨h3,_⟩
    ·exact h2 _ hd
    ·exact h2 r h3
  by_cases hx0:x.sort=0
  ·obtain⟨U,F⟩:=putOne hx hxs rb2.self hpq hx0 (λ_ h=>h) (λ_ _ h=>h) (λ_ h=>h);exact⟨max n1 n2+1,_,λn hn=>by rw[unf n hn,jA hpq,mA hx0],simU U,F⟩
  by_cases hy0:y.sort=0
  ·obtain⟨U,F⟩:=putOne hy hys ra2.self (Ne.symm hpq) hy0 (λ_ h=>h.symm) (λ_ hR h=>hR.symm h) (λ_ h=>h.symm);exact⟨max n1 n2+1,_,λn hn=>by rw[unf n hn,jA hpq,jA hx0,mA hy0],simU U,F⟩
  by_cases hxy:x.sort=y.sort;rotate_left
  ·refine⟨max n1 n2+1,_,λn hn=>by rw[unf n hn,jA hpq,jA hx0,jA hy0,jA hxy],simU ?_,?_⟩
   ·have rt:∀r p',Aw st2 r p'↔Aw {st2 with Ar:=true} r p':=by
     intro r p';constructor<;>(intro h;induction h with|here a b=>exact .here a b|step a b _ c=>exact .step a b c)
    refine⟨⟨f,W2.zbs,W2.range,W2.sort,W2.leaf,λr p' z u hz hr=>W2.Yf r p' z u hz ((rt _ _).2 hr)⟩,rfl,λh=>by simp at h,λr z hz=>⟨z,hz,rfl,rfl,rfl⟩,λ⟨c,h1,h2⟩=>⟨c,(rt _ _).1 h1,(rt _ _).1 h2⟩,λh=>by simp at h,λ{v} s hv=>?_,λ{P} _ h=>by simp at h⟩;exact absurd hv (zio (s.shape p x hx) (s.shape q y hy) (W2.sort p x hx) (W2.sort q y hy) hx0 hy0 hxy)
   ·obtain⟨L,h1,h2⟩:=hF2;refine⟨L,h1,λr hr=>h2 r ?_⟩;obtain⟨z,h3,h4⟩:=hr.root;exact .here h3 h4
  -- both are made
  obtain⟨⟨fj,Wj⟩,J⟩:=join W2 hx hxs rb2.self hpq (λy' hy'=>by rw[hy]at hy';cases hy';exact .inr hxy.symm);have one:=J.one ra2.self rb2.self hpq;have Fj:(B9 st2 p x q).few k:=by
   obtain⟨L,h1,h2⟩:=hF2;refine⟨L.erase p,?_,λr hr=>?_⟩
   ·rw[List.length_erase_of_mem (h2 p ra2.self)];omega
   ·rcases(J.root r r).1 hr with⟨h3,rfl⟩|⟨h3,h4⟩
    ·exact(List.mem_erase_of_ne (Ne.symm hpq)).2 (h2 _ rb2.self)
    ·exact(List.mem_erase_of_ne h4).2 (h2 r h3)
  have rx:=W2.range p x hx;have ry:=W2.range q y hy;obtain⟨n3,st3,h3,U3,F3⟩:=ih (a:=x.left) (b:=y.left) Wj Fj (by rw[J.len];exact rx.2.1) (by rw[J.len];exact ry.2.1);obtain⟨f3,W3⟩:=U3.wf;obtain⟨n4,st4,h4,U4,F4⟩:=ih (a:=x.right) (b:=y.right) W3 F3 (by rw[U3.len,J.len];exact rx.2.2) (by rw[U3.len,J.len];exact ry.2.2);refine⟨max (max n1 n2) (max n3 n4)+1,st4,λn hn=>?_,simU ?_,?_⟩
  ·rw[unf n oM,jA hpq,jA hx0,jA hy0,mA hxy,h3 (n-1) oM];exact h4 (n-1) oM
  ·refine⟨U4.wf,by rw[U4.len,U3.len,J.len],λh=>J.Ar.symm.trans (U3.Ar (U4.Ar h)),λr z hz=>?_,λh=>U4.eqv (U3.eqv (J.eqv h)),λ_=>U4.eqv (U3.eqv one),λ{v} s hv=>?_,λ{P} c h=>?_⟩
   ·obtain⟨z1,hz1,a1,a2,a3⟩:=J.shape r z hz;obtain⟨z2,hz2,b1,b2,b3⟩:=U3.shape r z1 hz1;obtain⟨z3,hz3,c1,c2,c3⟩:=U4.shape r z2 hz2;exact⟨z3,hz3,c1.trans (b1.trans a1),c2.trans (b2.trans a2),c3.trans (b3.trans a3)⟩
   ·have hlr:v x.left=v y.left/\v x.right=v y.right:=by
     by_cases hm:x.sort=3\/x.sort=4
     ·exact zmh (s.shape p x hx) (s.shape q y hy) hxy hv hm
     ·have lx:=W2.leaf p x hx (λh=>hm (.inl h)) (λh=>hm (.inr h));have ly:=W2.leaf q y hy (λh=>hm (.inl (hxy.trans h))) (λh=>hm (.inr (hxy.trans h)));rw[lx.1,lx.2,ly.1,ly.2];exact⟨rfl,rfl⟩
    exact U4.sat (U3.sat (J.sat s hv) hlr.1) hlr.2
   ·refine U4.closed (U3.closed ?_ (U4.Ar h)) h;intro R hR he hP r p' x' y' hx' hr' hy' hs';obtain⟨x2,hx2,e1,e2,e3⟩:=J.back hx';obtain⟨y2,hy2,d1,d2,d3⟩:=J.back hy';rw[e2,e3,d2,d3];have hRl:R x.left y.left:=hP (x.left,y.left) sM;have hRr:R x.right y.right:=hP (x.right,y.right) sM;have key:∀p'' y'',Aw st2 r p''->st2.shs[p'']?=some y''->R x2.left y''.left/\R x2.right y''.right:=λp'' y'' h1 h2=>by
     refine c R hR (λu w h=>he u w (J.eqv h)) (λw hw=>?_) r p'' x2 y'' hx2 h1 h2 (by rw[<-e1];exact hs');simp only[zmC]at hw;rcases hw with rfl|hw
     ·exact he _ _ one
     ·exact hP w (by simp[hw])
    rcases(J.root r p').1 hr' with⟨h1,rfl⟩|⟨h1,_⟩
    ·rw[hy]at hy2;cases hy2;obtain⟨k1,k2⟩:=key p x h1 hx;exact⟨hR.trans k1 hRl,hR.trans k2 hRr⟩
    ·exact key p' y2 h1 hy2
  ·obtain⟨L,h1,h2⟩:=F4;exact⟨L,oM,h2⟩
theorem SS.zr8{st:SS}:st.few st.shs.length:=⟨List.range st.shs.length,sM,λr c=>List.mem_range.2 c.lt.1⟩
theorem Pv{st:SS}(W:st.Wf f)(g:a<st.shs.length)(h:b<st.shs.length):∃c st',(∀n,c<=n->Eg n st a b=some st')/\UOk st st' a b:=by
 obtain⟨c,st',d,e,_⟩:=ziq st.shs.length W SS.zr8 g h;exact⟨c,st',d,e⟩
theorem UOk.sound{st st':SS}(U:UOk st st' a b)(s:st'.sat v):st.sat v/\v a=v b:=by
 have eq:∀ {x y},st'.eqv x y->v x=v y:=λ⟨p,h,i⟩=>(s.root _ _ h).trans (s.root _ _ i).symm;refine⟨⟨U.Ar s.Ar,λr p c=>eq (U.eqv ⟨p,c,c.self⟩),λr x j=>?_⟩,eq (U.one s.Ar)⟩;obtain⟨y,k,d,e,g⟩:=U.shape r x j;exact Sh.Zn d.symm e.symm g.symm (s.shape r y k)
end
end
end Tw
abbrev eA:=@List.length_append
abbrev iA:=@List.getElem?_append_left
abbrev fB:=@List.getElem?_append_right
abbrev wB:=@List.length_singleton
abbrev yB:=@Nat.lt_or_ge
namespace Tw
section
open Go
structure AOk(st st':SS)(x:Sh):Prop where
 wf:∃f,st'.Wf f
 len:st'.shs.length=st.shs.length+1
 Ar:st'.Ar=st.Ar
 old:∀(r:Nat) (y:Sh),st.shs[r]?=some y->st'.shs[r]?=some y
 sat:∀ {v:Nat->Ty},st'.sat v↔st.sat v/\x.says v st.shs.length
 closed:∀ {P},st.Ki P->st'.Ki P
theorem Pl{st:SS}{f:Nat->Nat}(W:st.Wf f){of:Int}{l r:Nat}(Q:of=0\/of=1\/of=2\/of=3\/of=4)(B:l<st.shs.length+1)(F:r<st.shs.length+1)(I:of≠3->of≠4->l=0/\r=0)(o:st.shs.length<=10000000):
  ∃st',Ld of l r st=some (st.shs.length,st')/\AOk st st' ⟨of,l,r,st.shs.length⟩:=by
 refine⟨_,by rw[Ld,mA o],?_⟩;have t:∀(q:Nat) (y:Sh),st.shs[q]?=some y->(st.shs++[(⟨of,l,r,st.shs.length⟩:Sh)])[q]?=some y:=λq y h=>by
  rw[iA (zlE.1 h).1];exact h
 have new:∀(q:Nat) (y:Sh),(st.shs++[(⟨of,l,r,st.shs.length⟩:Sh)])[q]?=some y->st.shs[q]?=some y\/(q=st.shs.length/\y=⟨of,l,r,st.shs.length⟩):=λq y h=>by
  rcases yB q st.shs.length with g|g
  ·rw[iA g]at h;exact .inl h
  ·rw[fB g]at h;have d:=(zlE.1 h).1;simp at d;have:q=st.shs.length:=oM;subst this;simp at h;exact .inr ⟨rfl,h.symm⟩
 have i:(st.shs++[(⟨of,l,r,st.shs.length⟩:Sh)])[st.shs.length]?=some ⟨of,l,r,st.shs.length⟩:=sM;have m:∀q p,Aw st q p->Aw {st with shs:=st.shs++[(⟨of,l,r,st.shs.length⟩:Sh)]} q p:=by
  intro q p h
  induction h with
  |here a d=>exact .here (t _ _ a) d
  |step a d _ ih=>exact .step (t _ _ a) d ih
 have root:∀q p,Aw {st with shs:=st.shs++[(⟨of,l,r,st.shs.length⟩:Sh)]} q p->Aw st q p\/(q=st.shs.length/\p=st.shs.length):=by
  intro q p h;have g:=h.lt.1;simp at g;rcases yB q st.shs.length with a|a
  ·obtain⟨T,C⟩:=W.Ra a
   have:=(m q T C).unique h;subst this;exact .inl C
  ·have:q=st.shs.length:=oM;subst this;exact .inr ⟨rfl,(Aw.here (x:=⟨of,l,r,st.shs.length⟩) i rfl).unique h|>.symm⟩
 refine⟨⟨f,?_,?_,?_,?_,?_⟩,sM,rfl,t,λ{v}=>⟨λs=>⟨⟨s.Ar,λq p h=>s.root q p (m q p h),λq y h=>s.shape q y (t q y h)⟩,s.shape _ _ i⟩,λ⟨s,h⟩=>⟨s.Ar,λq p g=>?_,λq y b=>?_⟩⟩,λ{X} c=>?_⟩
 ·intro q y b o;rcases new q y b with h|⟨h,rfl⟩
  ·exact W.zbs q y h o
  ·exact absurd h.symm o
 ·intro q y b;simp only[eA,wB];rcases new q y b with h|⟨h,rfl⟩
  ·have:=W.range q y h;omega
  ·exact⟨sM,B,F⟩
 ·intro q y b;rcases new q y b with h|⟨h,rfl⟩
  ·exact W.sort q y h
  ·exact Q
 ·intro q y b;rcases new q y b with h|⟨h,rfl⟩
  ·exact W.leaf q y h
  ·exact I
 ·intro q p y z b A n O;rcases root q p A with h|⟨a,d⟩
  ·have g:=h.lt;rcases new q y b with e|⟨e,_⟩
   ·rcases new p z n with j|⟨j,_⟩
    ·exact W.Yf q p y z e h j O
    ·omega
   ·omega
  ·subst a;subst d
   have:=i.symm.trans b;have e:=i.symm.trans n;cases this;cases e;rfl
 ·rcases root q p g with a|⟨a,d⟩
  ·exact s.root q p a
  ·rw[a,d]
 ·rcases new q y b with a|⟨a,rfl⟩
  ·exact s.shape q y a
  ·rw[a];exact h
 ·intro R N w M q p y z b A n S;rcases root q p A with h|⟨a,d⟩
  ·have g:=h.lt;rcases new q y b with e|⟨e,_⟩
   ·rcases new p z n with j|⟨j,_⟩
    ·exact c R N (λG H ⟨k,J,L⟩=>w G H ⟨k,m _ _ J,m _ _ L⟩) M q p y z e h j S
    ·omega
   ·omega
  ·subst a;subst d;have e:=i.symm.trans b;have j:=i.symm.trans n;cases e;cases j;have Ra:∀k,k<st.shs.length+1->∃p,Aw {st with shs:=st.shs++[(⟨of,l,r,st.shs.length⟩:Sh)]} k p:=λk Y=>by
    rcases yB k st.shs.length with a|a
    ·obtain⟨p,P⟩:=W.Ra a;exact⟨p,m _ _ P⟩
    ·have:k=st.shs.length:=oM;subst this;exact⟨_,.here i rfl⟩
   obtain⟨U,D⟩:=Ra l B;obtain⟨V,E⟩:=Ra r F;exact⟨w _ _ ⟨U,D,D⟩,w _ _ ⟨V,E,E⟩⟩
inductive TEn where
 |nil
 |fix (name:List UInt8) (a:Ty) (o:TEn)
 |dfn (name:List UInt8) (t:T) (o:TEn)
def TEn.look:TEn->zU->Option (Ty ⊕ (T×TEn))
 |.nil,_=>none
 |.fix n a o,x=>if n=x then some (.inl a)else o.look x
 |.dfn n t o,x=>if n=x then some (.inr (t,o))else o.look x
mutual
inductive Typ:T->TEn->Ty->Prop
 |name {fr to:Nat} {x:List UInt8} {e:TEn} {a:Ty} (h:e.look x=some (.inl a)):Typ (.name fr to x) e a
 |use {fr to:Nat} {x:List UInt8} {e o:TEn} {t:T} {a:Ty} (h:e.look x=some (.inr (t,o))) (hd:Og t o a):Typ (.name fr to x) e a
 |int {fr to:Nat} {v:Int} {e:TEn}:Typ (.int fr to v) e .int
 |Ak {fr to:Nat} {b:Bool} {e:TEn}:Typ (.Ak fr to b) e .bool
 |side {fr to:Nat} {b:Bool} {e:TEn} {a c:Ty}:Typ (.side fr to b) e (.fn (.pair a c) (if b then c else a))
 |bracket {fr to:Nat} {i:T} {e:TEn} {a:Ty} (h:Typ i e a):Typ (.bracket fr to i) e a
 |pair {fr to:Nat} {l r:T} {e:TEn} {a b:Ty} (hl:Typ l e a) (hr:Typ r e b):Typ (.pair fr to l r) e (.pair a b)
 |call {fr to:Nat} {f x:T} {e:TEn} {a b:Ty} (hf:Typ f e (.fn a b)) (hx:Typ x e a):Typ (.call fr to f x) e b
 |binary {fr to:Nat} {s:Int} {l r:T} {e:TEn} (hl:Typ l e .int) (hr:Typ r e .int):Typ (.binary fr to s l r) e (if s=23\/s=15 then .bool else .int)
 |cond {fr to:Nat} {c t f:T} {e:TEn} {a:Ty} (hc:Typ c e .bool) (ht:Typ t e a) (hf:Typ f e a):Typ (.cond fr to c t f) e a
 |fn {fr to bat:Nat} {bn:List UInt8} {b:T} {e:TEn} {a c:Ty} (h:Typ b (.fix bn a e) c):Typ (.fn fr to bn bat b) e (.fn a c)
 |Am {fr to bat:Nat} {rc:Bool} {bn:List UInt8} {d b:T} {e:TEn} {a c:Ty} (hd:Og (.Am fr to rc bn bat d b) e a) (hb:Typ b (.dfn bn (.Am fr to rc bn bat d b) e) c):Typ (.Am fr to rc bn bat d b) e c
inductive Og:T->TEn->Ty->Prop
 |plain {fr to bat:Nat} {bn:List UInt8} {d b:T} {e:TEn} {a:Ty} (h:Typ d e a):Og (.Am fr to false bn bat d b) e a
 |zon {fr to bat:Nat} {bn:List UInt8} {d b:T} {e:TEn} {a:Ty} (h:Typ d (.fix bn a e) a):Og (.Am fr to true bn bat d b) e a
end
variable{v:Nat->Ty}{x:Sh}{f:Nat->Nat}
def En.val(v:Nat->Ty):En->TEn
 |.nil=>.nil
 |.fix n r o=>.fix n (v r) (o.val v)
 |.dfn n t o=>.dfn n t (o.val v)
theorem En.look_val(v:Nat->Ty)(x:zU):∀e:En,(e.val v).look x=(e.look x).map λ|.inl r=>.inl (v r)|.inr (t,o)=>.inr (t,o.val v)
 |.nil=>rfl
 |.fix n r o=>by
  simp only[En.val,TEn.look,En.look];split
  ·rfl
  ·exact En.look_val v x o
 |.dfn n t o=>by
  simp only[En.val,TEn.look,En.look];split
  ·rfl
  ·exact En.look_val v x o
def En.upto(n:Nat):En->Prop
 |.nil=>True
 |.fix _ r o=>r<n/\o.upto n
 |.dfn _ _ o=>o.upto n
theorem En.upto.mono{n m:Nat}(h:n<=m):∀ {e:En},e.upto n->e.upto m
 |.nil,_=>trivial
 |.fix ..,k=>⟨by have:=k.1;omega,En.upto.mono h k.2⟩
 |.dfn _ _ o,k=>En.upto.mono (e:=o) h k
theorem En.upto.look{n:Nat}{x:zU}:∀ {e:En},e.upto n->(∀r,e.look x=some (.inl r)->r<n)/\∀t o,e.look x=some (.inr (t,o))->o.upto n
 |.nil,_=>⟨λ_ h=>by simp[En.look]at h,λ_ _ h=>by simp[En.look]at h⟩
 |.fix nm r o,k=>by
  have a:=En.upto.look (x:=x) k.2;simp only[En.look];split
  ·exact⟨λ_ h=>(by cases h;exact k.1),λ_ _ h=>(by cases h)⟩
  ·exact a
 |.dfn nm t o,k=>by
  have a:=En.upto.look (x:=x) (e:=o) k;simp only[En.look];split
  ·exact⟨λ_ h=>(by cases h),λ_ _ h=>(by cases h;exact k)⟩
  ·exact a
def I9(n:Nat)(v a:Nat->Ty):Prop:=∀r,r<n->a r=v r
theorem En.Dg{n:Nat}{v a:Nat->Ty}(h:I9 n v a):∀ {e:En},e.upto n->e.val a=e.val v
 |.nil,_=>rfl
 |.fix ..,k=>by simp only[En.val];rw[h _ k.1,En.Dg h k.2]
 |.dfn _ _ o,k=>by simp only[En.val];rw[En.Dg (e:=o) h k]
theorem I9.trans{n m:Nat}{a b c:Nat->Ty}(h:I9 n a b)(k:I9 m b c)(e:n<=m):I9 n a c:=λr d=>(k r oM).trans (h r d)
def SS.base(st:SS):Prop:=(∃x,st.shs[0]?=some x/\x.sort=1)/\∃x,st.shs[1]?=some x/\x.sort=2
theorem SS.base.len{st:SS}(h:st.base):2<=st.shs.length:=by
 obtain⟨_,x,a,_⟩:=h
 have:=(zlE.1 a).1;omega
theorem SS.base.zkm{st:SS}(h:st.base)(s:st.sat v):v 0=.int/\v 1=.bool:=by
 obtain⟨⟨x,a,b⟩,y,c,d⟩:=h;exact⟨(s.shape 0 x a).1 b,(s.shape 1 y c).2.1 d⟩
structure IOk(J:TEn->Ty->Prop)(e:En)(st st':SS)(r k:Nat):Prop where
 wf:∃f,st'.Wf f
 lt:r<st'.shs.length
 low:st.shs.length<=st'.shs.length
 high:st'.shs.length<=st.shs.length+k
 base:st'.base
 Ar:st'.Ar=false->st.Ar=false
 closed:st.Ki []->st'.Ar=false->st'.Ki []
 sound:∀ {v:Nat->Ty},st'.sat v->st.sat v/\J (e.val v) (v r)
 complete:∀ {v:Nat->Ty} {a:Ty},st.sat v->J (e.val v) a->∃v',I9 st.shs.length v v'/\st'.sat v'/\v' r=a
def Cp(run:Nat->SS->Option (Nat×SS))(J:TEn->Ty->Prop)(e:En)(k:Nat):Prop:=
 ∀(a:SS) (f:Nat->Nat),a.Wf f->a.base->e.upto a.shs.length->a.shs.length+k<=10000000->∃c r b,(∀n,c<=n->run n a=some (r,b))/\IOk J e a b r k
theorem Cp.mono{run:Nat->SS->Option (Nat×SS)}{J:TEn->Ty->Prop}{e:En}{k k':Nat}(h:Cp run J e k)(l:k<=k'):Cp run J e k':=λi f W b d m=>by
 obtain⟨g,r,j,c,a⟩:=h i f W b d oM;exact⟨g,r,j,c,{a with high:=by have:=a.high;omega}⟩
theorem AOk.base{st st':SS}(h:AOk st st' x)(b:st.base):st'.base:=by
 obtain⟨⟨x,a,c⟩,y,d,e⟩:=b;exact⟨⟨x,h.old _ _ a,c⟩,y,h.old _ _ d,e⟩
theorem UOk.base{st st':SS}{a b:Nat}(h:UOk st st' a b)(k:st.base):st'.base:=by
 obtain⟨⟨x,i,j⟩,y,l,m⟩:=k;obtain⟨n,c,d,_⟩:=h.shape _ _ i;obtain⟨o,e,g,_⟩:=h.shape _ _ l;exact⟨⟨n,c,d.trans j⟩,o,e,g.trans m⟩
theorem SS.Ki.more{st:SS}{P Q:List (Nat×Nat)}(h:st.Ki P)(e:∀q∈P,q∈Q):st.Ki Q:=λR b c a=>h R b c (λq d=>a q (e q d))
def upd(v:Nat->Ty)(r:Nat)(a:Ty):Nat->Ty:=λq=>if q=r then a else v q
theorem Kq(v:Nat->Ty)(n:Nat)(a:Ty):I9 n v (upd v n a):=λr b=>by unfold upd;rw[jA oM]
theorem SS.sat.agree{st:SS}(W:st.Wf f){c:Nat->Ty}(s:st.sat v)(h:I9 st.shs.length v c):st.sat c:=by
 refine⟨s.Ar,λr p a=>?_,λr x b=>?_⟩
 ·rw[h r a.lt.1,h p a.lt.2];exact s.root r p a
 ·have a:=(zlE.1 b).1;obtain⟨_,d,e⟩:=W.range r x b
  have:=s.shape r x b;unfold Sh.says at this ⊢;rw[h r a,h _ d,h _ e];exact this
theorem AOk.put{st st':SS}(A:AOk st st' x)(W:st.Wf f)(s:st.sat v){a:Ty}(h:x.says (upd v st.shs.length a) st.shs.length):∃b,I9 st.shs.length v b/\st'.sat b/\b st.shs.length=a:=
 ⟨upd v st.shs.length a,Kq _ _ _,A.sat.2 ⟨s.agree W (Kq _ _ _),h⟩,by simp[upd]⟩
end
end Tw
end Go.Proofs.YtckhafpejefbbaaGreatDoor
