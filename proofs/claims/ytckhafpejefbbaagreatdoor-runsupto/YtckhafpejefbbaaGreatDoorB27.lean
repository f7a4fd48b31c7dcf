import Derived.Test.YtckhafpejefbbaaGreatDoorB26

set_option maxRecDepth 100000
set_option maxHeartbeats 16000000
namespace Go.Proofs.YtckhafpejefbbaaGreatDoor
abbrev gD:=@List.getElem?_eq_none
section
open Tw Tw.Rf Go.Proofs.Tryz
open Go.RowKit
section
def Pe(x:RN):List Value:=[.int .u8 x.sort,.int .i64 x.a,.int .i64 x.b,.int .i64 x.c,.int .i64 x.first,.int .i64 x.last,.int .i64 x.name,.int .i64 x.binder,.bool false]
def Fo:List RN->List Value
 |[]=>[]
 |x::l=>Pe x++Fo l
theorem Uj(a b:List RN):Fo (a++b)=Fo a++Fo b:=by
 induction a with
 |nil=>rfl
 |cons t a ih=>simp[Fo,ih]
theorem zcg(a:List RN):(Fo a).length=a.length*9:=by
 induction a with
 |nil=>rfl
 |cons t a ih=>simp[Fo,Pe,ih];omega
structure Dm(w:World)(B br bt:Nat)(s:ByteArray)(body:List Tw.Tok)(st:PS)(N:List RN)(tv nv:Value)(i:Nat)(er root:Int):Prop where
 read:w.heap[br]?=some (.cells #[.pointer (some ⟨bt,0,none⟩),.int .i64 i,.int .i64 st.depth] 270 (0,0))
 tree:w.heap[bt]?=some (.cells #[.string s,tv,nv,.int .i64 root,.int .i64 er] 102 (0,0))
 Eh:w.ownsRow 0 273 3 tv body.length (Dk s.data.toList body)
 nodes:w.ownsRow B 276 9 nv N.length (Fo N)
 low:B<=br/\B<=bt
 E7:st.stuck=false->i=st.next/\er = -1
 bad:st.stuck=true->∃(j:Nat) (t:Tw.Tok),er=j/\(body++[⟨0,s.size,s.size⟩])[j]?=some t/\t.fr=st.fault
 many:body.length<=300
 ile:i<=body.length
 dep:st.depth<=301
 zhv:st.stuck=false->st.depth<=40
section
variable {w:World}{B br bt:Nat}{s:ByteArray}{body:List Tw.Tok}{st:Tw.PS}{N:List Tw.Rf.RN}{tv nv:Value}{i:Nat}{er root:Int}
theorem Dm.cells(h:Dm w B br bt s body st N tv nv i er root):w.cell? (aD br 0)=some (pT bt)/\w.cell? (aD br 1)=some (vI i)/\w.cell? (aD br 2)=some (vI st.depth)/\w.cell? (aD bt 0)=some (.string s)/\w.cell? (aD bt 1)=some tv/\w.cell? (aD bt 2)=some nv/\w.cell? (aD bt 4)=some (vI er):=by
 refine⟨?_,?_,?_,?_,?_,?_,?_⟩
 ·rw[mB _ _ _ _ _ _ h.read];rfl
 ·rw[mB _ _ _ _ _ _ h.read];rfl
 ·rw[mB _ _ _ _ _ _ h.read];rfl
 ·rw[mB _ _ _ _ _ _ h.tree];rfl
 ·rw[mB _ _ _ _ _ _ h.tree];rfl
 ·rw[mB _ _ _ _ _ _ h.tree];rfl
 ·rw[mB _ _ _ _ _ _ h.tree];rfl
theorem Hr{w:World}{tv:Value}{l:zU}{body:List Tw.Tok}(h:w.ownsRow 0 273 3 tv body.length (Dk l body)):(∃p c,tv=.slice p body.length c)/\∀(j:Nat) (t:Tw.Tok),body[j]?=some t->∃g cap,tv=sL g body.length cap/\w.cell? (aD g (j*3))=some (.string ⟨(Bv l t.fr t.to).toArray⟩)/\w.cell? (aD g (j*3+1))=some (vU (Pd t.sort))/\w.cell? (aD g (j*3+2))=some (vI t.fr):=by
 refine⟨?_,λj t b=>?_⟩
 ·rcases h.2 with⟨e,a⟩|⟨g,cap,k,e,_⟩
  ·exact⟨_,_,by rw[e,a]⟩
  ·exact⟨_,_,e⟩
 ·have m:=(zlE.1 b).1;rcases h.2 with⟨_,a⟩|⟨g,cap,k,e,_⟩
  ·omega
  ·have⟨d,f,c⟩:=zjz l body j t b;rw[e]at h;exact⟨g,cap,e,(h.cellAt _ oM).trans d,(h.cellAt _ oM).trans f,(h.cellAt _ oM).trans c⟩
def Tw.Rf.atT(l:zU)(body:List Tw.Tok)(i:Nat):zU:=match body[i]? with|some t=>Bv l t.fr t.to|none=>[]
def Tw.Rf.atK(body:List Tw.Tok)(i:Nat):Nat:=match body[i]? with|some t=>Pd t.sort|none=>0
theorem Cq(h:Dm w B br bt s body st N tv nv i er root):
  Calls prog 190 #[pT br] w λe w'=>e=.returned (ug (atT s.data.toList body i))/\zG w w':=by
 have⟨c,d,_,_,f,_,_⟩:=h.cells;obtain⟨⟨p,F,rfl⟩,A⟩:=Hr h.Eh;by_cases D:i<body.length
 ·obtain⟨t,z⟩:∃t,body[i]?=some t:=⟨_,fA D⟩;have⟨G,E,e,n,o,_⟩:=A i t z;cases e;have q:atT s.data.toList body i=Bv s.data.toList t.fr t.to:=by show _=_;unfold atT;rw[z]
  have C:(i:Int)<(body.length:Int):=oM;go_in;go_wp21;go_quiet (fail);obtain⟨b,m⟩:∃b,w.drewN nq=b:=⟨_,rfl⟩;have a:zG w b:=by rw[<-m];exact Cc _ _
  have j:=cell_kept c a sM;have k:=cell_kept d a sM;have l:=cell_kept f a sM;have v:=cell_kept n a sM;have x:=cell_kept o a sM;rw[m];have c:=j;have d:=k;have f:=l;have n:=v;have o:=x;go_wp21;go_quiet (fail);obtain⟨r,y⟩:∃r,b.drewN nq=r:=⟨_,rfl⟩;have g:zG b r:=by rw[<-y];exact Cc _ _
  have j:=cell_kept c g sM;have k:=cell_kept d g sM;have l:=cell_kept f g sM;have v:=cell_kept n g sM;have x:=cell_kept o g sM;rw[y];have c:=j;have d:=k;have f:=l;have n:=v;have o:=x;go_wp21;go_ret;go_light;exact⟨by rw[q];rfl,Ab a g⟩
 ·have q:atT s.data.toList body i=[]:=by show _=_;unfold atT;rw[gD oM]
  have C:¬(i:Int)<(body.length:Int):=oM;go_in;go_wp21;go_quiet (fail);obtain⟨b,m⟩:∃b,w.drewN nq=b:=⟨_,rfl⟩;have a:zG w b:=by rw[<-m];exact Cc _ _
  have j:=cell_kept c a sM;have k:=cell_kept d a sM;have l:=cell_kept f a sM;rw[m];have c:=j;have d:=k;have f:=l;go_wp21;go_ret;go_light;exact⟨by rw[q];rfl,a⟩
theorem Du(h:Dm w B br bt s body st N tv nv i er root):
  Calls prog 214 #[pT br] w λe w'=>e=.returned (vU (atK body i))/\zG w w':=by
 have⟨c,d,_,_,f,_,_⟩:=h.cells;obtain⟨⟨p,F,rfl⟩,A⟩:=Hr h.Eh;by_cases D:i<body.length
 ·obtain⟨t,z⟩:∃t,body[i]?=some t:=⟨_,fA D⟩;have⟨G,E,e,n,o,_⟩:=A i t z;cases e;have q:atK body i=Pd t.sort:=by show _=_;unfold atK;rw[z]
  have C:(i:Int)<(body.length:Int):=oM;go_in;go_wp21;go_quiet (fail);obtain⟨b,m⟩:∃b,w.drewN nq=b:=⟨_,rfl⟩;have a:zG w b:=by rw[<-m];exact Cc _ _
  have j:=cell_kept c a sM;have k:=cell_kept d a sM;have l:=cell_kept f a sM;have v:=cell_kept n a sM;have x:=cell_kept o a sM;rw[m];have c:=j;have d:=k;have f:=l;have n:=v;have o:=x;go_wp21;go_quiet (fail);obtain⟨r,y⟩:∃r,b.drewN nq=r:=⟨_,rfl⟩;have g:zG b r:=by rw[<-y];exact Cc _ _
  have j:=cell_kept c g sM;have k:=cell_kept d g sM;have l:=cell_kept f g sM;have v:=cell_kept n g sM;have x:=cell_kept o g sM;rw[y];have c:=j;have d:=k;have f:=l;have n:=v;have o:=x;go_wp21;go_ret;go_light;exact⟨by rw[q];rfl,Ab a g⟩
 ·have q:atK body i=0:=by show _=_;unfold atK;rw[gD oM]
  have C:¬(i:Int)<(body.length:Int):=oM;go_in;go_wp21;go_quiet (fail);obtain⟨b,m⟩:∃b,w.drewN nq=b:=⟨_,rfl⟩;have a:zG w b:=by rw[<-m];exact Cc _ _
  have j:=cell_kept c a sM;have k:=cell_kept d a sM;have l:=cell_kept f a sM;rw[m];have c:=j;have d:=k;have f:=l;go_wp21;go_ret;go_light;exact⟨by rw[q];rfl,a⟩
end
end
section
variable{w a b:World}{j br bt:Nat}{v v':Value}
theorem Bu{b:Nat}{c:Array Value}{t:TypeId}{m:Nat×Nat}(h:w.heap[b]?=some (.cells c t m))(v:Value):(w.setCell (aD b j) v).heap[b]?=some (.cells (c.setIfInBounds j v) t m):=by
 unfold World.setCell;simp only;rw[Array.getElem?_modify,mA rfl,h];rfl
structure RK(br bt:Nat)(v:Value)(w w':World):Prop where
 os:w'.os=w.os
 tape:w'.tape=w.tape
 output:w'.output=w.output
 size:w.heap.size<=w'.heap.size
 block:∀k,k<w.heap.size->k≠br->k≠bt->some k≠v.ownBlock->w'.heap[k]?=w.heap[k]?
theorem RK.refl(br bt:Nat)(v:Value)(w:World):RK br bt v w w:=⟨rfl,rfl,rfl,znL _,λ_ _ _ _ _=>rfl⟩
theorem RK.Ae(br bt:Nat)(v:Value){w':World}(h:zG w w'):RK br bt v w w':=⟨h.os,h.tape,h.output,h.size,λk d _ _ _=>h.block k d sM⟩
def Own(w:World)(v v':Value):Prop:=∀k,v'.ownBlock=some k->v.ownBlock=some k\/w.heap.size<=k
theorem Own.refl(w:World)(v:Value):Own w v v:=λ_ h=>.inl h
theorem Own.trans{u:Value}(h:Own a v v')(k:Own b v' u)(f:a.heap.size<=b.heap.size):Own a v u:=λj d=>
 (k j d).elim (λe=>h j e) (λe=>.inr (kB f e))
theorem RK.trans{c:World}(h:RK br bt v a b)(k:RK br bt v' b c)(m:Own a v v'):RK br bt v a c:=
 ⟨k.os.trans h.os,k.tape.trans h.tape,k.output.trans h.output,kB h.size k.size,λi l d f g=>
  (k.block i (aB l h.size) d f (λe=>(m i e.symm).elim (λe=>g e.symm) (λe=>oM))).trans (h.block i l d f g)⟩
theorem RK.zkt(h:RK br bt v a w)(u:Value):RK br bt v a (w.setCell (aD br j) u):=
 ⟨h.os,h.tape,h.output,by simpa using h.size,λk g d e f=>(aA w (aD br j) k u (by simpa using d)).trans (h.block k g d e f)⟩
theorem RK.zoo(h:RK br bt v a w)(u:Value):RK br bt v a (w.setCell (aD bt j) u):=
 ⟨h.os,h.tape,h.output,by simpa using h.size,λk g e d f=>(aA w (aD bt j) k u (by simpa using d)).trans (h.block k g e d f)⟩
theorem Ai{X Y:World}{B:Nat}{e:TypeId}{size:Nat}{k:Nat}{f:List Value}(h:X.ownsRow B e size v k f)(p:∀(g:Nat) (c:Array Value),zH X g c e->zH Y g c e):Y.ownsRow B e size v k f:=by
 refine⟨h.1,?_⟩;rcases h.2 with h|⟨g,l,d,m,o,n,r⟩
 ·exact .inl h
 ·exact .inr ⟨g,l,d,m,o,p g d n,r⟩
section
variable {w:World}{B br bt:Nat}{s:ByteArray}{body:List Tw.Tok}{st:Tw.PS}{N:List Tw.Rf.RN}{tv nv:Value}{i:Nat}{er root:Int}
variable{st':Tw.PS}{t:Tw.Tok}{body:List Tw.Tok}{i:Nat}{c:Int}{r:Tw.Tok×Tw.PS}
abbrev Bw(s:ByteArray)(body:List Tw.Tok):List Tw.Tok:=body++[⟨0,s.size,s.size⟩]
theorem Dm.grown{w':World}(h:Dm w B br bt s body st N tv nv i er root)(d:zG w w'):Dm w' B br bt s body st N tv nv i er root:=
 {h with
  read:=zbG d h.read
  tree:=zbG d h.tree
  Eh:=Ai h.Eh λ_ _ e=>zbG d e
  nodes:=Ai h.nodes λ_ _ e=>zbG d e}
theorem Dm.ne(h:Dm w B br bt s body st N tv nv i er root):br≠bt:=by
 rintro rfl
 have:=h.read;rw[h.tree]at this;cases this
theorem Dm.zhx(h:Dm w B br bt s body st N tv nv i er root){i':Nat}(f:st'.depth=st.depth)(l:st'.stuck=false->i'=st'.next/\er = -1)(k:st'.stuck=true->∃(j:Nat) (t:Tw.Tok),er=j/\(Bw s body)[j]?=some t/\t.fr=st'.fault)(hi:i'<=body.length)(n:st'.stuck=false->st.stuck=false):Dm (w.setCell (aD br 1) (vI i')) B br bt s body st' N tv nv i' er root:=by
 have m:=h.ne;refine⟨?_,(aA w (aD br 1) bt _ (by simpa using λe=>m e.symm)).trans h.tree,Ai h.Eh λg c d=>?_,Ai h.nodes λg c d=>?_,h.low,l,k,h.many,hi,by rw[f];exact h.dep,λe=>by rw[f];exact h.zhv (n e)⟩
 ·rw[f];exact Bu h.read _
 ·refine(aA w (aD br 1) g _ ?_).trans d;rintro rfl;have:=h.read;rw[d]at this;cases this
 ·refine(aA w (aD br 1) g _ ?_).trans d;rintro rfl;have:=h.read;rw[d]at this;cases this
theorem Dm.zhu(h:Dm w B br bt s body st N tv nv i er root)(f:st'.stuck=st.stuck)(k:st'.next=st.next)(l:st'.fault=st.fault)(m:st'.depth<=301)(o:st.stuck=false->st'.depth<=40):Dm (w.setCell (aD br 2) (vI st'.depth)) B br bt s body st' N tv nv i er root:=by
 have n:=h.ne;refine⟨Bu h.read _,(aA w (aD br 2) bt _ (by simpa using λe=>n e.symm)).trans h.tree,Ai h.Eh λg c d=>?_,Ai h.nodes λg c d=>?_,h.low,λe=>by rw[k];exact h.E7 (f ▸ e),λe=>by rw[l];exact h.bad (f ▸ e),h.many,h.ile,m,λe=>o (f ▸ e)⟩
 ·refine(aA w (aD br 2) g _ ?_).trans d;rintro rfl;have:=h.read;rw[d]at this;cases this
 ·refine(aA w (aD br 2) g _ ?_).trans d;rintro rfl;have:=h.read;rw[d]at this;cases this
theorem Dm.zws(h:Dm w B br bt s body st N tv nv i er root)(k:st'.depth=st.depth)(f:st'.stuck=true)(n:(Bw s body)[i]?=some t)(l:st'.fault=t.fr):Dm (w.setCell (aD bt 4) (vI i)) B br bt s body st' N tv nv i i root:=by
 have m:=h.ne;refine⟨?_,Bu h.tree _,Ai h.Eh λg c d=>?_,Ai h.nodes λg c d=>?_,h.low,λe=>(by rw[f]at e;cases e),λ_=>⟨i,t,rfl,n,l.symm⟩,h.many,h.ile,by rw[k];exact h.dep,λe=>(by rw[f]at e;cases e)⟩
 ·rw[k];exact(aA w (aD bt 4) br _ (by simpa using m)).trans h.read
 ·refine(aA w (aD bt 4) g _ ?_).trans d;rintro rfl;have:=h.tree;rw[d]at this;cases this
 ·refine(aA w (aD bt 4) g _ ?_).trans d;rintro rfl;have:=h.tree;rw[d]at this;cases this
theorem Dm.frozen(h:Dm w B br bt s body st N tv nv i er root):w.frozen? (aD br 1)=false/\w.frozen? (aD br 2)=false/\w.frozen? (aD bt 4)=false/\w.frozen? (aD bt 2)=false:=
 ⟨eB _ _ _ _ _ h.read,eB _ _ _ _ _ h.read,eB _ _ _ _ _ h.tree,eB _ _ _ _ _ h.tree⟩
def zbi(w:World)(B br bt:Nat)(s:ByteArray)(body:List Tw.Tok)(st':PS)(N:List RN)(tv nv:Value)(i:Nat)(root:Int)(w':World):Prop:=RK br bt nv w w'/\∃d e,i<=d/\Dm w' B br bt s body st' N tv nv d e root
theorem We(h:Dm w B br bt s body st N tv nv i er root)(d:Hj (Bw s body) st=some st'):
  Calls prog 121 #[pT br] w λe w'=>e=.returned (.tuple #[])/\RK br bt nv w w'/\∃m,Dm w' B br bt s body st' N tv nv i m root:=by
 have⟨o,p,_,_,_,_,q⟩:=h.cells;have y:=h.ile;cases f:st.stuck with
 |true=>
  obtain⟨j,t,rfl,_⟩:=h.bad f;have e:st'=st:=by simp[Hj,f]at d;exact d.symm
  subst e;have z:¬(j:Int)<0:=oM;go_in;go_wp21;go_end0;exact⟨rfl,RK.refl _ _ _ _,_,h⟩
 |false=>
  obtain⟨rfl,rfl⟩:=h.E7 f;obtain⟨t,g⟩:∃t,(Bw s body)[st.next]?=some t:=⟨_,fA (by simp;omega)⟩;have e:st'={st with stuck:=true,fault:=t.fr}:=by simp[Hj,Ej,f,g]at d;exact d.symm
  subst e;have⟨_,_,x,_⟩:=h.frozen;have n:=h.grown (Ad (Aa w));have k:=n.zws (st':={st with stuck:=true,fault:=t.fr}) rfl rfl g rfl;have l:=(RK.Ae br bt nv (Ad (Aa w))).zoo (j:=4) (vI st.next);go_in;go_wp21;go_region;go_wp21;go_end0;exact⟨rfl,l,_,k⟩
theorem Ib{l:zU}(e:Lex 0 l body)(d:body[i]?=some t)(f:3<=c/\c<=23):atT l body i=Eo c↔t.sort=c:=by
 have:=znt e t (dD d);rw[Nat.sub_zero,Nat.sub_zero]at this;unfold atT;rw[d];exact this.iff f
theorem zgx(d:3<=c/\c<=23):Eo c ≠ []:=by
 rcases Nv d with rfl|rfl|rfl|rfl|rfl|rfl|rfl|rfl|rfl|rfl|rfl|rfl|rfl|rfl|rfl|rfl|rfl|rfl|rfl|rfl|rfl<;>decide
theorem zsu(D:Lex 0 s.data.toList body)(h:Dm w B br bt s body st N tv nv i er root)(q:3<=c/\c<=23)(k:Tw.Bg (Bw s body) c st=some r):
  Calls prog 192 #[pT br,ug (Eo c)] w λe w'=>e=.returned (.tuple #[])/\zbi w B br bt s body r.2 N tv nv i root w':=by
 have C:Rf.Ends (Bw s body):=⟨⟨0,s.size,s.size⟩,sM,rfl⟩;have Q:=h.many;have P:=h.ile;by_cases m:atT s.data.toList body i=Eo c
 ·have H:(atT s.data.toList body i != Eo c)=false:=by simpa using m
  cases d:st.stuck with
  |true=>
   have e:=zaz C d oM k;rw[e];have n:=Cq h;obtain⟨j,t,rfl,_⟩:=h.bad d;go_in;go_wp21;go_call n as e1 w1 ⟨rfl,hg⟩;have l:=h.grown hg;have⟨x,y,_,_,_,_,z⟩:=l.cells;rw[m];go_wp21;go_end0;exact⟨rfl,RK.Ae _ _ _ hg,i,_,znL _,l⟩
  |false=>
   obtain⟨rfl,rfl⟩:=h.E7 d;have F:st.next<body.length:=by
    rcases yB st.next body.length with g|g
    ·exact g
    ·have:=m;unfold atT at this;rw[gD g]at this;exact absurd this.symm (zgx q)
   obtain⟨t,f⟩:∃t,body[st.next]?=some t:=⟨_,fA F⟩;have J:=(Ib D f q).1 m;have M:(Bw s body)[st.next]?=some t:=(by rw[iA F];exact f);have e:r.2={st with next:=st.next+1}:=by
    unfold Tw.Bg Ej at k;rw[d]at k;simp only[xA,if_false,M,zbS,mA J,jA (show¬c=0 by omega),mA (show st.next<=300 by omega),zsI]at k;rw[<-k];simp[d]
   rw[e];have n:=Cq h;go_in;go_wp21;go_call n as e1 w1 ⟨rfl,hg⟩;have l:=h.grown hg;have⟨x,y,_,_,_,_,z⟩:=l.cells;have⟨O,_,_,_⟩:=l.frozen;have G:=l.zhx (st':={st with next:=st.next+1}) (i':=st.next+1) rfl (λ_=>⟨rfl,rfl⟩) (λe=>(by rw[d]at e;cases e)) oM (λ_=>d);have p:=(RK.Ae br bt nv hg).zkt (j:=1) (vI ((st.next+1:Nat):Int));rw[m];go_wp21;go_end0;refine⟨rfl,?_⟩;go_light;exact⟨p,st.next+1,_,oM,G⟩
 ·have H:(atT s.data.toList body i==Eo c)=false:=by simpa using m
  have E:Hj (Bw s body) st=some r.2:=by
   unfold Tw.Bg at k;have⟨t,f,k⟩:=zbE.1 k;have I:¬t.sort=c:=by
    intro e;cases d:st.stuck with
    |true=>
     have⟨S,g,A⟩:=Hq C d;rw[g]at f;cases f;omega
    |false=>
     obtain⟨rfl,rfl⟩:=h.E7 d;simp only[Ej,d,xA,if_false]at f;rcases yB st.next body.length with g|g
     ·rw[iA g]at f;exact m ((Ib D f q).2 e)
     ·have o:st.next=body.length:=oM;rw[o]at f;simp at f;rw[<-f]at e;simp at e;omega
   rw[jA I]at k;have⟨R,g,A⟩:=zbE.1 k;cases A;exact g
  have L:=(Dz E).1;have n:=Cq h;go_in;go_wp21;go_call n as e1 w1 ⟨rfl,hg⟩;have l:=h.grown hg;simp only[ug];go_wp21;go_call We l E as e1 w2 ⟨rfl,hk,er2,o⟩;have p:=(RK.Ae br bt nv hg).trans hk (Own.refl _ _);obtain⟨j,t,rfl,_⟩:=o.bad L;have⟨x,y,_,_,_,_,z⟩:=o.cells;go_wp21;go_end0;exact⟨rfl,p,i,_,znL _,o⟩
theorem zlc(d:body[i]?=some t):atK body i=110↔t.sort=1:=by
 unfold atK Pd;rw[d];simp only;split
 ·simp[*]
 ·rename_i h;simp[h,iff_false];split
  ·decide
  ·split<;>decide
theorem zld(h:Dm w B br bt s body st N tv nv i er root)(k:Tw.Bg (Bw s body) 1 st=some r):
  Calls prog 193 #[pT br] w λe w'=>e=.returned (vI i)/\zbi w B br bt s body r.2 N tv nv i root w':=by
 have A:Rf.Ends (Bw s body):=⟨⟨0,s.size,s.size⟩,sM,rfl⟩;have O:=h.many;have M:=h.ile;by_cases o:atK body i=110
 ·have F:((atK body i:Int)==110)=true:=by rw[o];rfl
  cases d:st.stuck with
  |true=>
   have e:=zaz A d oM k;rw[e];have m:=Du h;obtain⟨j,t,rfl,_⟩:=h.bad d;go_in;go_wp21;go_call m as e1 w1 ⟨rfl,hg⟩;have l:=h.grown hg;have⟨q,x,_,_,_,_,y⟩:=l.cells;go_wp21;go_ret;exact⟨rfl,RK.Ae _ _ _ hg,i,_,znL _,l⟩
  |false=>
   obtain⟨rfl,rfl⟩:=h.E7 d;have D:st.next<body.length:=by
    rcases yB st.next body.length with g|g
    ·exact g
    ·have:=o;unfold atK at this;rw[gD g]at this;cases this
   obtain⟨t,f⟩:∃t,body[st.next]?=some t:=⟨_,fA D⟩;have H:=(zlc f).1 o;have J:(Bw s body)[st.next]?=some t:=(by rw[iA D];exact f);have e:r.2={st with next:=st.next+1}:=by
    unfold Tw.Bg Ej at k;rw[d]at k;simp only[xA,if_false,J,zbS,mA H,jA (show¬(1:Int)=0 by omega),mA (show st.next<=300 by omega),zsI]at k;rw[<-k];simp[d]
   rw[e];have m:=Du h;go_in;go_wp21;go_call m as e1 w1 ⟨rfl,hg⟩;have l:=h.grown hg;have⟨q,x,_,_,_,_,y⟩:=l.cells;have⟨L,_,_,_⟩:=l.frozen;have E:=l.zhx (st':={st with next:=st.next+1}) (i':=st.next+1) rfl (λ_=>⟨rfl,rfl⟩) (λe=>(by rw[d]at e;cases e)) oM (λ_=>d);have p:=(RK.Ae br bt nv hg).zkt (j:=1) (vI ((st.next+1:Nat):Int));go_wp21;go_ret;refine⟨rfl,?_⟩;go_light;exact⟨p,st.next+1,_,oM,E⟩
 ·have F:((atK body i:Int)==110)=false:=by simp;omega
  have C:Hj (Bw s body) st=some r.2:=by
   unfold Tw.Bg at k;have⟨t,f,k⟩:=zbE.1 k;have G:¬t.sort=1:=by
    intro e;cases d:st.stuck with
    |true=>
     have⟨Q,g,z⟩:=Hq A d;rw[g]at f;cases f;omega
    |false=>
     obtain⟨rfl,rfl⟩:=h.E7 d;simp only[Ej,d,xA,if_false]at f;rcases yB st.next body.length with g|g
     ·rw[iA g]at f;exact o ((zlc f).2 e)
     ·have n:st.next=body.length:=oM;rw[n]at f;simp at f;rw[<-f]at e;simp at e
   rw[jA G]at k;have⟨P,g,z⟩:=zbE.1 k;cases z;exact g
  have I:=(Dz C).1;have m:=Du h;go_in;go_wp21;go_call m as e1 w1 ⟨rfl,hg⟩;have l:=h.grown hg;go_wp21;go_call We l C as e1 w2 ⟨rfl,hk,er2,n⟩;have p:=(RK.Ae br bt nv hg).trans hk (Own.refl _ _);obtain⟨j,t,rfl,_⟩:=n.bad I;have⟨q,x,_,_,_,_,y⟩:=n.cells;go_wp21;go_ret;exact⟨rfl,p,i,_,znL _,n⟩
theorem Wg(h:Dm w B br bt s body st N tv nv i er root)(n:st.stuck=false){d:PS}(f:(if st.depth=40 then Hj (Bw s body) st else some st)=some d):
  Calls prog 191 #[pT br] w λe w'=>e=.returned (.tuple #[])/\zbi w B br bt s body {d with depth:=d.depth+1} N tv nv i root w':=by
 have⟨o,p,m,_,_,_,q⟩:=h.cells;have z:=h.zhv n;clear n;by_cases l:st.depth=40
 ·rw[mA l]at f;rw[l]at m;have y:=Dz f;go_in;go_wp21;go_call We h f as e1 w2 ⟨rfl,hk,er2,hx⟩;have⟨o,p,m,_,_,_,q⟩:=hx.cells;have⟨_,x,_,_⟩:=hx.frozen;have g:=hx.zhu (st':={d with depth:=d.depth+1}) rfl rfl rfl (by simp only;omega) (λe=>(by rw[y.1]at e;cases e));have k:=hk.zkt (j:=2) (vI ((d.depth+1:Nat):Int));rw[show((d.depth+1:Nat):Int)=41 by omega]at k;simp[show((d.depth+1:Nat):Int)=41 by omega]at g;clear hk hx h;go_wp21;go_end0;refine⟨rfl,?_⟩;go_light;exact⟨k,i,_,znL _,g⟩
 ·rw[jA l]at f;cases f;have A:¬(40:Int)<=(st.depth:Int):=oM;have⟨_,x,_,_⟩:=h.frozen;have g:=h.zhu (st':={st with depth:=st.depth+1}) rfl rfl rfl (by simp only;omega) (λ_=>by simp only;omega);have k:=(RK.refl br bt nv w).zkt (j:=2) (vI ((st.depth+1:Nat):Int));clear h;go_in;go_wp21;go_end0;refine⟨rfl,?_⟩;go_light;exact⟨k,i,_,znL _,g⟩
end
end
end
section
open Go Go.RowKit
theorem Ga{P:Program}{d:Nat}{Q:Exit->Act->World->Prop}{a:Act}{w:World}{l:List Oper}(S:World->Prop)(c:P.follows .mixedOrders=true)(b:S w.drew)
  (h:S w.drew->wpAnyH P .any l.toArray (Zd Q) S l.toArray.size (Array.replicate l.toArray.size false) a w.drew):(Code.region d l.toArray true).wp P Q a w:=
 wp_mono (Q:=Zd Q) (wp_region_any c (wpAny_of_held (S:=S) _ _ _ _ (h b))) (by rintro e a w ⟨rfl,h⟩;exact h)
end
end Go.Proofs.YtckhafpejefbbaaGreatDoor
