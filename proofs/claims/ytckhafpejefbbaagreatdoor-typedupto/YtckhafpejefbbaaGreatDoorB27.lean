import Derived.Test.YtckhafpejefbbaaGreatDoorB26
import Derived.Deep.QuietTactic

set_option maxRecDepth 100000
set_option maxHeartbeats 16000000
namespace Go.Proofs.YtckhafpejefbbaaGreatDoor
section
open Tw Tw.Rf Go.Proofs.Tryz
open Go.RowKit
def Ll(x:RN):List Value:=[.int .u8 x.sort,.int .i64 x.a,.int .i64 x.b,.int .i64 x.c,.int .i64 x.first,.int .i64 x.last,.int .i64 x.name,.int .i64 x.binder,.bool false]
def Eg:List RN->List Value
 |[]=>[]
 |x::l=>Ll x++Eg l
theorem Qj(a b:List RN):Eg (a++b)=Eg a++Eg b:=by
 induction a with
 |nil=>rfl
 |cons t a ih=>simp[Eg,ih]
theorem X0(a:List RN):(Eg a).length=a.length*9:=by
 induction a with
 |nil=>rfl
 |cons t a ih=>simp[Eg,Ll,ih];omega
structure RCtx(w:World)(B br bt:Nat)(s:ByteArray)(body:List Tw.Tok)(st:PS)(N:List RN)(tv nv:Value)(i:Nat)(er root:Int):Prop where
 read:w.heap[br]?=some (.cells #[.pointer (some ⟨bt,0,none⟩),.int .i64 i,.int .i64 st.depth] 270 (0,0))
 tree:w.heap[bt]?=some (.cells #[.string s,tv,nv,.int .i64 root,.int .i64 er] 102 (0,0))
 toks:w.ownsRow 0 273 3 tv body.length (Cw s.data.toList body)
 nodes:w.ownsRow B 276 9 nv N.length (Eg N)
 low:B<=br/\B<=bt
 good:st.stuck=false->i=st.next/\er = -1
 bad:st.stuck=true->∃(j:Nat) (t:Tw.Tok),er=j/\(body++[⟨0,s.size,s.size⟩])[j]?=some t/\t.fr=st.fault
 many:body.length<=300
 ile:i<=body.length
 dep:st.depth<=301
 dep40:st.stuck=false->st.depth<=40
section
variable {w:World}{B br bt:Nat}{s:ByteArray}{body:List Tw.Tok}{st:Tw.PS}{N:List Tw.Rf.RN}{tv nv:Value}{i:Nat}{er root:Int}
theorem RCtx.cells(h:RCtx w B br bt s body st N tv nv i er root):w.cell? (aD br 0)=some (pT bt)/\w.cell? (aD br 1)=some (vI i)/\w.cell? (aD br 2)=some (vI st.depth)/\w.cell? (aD bt 0)=some (.string s)/\w.cell? (aD bt 1)=some tv/\w.cell? (aD bt 2)=some nv/\w.cell? (aD bt 4)=some (vI er):=by
 refine⟨?_,?_,?_,?_,?_,?_,?_⟩
 ·rw[mB _ _ _ _ _ _ h.read];rfl
 ·rw[mB _ _ _ _ _ _ h.read];rfl
 ·rw[mB _ _ _ _ _ _ h.read];rfl
 ·rw[mB _ _ _ _ _ _ h.tree];rfl
 ·rw[mB _ _ _ _ _ _ h.tree];rfl
 ·rw[mB _ _ _ _ _ _ h.tree];rfl
 ·rw[mB _ _ _ _ _ _ h.tree];rfl
theorem Gm{w:World}{tv:Value}{l:List UInt8}{body:List Tw.Tok}(h:w.ownsRow 0 273 3 tv body.length (Cw l body)):(∃p c,tv=.slice p body.length c)/\∀(j:Nat) (t:Tw.Tok),body[j]?=some t->∃g cap,tv=sL g body.length cap/\w.cell? (aD g (j*3))=some (.string ⟨(Bf l t.fr t.to).toArray⟩)/\w.cell? (aD g (j*3+1))=some (vU (Lj t.sort))/\w.cell? (aD g (j*3+2))=some (vI t.fr):=by
 refine⟨?_,λj t b=>?_⟩
 ·rcases h.2 with⟨e,a⟩|⟨g,cap,k,e,_⟩
  ·exact⟨_,_,by rw[e,a]⟩
  ·exact⟨_,_,e⟩
 ·have m:=(zlE.1 b).1;rcases h.2 with⟨_,a⟩|⟨g,cap,k,e,_⟩
  ·omega
  ·obtain⟨d,f,c⟩:=zej l body j t b;rw[e]at h;exact⟨g,cap,e,(h.cellAt _ oM).trans d,(h.cellAt _ oM).trans f,(h.cellAt _ oM).trans c⟩
def Tw.Rf.atT(l:List UInt8)(body:List Tw.Tok)(i:Nat):List UInt8:=match body[i]? with|some t=>Bf l t.fr t.to|none=>[]
def Tw.Rf.atK(body:List Tw.Tok)(i:Nat):Nat:=match body[i]? with|some t=>Lj t.sort|none=>0
theorem Bl(h:RCtx w B br bt s body st N tv nv i er root):
  Calls prog 190 #[pT br] w λe G=>e=.returned (ug (atT s.data.toList body i))/\w.grownBy G none:=by
 obtain⟨c,d,_,_,f,_,_⟩:=h.cells;obtain⟨⟨p,J,rfl⟩,D⟩:=Gm h.toks;have M:=h.many;have H:prog.cellsOf 273=3:=kR;by_cases F:i<body.length
 ·obtain⟨t,A⟩:∃t,body[i]?=some t:=⟨_,fA F⟩;obtain⟨L,I,e,n,o,_⟩:=D i t A;cases e;have r:Hid (atT s.data.toList body i=Bf s.data.toList t.fr t.to):=by show _=_;unfold atT;rw[A]
  have E:(i:Int)<(body.length:Int):=oM
  go_in;go_wp2_with fail;go_quiet (fail);obtain⟨b,m⟩:∃b,w.drewN nq=b:=⟨_,rfl⟩;have a:w.grownBy b none:=by rw[<-m];exact Cm _ _
  have j:=cell_kept c a sM;have k:=cell_kept d a sM;have l:=cell_kept f a sM;have x:=cell_kept n a sM;have y:=cell_kept o a sM;have q:=bV a;rw[m];have c:=j;have d:=k;have f:=l;have n:=x;have o:=y;go_wp2_with fail;go_quiet (fail);obtain⟨v,z⟩:∃v,b.drewN nq=v:=⟨_,rfl⟩;have g:b.grownBy v none:=by rw[<-z];exact Cm _ _
  have j:=cell_kept c g sM;have k:=cell_kept d g sM;have l:=cell_kept f g sM;have x:=cell_kept n g sM;have y:=cell_kept o g sM;have C:=bV g;rw[z];have c:=j;have d:=k;have f:=l;have n:=x;have o:=y;go_wp2_with fail;go_ret;go_light;exact⟨by rw[r.o];rfl,Ab q.o C.o⟩
 ·have r:Hid (atT s.data.toList body i=[]):=by show _=_;unfold atT;rw[gD oM]
  have E:¬(i:Int)<(body.length:Int):=oM
  go_in;go_wp2_with fail;go_quiet (fail);obtain⟨b,m⟩:∃b,w.drewN nq=b:=⟨_,rfl⟩;have a:w.grownBy b none:=by rw[<-m];exact Cm _ _
  have j:=cell_kept c a sM;have k:=cell_kept d a sM;have l:=cell_kept f a sM;have q:=bV a;rw[m];have c:=j;have d:=k;have f:=l;go_wp2_with fail;go_ret;go_light;exact⟨by rw[r.o];rfl,q.o⟩
theorem Db(h:RCtx w B br bt s body st N tv nv i er root):
  Calls prog 214 #[pT br] w λe G=>e=.returned (vU (atK body i))/\w.grownBy G none:=by
 obtain⟨c,d,_,_,f,_,_⟩:=h.cells;obtain⟨⟨p,J,rfl⟩,D⟩:=Gm h.toks;have M:=h.many;have H:prog.cellsOf 273=3:=kR;by_cases F:i<body.length
 ·obtain⟨t,A⟩:∃t,body[i]?=some t:=⟨_,fA F⟩;obtain⟨L,I,e,n,o,_⟩:=D i t A;cases e;have r:Hid (atK body i=Lj t.sort):=by show _=_;unfold atK;rw[A]
  have E:(i:Int)<(body.length:Int):=oM
  go_in;go_wp2_with fail;go_quiet (fail);obtain⟨b,m⟩:∃b,w.drewN nq=b:=⟨_,rfl⟩;have a:w.grownBy b none:=by rw[<-m];exact Cm _ _
  have j:=cell_kept c a sM;have k:=cell_kept d a sM;have l:=cell_kept f a sM;have x:=cell_kept n a sM;have y:=cell_kept o a sM;have q:=bV a;rw[m];have c:=j;have d:=k;have f:=l;have n:=x;have o:=y;go_wp2_with fail;go_quiet (fail);obtain⟨v,z⟩:∃v,b.drewN nq=v:=⟨_,rfl⟩;have g:b.grownBy v none:=by rw[<-z];exact Cm _ _
  have j:=cell_kept c g sM;have k:=cell_kept d g sM;have l:=cell_kept f g sM;have x:=cell_kept n g sM;have y:=cell_kept o g sM;have C:=bV g;rw[z];have c:=j;have d:=k;have f:=l;have n:=x;have o:=y;go_wp2_with fail;go_ret;go_light;exact⟨by rw[r.o];rfl,Ab q.o C.o⟩
 ·have r:Hid (atK body i=0):=by show _=_;unfold atK;rw[gD oM]
  have E:¬(i:Int)<(body.length:Int):=oM
  go_in;go_wp2_with fail;go_quiet (fail);obtain⟨b,m⟩:∃b,w.drewN nq=b:=⟨_,rfl⟩;have a:w.grownBy b none:=by rw[<-m];exact Cm _ _
  have j:=cell_kept c a sM;have k:=cell_kept d a sM;have l:=cell_kept f a sM;have q:=bV a;rw[m];have c:=j;have d:=k;have f:=l;go_wp2_with fail;go_ret;go_light;exact⟨by rw[r.o];rfl,q.o⟩
end
end
section
open Tw Tw.Rf Go.Proofs.Tryz
open Go.RowKit
variable{w a b:World}{j br bt:Nat}{v v':Value}
theorem Bo{b:Nat}{c:Array Value}{t:TypeId}{m:Nat×Nat}(h:w.heap[b]?=some (.cells c t m))(v:Value):(w.setCell (aD b j) v).heap[b]?=some (.cells (c.setIfInBounds j v) t m):=by
 unfold World.setCell;simp only;rw[Array.getElem?_modify,mA rfl,h];rfl
structure RK(br bt:Nat)(v:Value)(w w':World):Prop where
 os:w'.os=w.os
 tape:w'.tape=w.tape
 output:w'.output=w.output
 size:w.heap.size<=w'.heap.size
 block:∀k,k<w.heap.size->k≠br->k≠bt->some k≠v.ownBlock->w'.heap[k]?=w.heap[k]?
theorem RK.refl(br bt:Nat)(v:Value)(w:World):RK br bt v w w:=⟨rfl,rfl,rfl,znL _,λ_ _ _ _ _=>rfl⟩
theorem RK.of_grown(br bt:Nat)(v:Value){d:World}(h:w.grownBy d none):RK br bt v w d:=⟨h.os,h.tape,h.output,h.size,λk e _ _ _=>h.block k e sM⟩
def Own(w:World)(v v':Value):Prop:=∀k,v'.ownBlock=some k->v.ownBlock=some k\/w.heap.size<=k
theorem Own.refl(w:World)(v:Value):Own w v v:=λ_ h=>.inl h
theorem Own.trans{u:Value}(h:Own a v v')(k:Own b v' u)(f:a.heap.size<=b.heap.size):Own a v u:=λj d=>
 (k j d).elim (λe=>h j e) (λe=>.inr (kB f e))
theorem RK.trans{c:World}(h:RK br bt v a b)(k:RK br bt v' b c)(m:Own a v v'):RK br bt v a c:=
 ⟨k.os.trans h.os,k.tape.trans h.tape,k.output.trans h.output,kB h.size k.size,λi l d f g=>
  (k.block i (aB l h.size) d f (λe=>(m i e.symm).elim (λe=>g e.symm) (λe=>oM))).trans (h.block i l d f g)⟩
theorem RK.setR(h:RK br bt v a w)(u:Value):RK br bt v a (w.setCell (aD br j) u):=
 ⟨h.os,h.tape,h.output,by simpa using h.size,λk g d e f=>(aA w (aD br j) k u (by simpa using d)).trans (h.block k g d e f)⟩
theorem RK.setT(h:RK br bt v a w)(u:Value):RK br bt v a (w.setCell (aD bt j) u):=
 ⟨h.os,h.tape,h.output,by simpa using h.size,λk g e d f=>(aA w (aD bt j) k u (by simpa using d)).trans (h.block k g e d f)⟩
theorem Ag{X Y:World}{B:Nat}{e:TypeId}{size:Nat}{k:Nat}{f:List Value}(h:X.ownsRow B e size v k f)(p:∀(g:Nat) (c:Array Value),X.heap[g]?=some (Obj.cells c e (0,0))->Y.heap[g]?=some (Obj.cells c e (0,0))):Y.ownsRow B e size v k f:=by
 refine⟨h.1,?_⟩;rcases h.2 with h|⟨g,l,d,m,o,n,r⟩
 ·exact .inl h
 ·exact .inr ⟨g,l,d,m,o,p g d n,r⟩
section
variable {w:World}{B br bt:Nat}{s:ByteArray}{body:List Tw.Tok}{st:Tw.PS}{N:List Tw.Rf.RN}{tv nv:Value}{i:Nat}{er root:Int}
variable{st':Tw.PS}{t:Tw.Tok}{body:List Tw.Tok}{i:Nat}{c:Int}{r:Tw.Tok×Tw.PS}
abbrev A9(s:ByteArray)(body:List Tw.Tok):List Tw.Tok:=body++[⟨0,s.size,s.size⟩]
theorem RCtx.grown{f:World}(h:RCtx w B br bt s body st N tv nv i er root)(d:w.grownBy f none):RCtx f B br bt s body st N tv nv i er root:=
 {h with
  read:=zbG d h.read
  tree:=zbG d h.tree
  toks:=Ag h.toks λ_ _ e=>zbG d e
  nodes:=Ag h.nodes λ_ _ e=>zbG d e}
theorem RCtx.ne(h:RCtx w B br bt s body st N tv nv i er root):br≠bt:=by
 rintro rfl
 have:=h.read;rw[h.tree]at this;cases this
theorem RCtx.setI(h:RCtx w B br bt s body st N tv nv i er root){i':Nat}(f:st'.depth=st.depth)(l:st'.stuck=false->i'=st'.next/\er = -1)(k:st'.stuck=true->∃(j:Nat) (t:Tw.Tok),er=j/\(A9 s body)[j]?=some t/\t.fr=st'.fault)(hi:i'<=body.length)(n:st'.stuck=false->st.stuck=false):RCtx (w.setCell (aD br 1) (vI i')) B br bt s body st' N tv nv i' er root:=by
 have m:=h.ne;refine⟨?_,(aA w (aD br 1) bt _ (by simpa using λe=>m e.symm)).trans h.tree,Ag h.toks λg c d=>?_,Ag h.nodes λg c d=>?_,h.low,l,k,h.many,hi,by rw[f];exact h.dep,λe=>by rw[f];exact h.dep40 (n e)⟩
 ·rw[f];exact Bo h.read _
 ·refine(aA w (aD br 1) g _ ?_).trans d;rintro rfl;have:=h.read;rw[d]at this;cases this
 ·refine(aA w (aD br 1) g _ ?_).trans d;rintro rfl;have:=h.read;rw[d]at this;cases this
theorem RCtx.setD(h:RCtx w B br bt s body st N tv nv i er root)(f:st'.stuck=st.stuck)(k:st'.next=st.next)(l:st'.fault=st.fault)(m:st'.depth<=301)(o:st.stuck=false->st'.depth<=40):RCtx (w.setCell (aD br 2) (vI st'.depth)) B br bt s body st' N tv nv i er root:=by
 have n:=h.ne;refine⟨Bo h.read _,(aA w (aD br 2) bt _ (by simpa using λe=>n e.symm)).trans h.tree,Ag h.toks λg c d=>?_,Ag h.nodes λg c d=>?_,h.low,λe=>by rw[k];exact h.good (f ▸ e),λe=>by rw[l];exact h.bad (f ▸ e),h.many,h.ile,m,λe=>o (f ▸ e)⟩
 ·refine(aA w (aD br 2) g _ ?_).trans d;rintro rfl;have:=h.read;rw[d]at this;cases this
 ·refine(aA w (aD br 2) g _ ?_).trans d;rintro rfl;have:=h.read;rw[d]at this;cases this
theorem RCtx.setE(h:RCtx w B br bt s body st N tv nv i er root)(k:st'.depth=st.depth)(f:st'.stuck=true)(n:(A9 s body)[i]?=some t)(l:st'.fault=t.fr):RCtx (w.setCell (aD bt 4) (vI i)) B br bt s body st' N tv nv i i root:=by
 have m:=h.ne;refine⟨?_,Bo h.tree _,Ag h.toks λg c d=>?_,Ag h.nodes λg c d=>?_,h.low,λe=>(by rw[f]at e;cases e),λ_=>⟨i,t,rfl,n,l.symm⟩,h.many,h.ile,by rw[k];exact h.dep,λe=>(by rw[f]at e;cases e)⟩
 ·rw[k];exact(aA w (aD bt 4) br _ (by simpa using m)).trans h.read
 ·refine(aA w (aD bt 4) g _ ?_).trans d;rintro rfl;have:=h.tree;rw[d]at this;cases this
 ·refine(aA w (aD bt 4) g _ ?_).trans d;rintro rfl;have:=h.tree;rw[d]at this;cases this
theorem RCtx.frozen(h:RCtx w B br bt s body st N tv nv i er root):w.frozen? (aD br 1)=false/\w.frozen? (aD br 2)=false/\w.frozen? (aD bt 4)=false/\w.frozen? (aD bt 2)=false:=
 ⟨eB _ _ _ _ _ h.read,eB _ _ _ _ _ h.read,eB _ _ _ _ _ h.tree,eB _ _ _ _ _ h.tree⟩
def Xf(w:World)(B br bt:Nat)(s:ByteArray)(body:List Tw.Tok)(st':PS)(N:List RN)(tv nv:Value)(i:Nat)(root:Int)(e:World):Prop:=RK br bt nv w e/\∃d f,i<=d/\RCtx e B br bt s body st' N tv nv d f root
theorem Sm(h:RCtx w B br bt s body st N tv nv i er root)(d:Fb (A9 s body) st=some st'):
  Calls prog 121 #[pT br] w λe k=>e=.returned (.tuple #[])/\RK br bt nv w k/\∃o,RCtx k B br bt s body st' N tv nv i o root:=by
 obtain⟨q,x,_,_,_,_,y⟩:=h.cells;have D:=h.many;have A:=h.ile;cases f:st.stuck with
 |true=>
  obtain⟨j,t,rfl,_⟩:=h.bad f;have e:st'=st:=by simp[Fb,f]at d;exact d.symm
  subst e;have l:=bV h;have C:¬(j:Int)<0:=oM
  go_in;go_wp2_with fail;go_end0;exact⟨rfl,RK.refl _ _ _ _,_,uh l⟩
 |false=>
  obtain⟨rfl,rfl⟩:=h.good f;obtain⟨t,g⟩:∃t,(A9 s body)[st.next]?=some t:=⟨_,fA (by simp;omega)⟩;have e:st'={st with stuck:=true,fault:=t.fr}:=by simp[Fb,tokS,f,g]at d;exact d.symm
  subst e;obtain⟨_,_,z,_⟩:=h.frozen;have p:=h.grown (Ad (Aa w));have m:=bV (p.setE (st':={st with stuck:=true,fault:=t.fr}) rfl rfl g rfl);have n:=bV ((RK.of_grown br bt nv (Ad (Aa w))).setT (j:=4) (vI st.next))
  go_in;go_wp2_with fail;go_region;go_wp2_with fail;go_end0;exact⟨rfl,uh n,_,uh m⟩
theorem Gf{l:List UInt8}(e:Lex 0 l body)(d:body[i]?=some t)(f:3<=c/\c<=23):atT l body i=De c↔t.sort=c:=by
 have:=zho e t (dD d);rw[Nat.sub_zero,Nat.sub_zero]at this;unfold atT;rw[d];exact this.iff f
theorem zb5(d:3<=c/\c<=23):De c ≠ []:=by
 rcases Kn d with rfl|rfl|rfl|rfl|rfl|rfl|rfl|rfl|rfl|rfl|rfl|rfl|rfl|rfl|rfl|rfl|rfl|rfl|rfl|rfl|rfl<;>decide
theorem zlh(J:Lex 0 s.data.toList body)(h:RCtx w B br bt s body st N tv nv i er root)(D:3<=c/\c<=23)(k:Tw.Au (A9 s body) c st=some r):
  Calls prog 192 #[pT br,ug (De c)] w λe X=>e=.returned (.tuple #[])/\Xf w B br bt s body r.2 N tv nv i root X:=by
 have I:Rf.Ends (A9 s body):=⟨⟨0,s.size,s.size⟩,sM,rfl⟩;have hm:=h.many;have a0:=h.ile;by_cases x:atT s.data.toList body i=De c
 ·have Q:(atT s.data.toList body i != De c)=false:=by simpa using x
  have q:=bV x;cases d:st.stuck with
  |true=>
   have e:r.2=st:=Wm I d oM k;rw[e];have p:=bV (Bl h);have o:=bV h;obtain⟨j,t,rfl,_⟩:=h.bad d;have R:¬(j:Int)<0:=oM
   go_in;go_wp2_with fail;refine(uh p).mono ?_;rintro C O ⟨rfl,m⟩;have l:=bV ((uh o).grown m);have n:=bV m;obtain⟨E,F,_,_,_,_,G⟩:=l.o.cells;rw[q.o];go_wp2_with fail;go_end0;exact⟨rfl,RK.of_grown _ _ _ n.o,i,_,znL _,l.o⟩
  |false=>
   obtain⟨rfl,rfl⟩:=h.good d;have M:st.next<body.length:=by
    rcases yB st.next body.length with g|g
    ·exact g
    ·have:=q.o;unfold atT at this;rw[gD g]at this;exact absurd this.symm (zb5 D)
   obtain⟨t,f⟩:∃t,body[st.next]?=some t:=⟨_,fA M⟩;have U:=(Gf J f D).1 q.o;have W:(A9 s body)[st.next]?=some t:=(by rw[iA M];exact f);have e:r.2={st with next:=st.next+1}:=by
    unfold Tw.Au tokS at k;rw[d]at k;simp only[xA,if_false,W,zbS,mA U,jA (show¬c=0 by omega),mA (show st.next<=300 by omega),zsI]at k;rw[<-k];simp[d]
   rw[e];have p:=bV (Bl h);have o:=bV h
   go_in;go_wp2_with fail;refine(uh p).mono ?_;rintro C O ⟨rfl,m⟩;have l:=bV ((uh o).grown m);have n:=bV m;obtain⟨E,F,_,_,_,_,G⟩:=l.o.cells;obtain⟨Z,_,_,_⟩:=l.o.frozen;have z:=bV (l.o.setI (st':={st with next:=st.next+1}) (i':=st.next+1) rfl (λ_=>⟨rfl,rfl⟩) (λe=>(by rw[d]at e;cases e)) oM (λ_=>d));have A:=bV ((RK.of_grown br bt nv n.o).setR (j:=1) (vI ((st.next+1:Nat):Int)));rw[q.o];go_wp2_with fail;go_end0;refine⟨rfl,?_⟩;go_light;exact⟨uh A,st.next+1,_,oM,uh z⟩
 ·have Q:(atT s.data.toList body i==De c)=false:=by simpa using x
  have L:Fb (A9 s body) st=some r.2:=by
   unfold Tw.Au at k;obtain⟨t,f,k⟩:=zbE.1 k;have T:¬t.sort=c:=by
    intro e;cases d:st.stuck with
    |true=>
     obtain⟨a2,g,H⟩:=Ft I d;rw[g]at f;cases f;omega
    |false=>
     obtain⟨rfl,rfl⟩:=h.good d;simp only[tokS,d,xA,if_false]at f;rcases yB st.next body.length with g|g
     ·rw[iA g]at f;exact x ((Gf J f D).2 e)
     ·have y:st.next=body.length:=oM;rw[y]at f;simp at f;rw[<-f]at e;simp at e;omega
   rw[jA T]at k;obtain⟨a1,g,H⟩:=zbE.1 k;cases H;exact g
  have V:=(Cr L).1;have p:=bV (Bl h);have o:=bV h;have P:=bV L;have q:=bV x
  go_in;go_wp2_with fail;refine(uh p).mono ?_;rintro C O ⟨rfl,m⟩;have l:=bV ((uh o).grown m);have n:=bV m;simp only[ug];go_wp2_with fail;refine(Sm (uh l) (uh P)).mono ?_;rintro C w2 ⟨rfl,S,Y,y⟩;have A:=bV ((RK.of_grown br bt nv n.o).trans S (Own.refl _ _));obtain⟨j,t,rfl,_⟩:=y.bad V;have z:=bV y;obtain⟨E,F,_,_,_,_,G⟩:=y.cells;have R:¬(j:Int)<0:=oM;go_wp2_with fail;go_end0;exact⟨rfl,uh A,i,_,znL _,uh z⟩
theorem zfl(d:body[i]?=some t):atK body i=110↔t.sort=1:=by
 unfold atK Lj;rw[d];simp only;split
 ·simp[*]
 ·rename_i h;simp only[h,iff_false];split
  ·decide
  ·split<;>decide
theorem zfm(h:RCtx w B br bt s body st N tv nv i er root)(k:Tw.Au (A9 s body) 1 st=some r):
  Calls prog 193 #[pT br] w λe V=>e=.returned (vI i)/\Xf w B br bt s body r.2 N tv nv i root V:=by
 have H:Rf.Ends (A9 s body):=⟨⟨0,s.size,s.size⟩,sM,rfl⟩;have Z:=h.many;have Y:=h.ile;by_cases x:atK body i=110
 ·have O:((atK body i:Int)==110)=true:=by rw[x];rfl
  have z:=bV x;cases d:st.stuck with
  |true=>
   have e:r.2=st:=Wm H d oM k;rw[e];have p:=bV (Db h);have o:=bV h;obtain⟨j,t,rfl,_⟩:=h.bad d;have P:¬(j:Int)<0:=oM
   go_in;go_wp2_with fail;refine(uh p).mono ?_;rintro C L ⟨rfl,m⟩;have l:=bV ((uh o).grown m);have n:=bV m;obtain⟨D,E,_,_,_,_,F⟩:=l.o.cells;go_wp2_with fail;go_ret;exact⟨rfl,RK.of_grown _ _ _ n.o,i,_,znL _,l.o⟩
  |false=>
   obtain⟨rfl,rfl⟩:=h.good d;have J:st.next<body.length:=by
    rcases yB st.next body.length with g|g
    ·exact g
    ·have:=z.o;unfold atK at this;rw[gD g]at this;cases this
   obtain⟨t,f⟩:∃t,body[st.next]?=some t:=⟨_,fA J⟩;have S:=(zfl f).1 z.o;have U:(A9 s body)[st.next]?=some t:=(by rw[iA J];exact f);have e:r.2={st with next:=st.next+1}:=by
    unfold Tw.Au tokS at k;rw[d]at k;simp only[xA,if_false,U,zbS,mA S,jA (show¬(1:Int)=0 by omega),mA (show st.next<=300 by omega),zsI]at k;rw[<-k];simp[d]
   rw[e];have p:=bV (Db h);have o:=bV h
   go_in;go_wp2_with fail;refine(uh p).mono ?_;rintro C L ⟨rfl,m⟩;have l:=bV ((uh o).grown m);have n:=bV m;obtain⟨D,E,_,_,_,_,F⟩:=l.o.cells;obtain⟨X,_,_,_⟩:=l.o.frozen;have y:=bV (l.o.setI (st':={st with next:=st.next+1}) (i':=st.next+1) rfl (λ_=>⟨rfl,rfl⟩) (λe=>(by rw[d]at e;cases e)) oM (λ_=>d));have A:=bV ((RK.of_grown br bt nv n.o).setR (j:=1) (vI ((st.next+1:Nat):Int)));go_wp2_with fail;go_ret;refine⟨rfl,?_⟩;go_light;exact⟨uh A,st.next+1,_,oM,uh y⟩
 ·have O:((atK body i:Int)==110)=false:=by simp;omega
  have I:Fb (A9 s body) st=some r.2:=by
   unfold Tw.Au at k;obtain⟨t,f,k⟩:=zbE.1 k;have R:¬t.sort=1:=by
    intro e;cases d:st.stuck with
    |true=>
     obtain⟨a1,g,G⟩:=Ft H d;rw[g]at f;cases f;omega
    |false=>
     obtain⟨rfl,rfl⟩:=h.good d;simp only[tokS,d,xA,if_false]at f;rcases yB st.next body.length with g|g
     ·rw[iA g]at f;exact x ((zfl f).2 e)
     ·have q:st.next=body.length:=oM;rw[q]at f;simp at f;rw[<-f]at e;simp at e
   rw[jA R]at k;obtain⟨a0,g,G⟩:=zbE.1 k;cases G;exact g
  have T:=(Cr I).1;have p:=bV (Db h);have o:=bV h;have M:=bV I;have z:=bV x
  go_in;go_wp2_with fail;refine(uh p).mono ?_;rintro C L ⟨rfl,m⟩;have l:=bV ((uh o).grown m);have n:=bV m;go_wp2_with fail;refine(Sm (uh l) (uh M)).mono ?_;rintro C w2 ⟨rfl,Q,W,q⟩;have A:=bV ((RK.of_grown br bt nv n.o).trans Q (Own.refl _ _));obtain⟨j,t,rfl,_⟩:=q.bad T;have y:=bV q;obtain⟨D,E,_,_,_,_,F⟩:=q.cells;have P:¬(j:Int)<0:=oM;go_wp2_with fail;go_ret;exact⟨rfl,uh A,i,_,znL _,uh y⟩
theorem Sn(h:RCtx w B br bt s body st N tv nv i er root)(q:st.stuck=false){d:PS}(f:(if st.depth=40 then Fb (A9 s body) st else some st)=some d):
  Calls prog 191 #[pT br] w λe E=>e=.returned (.tuple #[])/\Xf w B br bt s body {d with depth:=d.depth+1} N tv nv i root E:=by
 obtain⟨z,A,o,_,_,_,C⟩:=h.cells;have H:=h.dep40 q;clear q;by_cases l:st.depth=40
 ·rw[mA l]at f;rw[l]at o;have x:=Cr f;have n:=bV h;have y:=bV f;clear h f
  go_in;go_wp2_with fail;refine(Sm (uh n) (uh y)).mono ?_;rintro F L ⟨rfl,p,G,m⟩;obtain⟨z,A,o,_,_,_,C⟩:=m.cells;obtain⟨_,D,_,_⟩:=m.frozen;have I:d.depth=40:=by rw[x.2];exact l
  have g:=bV (m.setD (st':={d with depth:=d.depth+1}) rfl rfl rfl (by simp only;omega) (λe=>(by rw[x.1]at e;cases e)));have k:=bV (p.setR (j:=2) (vI ((d.depth+1:Nat):Int)));rw[show((d.depth+1:Nat):Int)=41 by omega]at k;simp only[show((d.depth+1:Nat):Int)=41 by omega]at g;clear p m n;go_wp2_with fail;go_end0;refine⟨rfl,?_⟩;go_light;exact⟨uh k,i,_,znL _,uh g⟩
 ·rw[jA l]at f;cases f;have J:¬(40:Int)<=(st.depth:Int):=oM;obtain⟨_,D,_,_⟩:=h.frozen;have g:=bV (h.setD (st':={st with depth:=st.depth+1}) rfl rfl rfl (by simp only;omega) (λ_=>by simp only;omega));have k:=bV ((RK.refl br bt nv w).setR (j:=2) (vI ((st.depth+1:Nat):Int)));clear h
  go_in;go_wp2_with fail;go_end0;refine⟨rfl,?_⟩;go_light;exact⟨uh k,i,_,znL _,uh g⟩
end
end
section
open Go Go.RowKit
theorem Er{P:Program}{d:Nat}{Q:Exit->Act->World->Prop}{a:Act}{w:World}{l:List Oper}(S:World->Prop)(c:P.follows .mixedOrders=true)(b:S w.drew)
  (h:S w.drew->wpAnyH P .any l.toArray (Uz Q) S l.toArray.size (Array.replicate l.toArray.size false) a w.drew):(Code.region d l.toArray true).wp P Q a w:=
 wp_mono (Q:=Uz Q) (wp_region_any c (wpAny_of_held (S:=S) _ _ _ _ (h b))) (by rintro e a w ⟨rfl,h⟩;exact h)
end
end Go.Proofs.YtckhafpejefbbaaGreatDoor
