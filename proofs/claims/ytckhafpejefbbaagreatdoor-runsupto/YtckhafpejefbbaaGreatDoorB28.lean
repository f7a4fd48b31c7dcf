import Derived.Test.YtckhafpejefbbaaGreatDoorB27
import Derived.Deep.AppendLies

set_option maxRecDepth 100000
set_option maxHeartbeats 16000000
namespace Go.Proofs.YtckhafpejefbbaaGreatDoor
section
open Tw Tw.Rf Go.Proofs.Tryz
open Go.RowKit
section
variable{w w':World}{t:TypeId}{o:Option Nat}
theorem Tryz.zt4:(Tryz.prog.info? 276).map (λi=>(i.zero,i.size,i.bytes))=some (some (.agg #[vU 0,vI 0,vI 0,vI 0,vI 0,vI 0,vI 0,vI 0,.bool false]),9,72):=kR
theorem Eu{B:Nat}{e:TypeId}{size:Nat}{v:Value}{n:Nat}{l:List Value}(h:w.ownsRow B e size v n l)(j:w.grownBy w' v.ownBlock){g:Nat}{c:Array Value}{m:Nat×Nat}(d:w.heap[g]?=some (.cells c t m))(k:t≠e):w'.heap[g]?=some (.cells c t m):=by
 refine(j.block g (zgE.1 d).1 λa=>?_).trans d;rcases h.2 with⟨b,_⟩|⟨r,p,q,b,_,f,_⟩
 ·rw[b]at a;simp[Value.ownBlock]at a
 ·rw[b]at a;simp[Value.ownBlock]at a;subst a;rw[d]at f;cases f;exact k rfl
theorem Ec{a b c:World}(h:zG a b)(k:b.grownBy c o):a.grownBy c o:=
 ⟨k.os.trans h.os,k.tape.trans h.tape,k.output.trans h.output,kB h.size k.size,λi d e=>(k.block i (aB d h.size) e).trans (h.block i d sM)⟩
theorem Ay(h:zG w w'):w.grownBy w' o:=
 ⟨h.os,h.tape,h.output,h.size,λk a _=>h.block k a sM⟩
theorem Uk{b:Nat}{a0 a1 a2 a c d e f g:Value}(h:zH w b #[a0,a1,a2,a,c,d,e,f,g] t):∀j u,[a0,a1,a2,a,c,d,e,f,g][j]?=some u->w.cell? (((aD b 0):Addr).add j)=some u:=by
 intro j u m;have k:(((aD b 0):Addr).add j)=(aD b j):=by
  unfold Addr.add;split
  ·rename_i l;rw[l]
  ·simp
 rw[k,mB _ _ _ _ _ _ h];simpa using m
abbrev Ee(x:RN)(b a:Int):Array Value:=#[.int .u8 x.sort,.int .i64 x.a,.int .i64 x.b,.int .i64 x.c,.int .i64 x.first,.int .i64 b,.int .i64 x.name,.int .i64 a,.bool false]
section
variable {w:World}{B br bt:Nat}{s:ByteArray}{body:List Tw.Tok}{st:Tw.PS}{N:List Tw.Rf.RN}{tv nv:Value}{i:Nat}{er root:Int}
theorem Gq(h:Dm w B br bt s body st N tv nv i er root)(b2:N.length<=5000)(x:RN)(Z r:Int):
  Calls prog 194 #[pT br,.agg #[vU x.sort,vI x.a,vI x.b,vI x.c,vI x.first,vI Z,vI x.name,vI r,.bool false]] w λe w'=>e=.returned (vI N.length)/\RK br bt nv w w'/\∃aq,Own w nv aq/\Dm w' B br bt s body st (N++[{x with last:=(i:Int)-1,binder:=-1}]) tv aq i er root:=by
 have⟨i0,ak,an,ao,ap⟩:=info_parts Tryz.zt4;have hm:=h.many;have b3:=h.ile;obtain⟨p,f,ax⟩:∃p f,nv=.slice p N.length f:=by
  rcases h.nodes.2 with⟨e,y⟩|⟨C,ab,ac,e,_⟩
  ·exact⟨_,_,by rw[e,y]⟩
  ·exact⟨_,_,e⟩
 subst ax;have g1:w.grownBy (w.alloc (.cells (Ee x Z r) 276)) none:=zwA _ _ none;have g2:w.grownBy (w.alloc (.cells (Ee x ((i:Int)-1) r) 276)) none:=zwA _ _ none;have g3:w.grownBy (w.alloc (.cells (Ee x ((i:Int)-1) (-1)) 276)) none:=zwA _ _ none;have n1:(w.alloc (.cells (Ee x Z r) 276)).heap[w.heap.size]?=some (.cells (Ee x Z r) 276 (0,0)):=Ac w _;have n2:(w.alloc (.cells (Ee x ((i:Int)-1) r) 276)).heap[w.heap.size]?=some (.cells (Ee x ((i:Int)-1) r) 276 (0,0)):=Ac w _;have q:(w.alloc (.cells (Ee x ((i:Int)-1) (-1)) 276)).heap[w.heap.size]?=some (.cells (Ee x ((i:Int)-1) (-1)) 276 (0,0)):=Ac w _;have ar:=h.grown g1;have az:=h.grown g2;have a:=h.grown g3;have⟨_,b1,_,_,_,_,_⟩:=ar.cells;have⟨b0,_,_,_,_,b5,_⟩:=a.cells;have z1:(w.alloc (.cells (Ee x Z r) 276)).cell? (aD w.heap.size 5)=some (vI Z):=by rw[mB _ _ _ _ _ _ n1];rfl
 have y1:(w.alloc (.cells (Ee x Z r) 276)).frozen? (aD w.heap.size 5)=false:=eB _ _ _ _ _ n1;have z2:(w.alloc (.cells (Ee x ((i:Int)-1) r) 276)).cell? (aD w.heap.size 7)=some (vI r):=by rw[mB _ _ _ _ _ _ n2];rfl
 have y2:(w.alloc (.cells (Ee x ((i:Int)-1) r) 276)).frozen? (aD w.heap.size 7)=false:=eB _ _ _ _ _ n2;have d0:(w.alloc (.cells (Ee x ((i:Int)-1) (-1)) 276)).cell? (aD w.heap.size 0)=some (vU x.sort):=by rw[mB _ _ _ _ _ _ q];rfl
 have d1:(w.alloc (.cells (Ee x ((i:Int)-1) (-1)) 276)).cell? (aD w.heap.size 1)=some (vI x.a):=by rw[mB _ _ _ _ _ _ q];rfl
 have d2:(w.alloc (.cells (Ee x ((i:Int)-1) (-1)) 276)).cell? (aD w.heap.size 2)=some (vI x.b):=by rw[mB _ _ _ _ _ _ q];rfl
 have d3:(w.alloc (.cells (Ee x ((i:Int)-1) (-1)) 276)).cell? (aD w.heap.size 3)=some (vI x.c):=by rw[mB _ _ _ _ _ _ q];rfl
 have d4:(w.alloc (.cells (Ee x ((i:Int)-1) (-1)) 276)).cell? (aD w.heap.size 4)=some (vI x.first):=by rw[mB _ _ _ _ _ _ q];rfl
 have d5:(w.alloc (.cells (Ee x ((i:Int)-1) (-1)) 276)).cell? (aD w.heap.size 5)=some (vI ((i:Int)-1)):=by rw[mB _ _ _ _ _ _ q];rfl
 have d6:(w.alloc (.cells (Ee x ((i:Int)-1) (-1)) 276)).cell? (aD w.heap.size 6)=some (vI x.name):=by rw[mB _ _ _ _ _ _ q];rfl
 have d7:(w.alloc (.cells (Ee x ((i:Int)-1) (-1)) 276)).cell? (aD w.heap.size 7)=some (vI (-1)):=by rw[mB _ _ _ _ _ _ q];rfl
 have d8:(w.alloc (.cells (Ee x ((i:Int)-1) (-1)) 276)).cell? (aD w.heap.size 8)=some (.bool false):=by rw[mB _ _ _ _ _ _ q];rfl
 have a4:=h.nodes;have aj:=h.read;have au:=h.tree;go_in;go_wp21;obtain⟨b,al⟩:∃b,w.heap.size=b:=⟨_,rfl⟩;generalize (w.alloc (.cells (Ee x ((i:Int)-1) (-1)) 276))=w3 at a g3 q b0 b5 d0 d1 d2 d3 d4 d5 d6 d7 d8 ⊢;rw[al]at q d0 d1 d2 d3 d4 d5 d6 d7 d8 ⊢;have am:∀k,(Value.slice p N.length f).ownBlock=some k->k<b:=λk F=>by rw[<-al];exact(a4.lt k F).2
 have aw:prog.follows .mixedOrders=true:=kR;have z:∀W,w3.grownBy W (Value.slice p N.length f).ownBlock->W.cell? (aD br 0)=some (pT bt)/\W.cell? (aD b 0)=some (vU x.sort)/\W.cell? (aD b 1)=some (vI x.a)/\W.cell? (aD b 2)=some (vI x.b)/\W.cell? (aD b 3)=some (vI x.c)/\W.cell? (aD b 4)=some (vI x.first)/\W.cell? (aD b 5)=some (vI ((i:Int)-1))/\W.cell? (aD b 6)=some (vI x.name)/\W.cell? (aD b 7)=some (vI (-1))/\W.cell? (aD b 8)=some (.bool false):=λW U=>by
  have nr:some br≠(Value.slice p N.length f).ownBlock:=λe=>by
   rcases a4.2 with⟨D,_⟩|⟨C,ab,ac,D,_,T,_⟩
   ·rw[D]at e;simp[Value.ownBlock]at e
   ·cases D;simp[Value.ownBlock]at e;rw[<-e]at T;have:=aj;rw[T]at this;cases this
  have nn:some b≠(Value.slice p N.length f).ownBlock:=λe=>by have:=am b e.symm;omega
  have m3:W.heap[b]?=_:=(U.block b (zgE.1 q).1 nn).trans q;have m1:W.heap[br]?=_:=(U.block br (zgE.1 a.read).1 nr).trans a.read;refine⟨by rw[mB _ _ _ _ _ _ m1];rfl,?_,?_,?_,?_,?_,?_,?_,?_,?_⟩<;>(rw[mB _ _ _ _ _ _ m3];rfl)
 have a3:∀W,w3.grownBy W (Value.slice p N.length f).ownBlock->W.heap[bt]?=some (.cells #[.string s,tv,.slice p N.length f,vI root,vI er] 102 (0,0)):=λW U=>by
  have nt:some bt≠(Value.slice p N.length f).ownBlock:=λe=>by
   rcases a4.2 with⟨D,_⟩|⟨C,ab,ac,D,_,T,_⟩
   ·rw[D]at e;simp[Value.ownBlock]at e
   ·cases D;simp[Value.ownBlock]at e;rw[<-e]at T;have:=au;rw[T]at this;cases this
  exact(U.block bt (zgE.1 a.tree).1 nt).trans a.tree
 have ai:∀W,w3.grownBy W (Value.slice p N.length f).ownBlock->W.heap[br]?=some (.cells #[pT bt,vI i,vI st.depth] 270 (0,0)):=λW U=>by
  have nr:some br≠(Value.slice p N.length f).ownBlock:=λe=>by
   rcases a4.2 with⟨D,_⟩|⟨C,ab,ac,D,_,T,_⟩
   ·rw[D]at e;simp[Value.ownBlock]at e
   ·cases D;simp[Value.ownBlock]at e;rw[<-e]at T;have:=aj;rw[T]at this;cases this
  exact(U.block br (zgE.1 a.read).1 nr).trans a.read
 have ah:∀W,w3.grownBy W (Value.slice p N.length f).ownBlock->W.heap[b]?=some (.cells (Ee x ((i:Int)-1) (-1)) 276 (0,0)):=λW U=>(U.block b (zgE.1 q).1 (λe=>by have:=am b e.symm;omega)).trans q;refine Ga (λW=>W.cell? (aD br 0)=some (pT bt)/\W.cell? (aD b 0)=some (vU x.sort)/\W.cell? (aD b 1)=some (vI x.a)/\W.cell? (aD b 2)=some (vI x.b)/\W.cell? (aD b 3)=some (vI x.c)/\W.cell? (aD b 4)=some (vI x.first)/\W.cell? (aD b 5)=some (vI ((i:Int)-1))/\W.cell? (aD b 6)=some (vI x.name)/\W.cell? (aD b 7)=some (vI (-1))/\W.cell? (aD b 8)=some (.bool false)) aw (z _ (Ay (Ad (Aa w3)))) ?_;intro n;refine tkH 0 (v:=pT br) rfl (λW ⟨Q,G,H,y,I,J,L,M,O,P⟩=>by go_simp) n ?_;simp[Act.put];refine tkH 1 (v:=pT br) rfl (λW ⟨Q,G,H,y,I,J,L,M,O,P⟩=>by go_simp) n ?_;simp[Act.put];refine tkH 2 (v:=pT br) rfl (λW ⟨Q,G,H,y,I,J,L,M,O,P⟩=>by go_simp) n ?_;simp[Act.put];refine tkH 3 (v:=pT bt) rfl (λW ⟨Q,G,H,y,I,J,L,M,O,P⟩=>by go_simp) n ?_;simp[Act.put];refine tkH 4 (v:=pT br) rfl (λW ⟨Q,G,H,y,I,J,L,M,O,P⟩=>by go_simp) n ?_;simp[Act.put];refine tkH 5 (v:=pT br) rfl (λW ⟨Q,G,H,y,I,J,L,M,O,P⟩=>by go_simp) n ?_;simp[Act.put];refine tkH 6 (v:=pT br) rfl (λW ⟨Q,G,H,y,I,J,L,M,O,P⟩=>by go_simp) n ?_;simp[Act.put];refine tkH 7 (v:=pT bt) rfl (λW ⟨Q,G,H,y,I,J,L,M,O,P⟩=>by go_simp) n ?_;simp[Act.put];refine tkH 8 (v:=pT bt) rfl (λW ⟨Q,G,H,y,I,J,L,M,O,P⟩=>by go_simp) n ?_;simp[Act.put];refine tkH 9 (v:=.pointer (some (aD bt 2))) rfl (λW ⟨Q,G,H,y,I,J,L,M,O,P⟩=>by go_simp) n ?_;simp[Act.put];refine tkH 11 (v:=.agg (Ee x ((i:Int)-1) (-1))) rfl (λW ⟨Q,G,H,y,I,J,L,M,O,P⟩=>by go_simp) n ?_;simp[Act.put];refine gE (rs:=[10,12]) kR sM ?_;refine yA rfl (λK hK=>?_) (yA rfl (λK hK=>?_) zA)
 ·have a9:=a3 w3.drew (Ay (Ad (Aa w3)));have av:w3.drew.cell? (aD bt 2)=some (.slice p N.length f):=by rw[mB _ _ _ _ _ _ a9];rfl
  go_simp;refine hK.out _ _ (z _ (Ay (Ad (Aa w3)))) (λn=>?_);refine gE (rs:=[12]) kR sM ?_;refine yA rfl (λK hK=>?_) zA;go_simp;refine hK.out _ _ (z _ (Ay (Aj (Ad (Aa w3)) _))) (λn=>?_);refine gE (rs:=[13]) kR sM ?_;refine yA rfl (λK hK=>?_) zA;rw[mA (by rfl)];refine wp_append_lies _ _ _ 100 rfl B 276 i0 (.agg #[vU 0,vI 0,vI 0,vI 0,vI 0,vI 0,vI 0,vI 0,.bool false]) 9 72 underlying100 ak an ao ap rfl dZ (.slice p N.length f) N.length (Fo N) rfl (World.ownsRow.alloc (w:=w3.drew) a.nodes _) (aD w3.heap.size 0) 1 1 [vU x.sort,vI x.a,vI x.b,vI x.c,vI x.first,vI ((i:Int)-1),vI x.name,vI (-1),.bool false] rfl rfl (Uk (Ac w3.drew _)) (by intro u hu;simp at hu;rcases hu with rfl|rfl|rfl|rfl|rfl|rfl|rfl|rfl|rfl<;>rfl) dZ (by unfold maxLen;omega) oM (by have:=a.low.1;have:=(zgE.1 a.read).1;simp;omega) _ rfl ?_;intro g m d af E ad _;have a7:(Value.slice p N.length f).ownBlock=some g\/w.heap.size<=g:=ad.imp id λe=>by
   have:=g3.size;rw[e];simp;omega
  have l:w3.grownBy d (Value.slice p N.length f).ownBlock:=(Ec (Aj (Ad (Aa w3)) _) ⟨E.os,E.tape,E.output,E.size,E.block⟩);have A:=a3 _ l;have a8:=ai _ l;refine hK.out _ _ (z _ l) (λn=>?_);refine gE (rs:=[14]) kR sM ?_;refine yA rfl (λK hK=>?_) zA;go_simp;refine hK.out _ _ (z _ l) (λn=>?_);refine gE (rs:=[15]) kR sM ?_;refine yA rfl (λK hK=>?_) zA;go_simp;refine hK.out _ _ (z _ l) (λn=>?_);refine gE (rs:=[16]) kR sM ?_;refine yA rfl (λK hK=>?_) zA;have fz:d.frozen? (aD bt 2)=false:=eB _ _ _ _ _ A;have cz:d.cell? (aD bt 2)=some (.slice p N.length f):=by rw[mB _ _ _ _ _ _ A];rfl
  have ay:=n;go_simp;have ag:br≠bt:=a.ne;have ae:b≠bt:=by rintro rfl;have:=q;rw[a.tree]at this;cases this
  have V:(d.setCell (aD bt 2) (sL g (N.length+1) m)).heap[br]?=_:=(aA d (aD bt 2) br _ (by simpa using ag)).trans a8;have a1:(d.setCell (aD bt 2) (sL g (N.length+1) m)).heap[bt]?=some (.cells #[.string s,tv,sL g (N.length+1) m,vI root,vI er] 102 (0,0)):=Bu A _;have a6:(d.setCell (aD bt 2) (sL g (N.length+1) m)).heap[b]?=_:=(aA d (aD bt 2) b _ (by simpa using ae)).trans (ah _ l);refine hK.out _ _ ?_ (λ_=>?_)
  ·refine⟨by rw[mB _ _ _ _ _ _ V];rfl,?_,?_,?_,?_,?_,?_,?_,?_,?_⟩<;>(rw[mB _ _ _ _ _ _ a6];rfl)
  have a5:RK br bt (.slice p N.length f) w3 d:=⟨l.os,l.tape,l.output,l.size,λk F _ _ h3=>l.block k F h3⟩;have a0:=((RK.Ae br bt (.slice p N.length f) g3).trans a5 (Own.refl _ _)).zoo (j:=2) (sL g (N.length+1) m);have aa:Own w (.slice p N.length f) (sL g (N.length+1) m):=λk F=>by
   simp[Value.ownBlock]at F;subst F;exact a7
  have a2:Dm (d.setCell (aD bt 2) (sL g (N.length+1) m)) B br bt s body st (N++[{x with last:=(i:Int)-1,binder:=-1}]) tv (sL g (N.length+1) m) i er root:=by
   refine⟨V,a1,Ai a.Eh λC c R=>?_,?_,a.low,a.E7,a.bad,a.many,a.ile,a.dep,a.zhv⟩
   ·have h5:=Eu a.nodes l R dZ;refine(aA d (aD bt 2) C _ ?_).trans h5;rintro rfl;cases A.symm.trans h5
   ·have h6:=Ai (Y:=d.setCell (aD bt 2) (sL g (N.length+1) m)) af λC c R=>by
     refine(aA d (aD bt 2) C _ ?_).trans R;rintro rfl;cases A.symm.trans R
    rw[eA,Uj];have e9:Fo [{x with last:=(i:Int)-1,binder:=-1}]=[vU x.sort,vI x.a,vI x.b,vI x.c,vI x.first,vI ((i:Int)-1),vI x.name,vI (-1),.bool false]:=by
     simp[Fo,Pe,List.append_nil]
    rw[e9];exact h6
  obtain⟨S,X⟩:∃S,d.setCell (aD bt 2) (sL g (N.length+1) m)=S:=⟨_,rfl⟩;have q0:S.cell? (aD br 0)=some (pT bt):=by rw[<-X,mB _ _ _ _ _ _ V];rfl
  have q2:S.cell? (aD bt 2)=some (sL g (N.length+1) m):=by rw[<-X,mB _ _ _ _ _ _ a1];rfl
  rw[X]at a0 a2 ⊢;refine iE kR ⟨rfl,?_⟩ _;go_wp21;go_ret;exact⟨rfl,a0,_,aa,a2⟩
 ·go_simp;refine hK.out _ _ (z _ (Ay (Ad (Aj (Aa w3) _)))) (λn=>?_);refine gE (rs:=[10]) kR sM ?_;refine yA rfl (λK hK=>?_) zA;have a9:=a3 (w3.alloc (.cells (Ee x ((i:Int)-1) (-1)) 276)).drew (Ay (Ad (Aj (Aa w3) _)));have av:(w3.alloc (.cells (Ee x ((i:Int)-1) (-1)) 276)).drew.cell? (aD bt 2)=some (.slice p N.length f):=by rw[mB _ _ _ _ _ _ a9];rfl
  go_simp;refine hK.out _ _ (z _ (Ay (Ad (Aj (Aa w3) _)))) (λn=>?_);refine gE (rs:=[13]) kR sM ?_;refine yA rfl (λK hK=>?_) zA;rw[mA (by rfl)];refine wp_append_lies _ _ _ 100 rfl B 276 i0 (.agg #[vU 0,vI 0,vI 0,vI 0,vI 0,vI 0,vI 0,vI 0,.bool false]) 9 72 underlying100 ak an ao ap rfl dZ (.slice p N.length f) N.length (Fo N) rfl (World.ownsRow.alloc (w:=w3) a.nodes _) (aD w3.heap.size 0) 1 1 [vU x.sort,vI x.a,vI x.b,vI x.c,vI x.first,vI ((i:Int)-1),vI x.name,vI (-1),.bool false] rfl rfl (Uk (Ac w3 _)) (by intro u hu;simp at hu;rcases hu with rfl|rfl|rfl|rfl|rfl|rfl|rfl|rfl|rfl<;>rfl) dZ (by unfold maxLen;omega) oM (by have:=a.low.1;have:=(zgE.1 a.read).1;simp;omega) _ rfl ?_;intro g m d af E ad _;have a7:(Value.slice p N.length f).ownBlock=some g\/w.heap.size<=g:=ad.imp id λe=>by
   have:=g3.size;rw[e];simp;omega
  have l:w3.grownBy d (Value.slice p N.length f).ownBlock:=(Ec (Ad (Aj (Aa w3) _)) ⟨E.os,E.tape,E.output,E.size,E.block⟩);have A:=a3 _ l;have a8:=ai _ l;refine hK.out _ _ (z _ l) (λn=>?_);refine gE (rs:=[14]) kR sM ?_;refine yA rfl (λK hK=>?_) zA;go_simp;refine hK.out _ _ (z _ l) (λn=>?_);refine gE (rs:=[15]) kR sM ?_;refine yA rfl (λK hK=>?_) zA;go_simp;refine hK.out _ _ (z _ l) (λn=>?_);refine gE (rs:=[16]) kR sM ?_;refine yA rfl (λK hK=>?_) zA;have fz:d.frozen? (aD bt 2)=false:=eB _ _ _ _ _ A;have cz:d.cell? (aD bt 2)=some (.slice p N.length f):=by rw[mB _ _ _ _ _ _ A];rfl
  have ay:=n;go_simp;have ag:br≠bt:=a.ne;have ae:b≠bt:=by rintro rfl;have:=q;rw[a.tree]at this;cases this
  have V:(d.setCell (aD bt 2) (sL g (N.length+1) m)).heap[br]?=_:=(aA d (aD bt 2) br _ (by simpa using ag)).trans a8;have a1:(d.setCell (aD bt 2) (sL g (N.length+1) m)).heap[bt]?=some (.cells #[.string s,tv,sL g (N.length+1) m,vI root,vI er] 102 (0,0)):=Bu A _;have a6:(d.setCell (aD bt 2) (sL g (N.length+1) m)).heap[b]?=_:=(aA d (aD bt 2) b _ (by simpa using ae)).trans (ah _ l);refine hK.out _ _ ?_ (λ_=>?_)
  ·refine⟨by rw[mB _ _ _ _ _ _ V];rfl,?_,?_,?_,?_,?_,?_,?_,?_,?_⟩<;>(rw[mB _ _ _ _ _ _ a6];rfl)
  have a5:RK br bt (.slice p N.length f) w3 d:=⟨l.os,l.tape,l.output,l.size,λk F _ _ h3=>l.block k F h3⟩;have a0:=((RK.Ae br bt (.slice p N.length f) g3).trans a5 (Own.refl _ _)).zoo (j:=2) (sL g (N.length+1) m);have aa:Own w (.slice p N.length f) (sL g (N.length+1) m):=λk F=>by
   simp[Value.ownBlock]at F;subst F;exact a7
  have a2:Dm (d.setCell (aD bt 2) (sL g (N.length+1) m)) B br bt s body st (N++[{x with last:=(i:Int)-1,binder:=-1}]) tv (sL g (N.length+1) m) i er root:=by
   refine⟨V,a1,Ai a.Eh λC c R=>?_,?_,a.low,a.E7,a.bad,a.many,a.ile,a.dep,a.zhv⟩
   ·have h5:=Eu a.nodes l R dZ;refine(aA d (aD bt 2) C _ ?_).trans h5;rintro rfl;cases A.symm.trans h5
   ·have h6:=Ai (Y:=d.setCell (aD bt 2) (sL g (N.length+1) m)) af λC c R=>by
     refine(aA d (aD bt 2) C _ ?_).trans R;rintro rfl;cases A.symm.trans R
    rw[eA,Uj];have e9:Fo [{x with last:=(i:Int)-1,binder:=-1}]=[vU x.sort,vI x.a,vI x.b,vI x.c,vI x.first,vI ((i:Int)-1),vI x.name,vI (-1),.bool false]:=by
     simp[Fo,Pe,List.append_nil]
    rw[e9];exact h6
  obtain⟨S,X⟩:∃S,d.setCell (aD bt 2) (sL g (N.length+1) m)=S:=⟨_,rfl⟩;have q0:S.cell? (aD br 0)=some (pT bt):=by rw[<-X,mB _ _ _ _ _ _ V];rfl
  have q2:S.cell? (aD bt 2)=some (sL g (N.length+1) m):=by rw[<-X,mB _ _ _ _ _ _ a1];rfl
  rw[X]at a0 a2 ⊢;refine iE kR ⟨rfl,?_⟩ _;go_wp21;go_ret;exact⟨rfl,a0,_,aa,a2⟩
end
end
section
section
variable {w:World}{B br bt:Nat}{s:ByteArray}{body:List Tw.Tok}{st:Tw.PS}{N:List Tw.Rf.RN}{tv nv:Value}{i:Nat}{er root:Int}
def Tw.Rf.atS(body:List Tw.Tok)(i:Nat):Int:=match body[i]? with|some t=>t.sort|none=>0
theorem D8{l:zU}{body:List Tw.Tok}(d:Lex 0 l body)(i:Nat){c:Int}(b:3<=c/\c<=23):atT l body i=Eo c↔atS body i=c:=by
 cases a:body[i]? with
 |some t=>
  rw[Ib d a b];unfold atS;rw[a]
 |none=>
  unfold atS atT;rw[a];exact⟨λe=>absurd e.symm (zgx b),λe=>by simp only at e;omega⟩
theorem Zp(body:List Tw.Tok)(i:Nat):(atK body i=110↔atS body i=1)/\(atK body i=105↔atS body i=2):=by
 unfold atK atS Pd;cases a:body[i]? with
 |none=>simp
 |some t=>
  simp only;constructor
  ·split
   ·simp[*]
   ·rename_i h;simp[h,iff_false];split
    ·decide
    ·split<;>decide
  ·split
   ·rename_i h;simp[h]
   ·split
    ·rename_i h;simp[h]
    ·rename_i h;simp[h,iff_false];split<;>decide
theorem znw(b:Lex 0 s.data.toList body)(h:Dm w B br bt s body st N tv nv i er root):
  Calls prog 232 #[pT br] w λe w'=>e=.returned (.bool (Ap (atS body i)))/\zG w w':=by
 have d:=(Zp body i).1;have f:=(Zp body i).2;have j:=D8 b i (c:=10) dZ;have k:=D8 b i (c:=11) dZ;have l:=D8 b i (c:=12) dZ;have m:=D8 b i (c:=13) dZ;have n:=D8 b i (c:=16) dZ;have o:=Du h;generalize atS body i=S0 at d f j k l m n ⊢;generalize atK body i=p at d f o;obtain⟨a,q⟩:∃a,atT s.data.toList body i=a:=⟨_,rfl⟩;rw[q]at j k l m n;have y:((p:Int)==110)=decide (S0=1):=by
  by_cases e:S0=1
  ·rw[d.2 e,e];rfl
  ·have:=λg=>e (d.1 g);simp[e];omega
 have F:((p:Int)==105)=decide (S0=2):=by
  by_cases e:S0=2
  ·rw[f.2 e,e];rfl
  ·have:=λg=>e (f.1 g);simp[e];omega
 have z:(a == [116,114,117,101])=decide (S0=10):=by
  rw[show([116,114,117,101]:zU)=Eo 10 by decide];by_cases e:S0=10<;>simp[j,e]
 have A:(a == [102,97,108,115,101])=decide (S0=11):=by
  rw[show([102,97,108,115,101]:zU)=Eo 11 by decide];by_cases e:S0=11<;>simp[k,e]
 have C:(a == [102,115,116])=decide (S0=12):=by
  rw[show([102,115,116]:zU)=Eo 12 by decide];by_cases e:S0=12<;>simp[l,e]
 have D:(a == [115,110,100])=decide (S0=13):=by
  rw[show([115,110,100]:zU)=Eo 13 by decide];by_cases e:S0=13<;>simp[m,e]
 have E:(a == [40])=decide (S0=16):=by
  rw[show([40]:zU)=Eo 16 by decide];by_cases e:S0=16<;>simp[n,e]
 have x:Ap S0=(decide (S0=1)||decide (S0=2)||decide (S0=10)||decide (S0=11)||decide (S0=12)||decide (S0=13)||decide (S0=16)):=by
  unfold Ap;simp[Bool.or_assoc]
 go_in;go_wp21;go_call o as e1 w1 ⟨rfl,hg⟩;have v:=h.grown hg;have r:=hg;go_wp21;go_call Cq v as e1 w2 ⟨rfl,hg⟩;have t:=Ab r hg;rw[q];simp[ug];go_wp21
 all_goals (go_ret;go_light;refine⟨Ft ?_,t⟩;rw[x];simp_all)
end
end
section
section
variable {w:World}{B br bt:Nat}{s:ByteArray}{body:List Tw.Tok}{st:Tw.PS}{N:List Tw.Rf.RN}{tv nv:Value}{i:Nat}{er root:Int}
def Fk(w:World)(B br bt:Nat)(s:ByteArray)(body:List Tw.Tok)(st':PS)(t:Tw.T)(N:List RN)(tv nv:Value)(i:Nat)(root:Int)(e:Ending)(w':World):Prop:=
 ∃(k:Int) (b:List RN) (g:Value) (a:Nat) (h:Int),e=.returned (.int .i64 k)/\RK br bt nv w w'/\Own w nv g/\i<=a/\Dm w' B br bt s body st' b tv g a h root/\(st'.stuck=true->b.length<=N.length+2*(a-i)+1) /\
  (st'.stuck=false->b.length+1<=N.length+2*(a-i)/\b=N++flat (ixF body) (ixT body) t N.length/\k=((N.length+Rf.T.sz t-1:Nat):Int)/\i<a/\(∃d,body[i]?=some d/\d.fr=t.fr)/\∃f,body[a-1]?=some f/\f.to=t.to)
theorem Dm.apart{w:World}{B br bt:Nat}{s:ByteArray}{body:List Tw.Tok}{st:PS}{N:List RN}{tv nv:Value}{i:Nat}{er root:Int}(h:Dm w B br bt s body st N tv nv i er root){nb:Nat}{c:Array Value}(a:w.heap[nb]?=some (.cells c 276 (0,0)))(r:nv.ownBlock≠some nb)(j:Nat)(v:Value):Dm (w.setCell (aD nb j) v) B br bt s body st N tv nv i er root:=by
 have Aq:∀ {g:Nat} {o:Obj},g≠nb->w.heap[g]?=some o->(w.setCell (aD nb j) v).heap[g]?=some o:=λq x=>(aA w (aD nb j) _ v (by simpa using q)).trans x;refine{h with read:=Aq (λe=>?_) h.read,tree:=Aq (λe=>?_) h.tree,Eh:=Ai h.Eh λg y d=>Aq (λe=>?_) d,nodes:=?_}
 ·subst e;have:=h.read;rw[a]at this;cases this
 ·subst e;have:=h.tree;rw[a]at this;cases this
 ·subst e;cases a.symm.trans d
 ·refine⟨h.nodes.1,?_⟩;rcases h.nodes.2 with l|⟨g,f,k,b,m,n,p⟩
  ·exact .inl l
  ·refine .inr ⟨g,f,k,b,m,Aq (λe=>?_) n,p⟩;subst e;exact r (by rw[b];rfl)
end
structure RS(w:World)(nb:Nat)(c:Array Value)(B br bt:Nat)(s:ByteArray)(body:List Tw.Tok)(st:PS)(N:List RN)(tv nv0 nv:Value)(i:Nat)(er root:Int)(w':World):Prop where
 k:RK br bt nv0 w w'
 o:Own w nv0 nv
 x:Dm w' B br bt s body st N tv nv i er root
 b:w'.heap[nb]?=some (.cells c 276 (0,0))
 n:nv.ownBlock≠some nb
 hb:w.heap.size<=nb
section
variable {w:World}{nb:Nat}{c:Array Value}{B br bt:Nat}{s:ByteArray}{body:List Tw.Tok}{st:Tw.PS}{N:List Tw.Rf.RN}{tv nv0 nv:Value}{i:Nat}{er root:Int}{w':World}
variable{w2:World}
theorem RS.new(h:Dm w B br bt s body st N tv nv i er root)(c:Array Value):RS w w.heap.size c B br bt s body st N tv nv nv i er root (w.alloc (.cells c 276)):=
 have g:=zwA w (.cells c 276) none
 ⟨RK.Ae _ _ _ g,Own.refl _ _,h.grown g,Ac w _,λe=>Nat.lt_irrefl _ (h.nodes.lt _ e).2,znL _⟩
theorem RS.nbr(h:RS w nb c B br bt s body st N tv nv0 nv i er root w'):nb≠br/\nb≠bt:=by
 constructor<;>intro e
 ·have:=h.x.read;rw[<-e,h.b]at this;cases this
 ·have:=h.x.tree;rw[<-e,h.b]at this;cases this
theorem RS.next(h:RS w nb c B br bt s body st N tv nv0 nv i er root w'){st2:PS}{b:List RN}{a:Value}{f:Nat}{d:Int}(k:RK br bt nv w' w2)(o:Own w' nv a)(x:Dm w2 B br bt s body st2 b tv a f d root):RS w nb c B br bt s body st2 b tv nv0 a f d root w2:=
 have g:=(zgE.1 h.b).1
 ⟨h.k.trans k h.o,h.o.trans o h.k.size,x,(k.block nb g h.nbr.1 h.nbr.2 (λe=>h.n e.symm)).trans h.b,λe=>(o nb e).elim h.n (λe=>oM),h.hb⟩
theorem RS.grown(h:RS w nb c B br bt s body st N tv nv0 nv i er root w')(a:zG w' w2):RS w nb c B br bt s body st N tv nv0 nv i er root w2:=
 h.next (RK.Ae _ _ _ a) (Own.refl _ _) (h.x.grown a)
theorem RS.set(h:RS w nb c B br bt s body st N tv nv0 nv i er root w')(j:Nat)(v:Value):RS w nb (c.setIfInBounds j v) B br bt s body st N tv nv0 nv i er root (w'.setCell (aD nb j) v):=
 ⟨⟨h.k.os,h.k.tape,h.k.output,by simpa using h.k.size,λk e a b d=>(aA w' (aD nb j) k v (by have:=h.hb;simp;omega)).trans (h.k.block k e a b d)⟩,h.o,h.x.apart h.b h.n j v,Bu h.b v,h.n,h.hb⟩
theorem RS.zhx(h:RS w nb c B br bt s body st N tv nv0 nv i er root w')(a:st.stuck=false)(hi:i<body.length):RS w nb c B br bt s body {st with next:=st.next+1} N tv nv0 nv (i+1) er root (w'.setCell (aD br 1) (vI ((i:Int)+1))):=by
 have g:=h.x.E7 a;have x:=h.x.zhx (st':={st with next:=st.next+1}) (i':=i+1) rfl (λ_=>⟨by rw[g.1],g.2⟩) (λe=>(by have b:st.stuck=true:=e;rw[a]at b;cases b)) oM (λ_=>a);have e:((i+1:Nat):Int)=(i:Int)+1:=oM;rw[e]at x;exact h.next ((RK.refl _ _ _ _).zkt _) (Own.refl _ _) x
theorem RS.cell(h:RS w nb c B br bt s body st N tv nv0 nv i er root w'){j:Nat}{v:Value}(hv:c[j]?=some v):w'.cell? (aD nb j)=some v:=by rw[mB _ _ _ _ _ _ h.b];exact hv
theorem RS.frozen(h:RS w nb c B br bt s body st N tv nv0 nv i er root w')(j:Nat):w'.frozen? (aD nb j)=false:=eB _ _ _ _ _ h.b
end
section
variable {w:World}{B br bt:Nat}{s:ByteArray}{body:List Tw.Tok}{st:Tw.PS}{N:List Tw.Rf.RN}{tv nv:Value}{i:Nat}{er root:Int}
variable{t:Tw.Tok}
theorem RS.arm(b:Value){nb:Nat}{nv0:Value}{w':World}(h:RS w nb #[vU 0,vI (-1),vI (-1),vI (-1),vI st.next,vI 0,vI 0,vI 0,.bool false] B br bt s body st N tv nv0 nv st.next er root w')(f:st.stuck=false)(hi:st.next<body.length):
  (w'.cell? (aD nb 0)=some (vU 0)/\w'.frozen? (aD nb 0)=false/\(w'.setCell (aD nb 0) b).cell? (aD br 0)=some (pT bt)/\(w'.setCell (aD nb 0) b).cell? (aD br 1)=some (vI st.next)/\(w'.setCell (aD nb 0) b).frozen? (aD br 1)=false) /\
  ∃W,World.setCell (w'.setCell (aD nb 0) b) (aD br 1) (vI ((st.next:Int)+1))=W/\Hid (RS w nb #[b,vI (-1),vI (-1),vI (-1),vI st.next,vI 0,vI 0,vI 0,.bool false] B br bt s body {st with next:=st.next+1} N tv nv0 nv (st.next+1) er root W)/\W.cell? (aD nb 0)=some b/\W.cell? (aD nb 1)=some (vI (-1))/\W.cell? (aD nb 2)=some (vI (-1))/\W.cell? (aD nb 3)=some (vI (-1))/\W.cell? (aD nb 4)=some (vI st.next)/\W.cell? (aD nb 5)=some (vI 0)/\W.cell? (aD nb 6)=some (vI 0)/\W.cell? (aD nb 7)=some (vI 0)/\W.cell? (aD nb 8)=some (.bool false):=by
 have r:=h.set 0 b;have⟨a,d,_,_,_,_,_⟩:=r.x.cells;have⟨e,_,_,_⟩:=r.x.frozen;have R:=r.zhx f hi;exact⟨⟨h.cell rfl,h.frozen 0,a,d,e⟩,_,rfl,R,R.cell rfl,R.cell rfl,R.cell rfl,R.cell rfl,R.cell rfl,R.cell rfl,R.cell rfl,R.cell rfl,R.cell rfl⟩
theorem zes(g:Lex 0 s.data.toList body)(h:Dm w B br bt s body st N tv nv i er root)(d:st.stuck=false)(G:N.length<=4000)(a:body[i]?=some t)(b:t.sort=1):
  Calls prog 231 #[pT br] w (Fk w B br bt s body {st with next:=st.next+1} (.name t.fr t.to (Bv s.data.toList t.fr t.to)) N tv nv i root):=by
 obtain⟨j,rfl⟩:=h.E7 d;subst j;have k:st.next<body.length:=(zlE.1 a).1;have I:=h.many;have hK:atK body st.next=110:=by unfold atK;rw[a];simp[b];decide
 have⟨n,o,_,_,_,_,p⟩:=h.cells;have S:=RS.new h #[vU 0,vI (-1),vI (-1),vI (-1),vI st.next,vI 0,vI 0,vI 0,.bool false];go_in;go_wp21;generalize w.alloc (.cells #[vU 0,vI (-1),vI (-1),vI (-1),vI st.next,vI 0,vI 0,vI 0,.bool false] 276)=w1 at S ⊢;generalize w.heap.size=nb at S ⊢;go_call Du S.x as e1 w2 ⟨rfl,hg⟩;replace S:=(S.grown hg);rw[hK];have⟨⟨J,E,l,m,F⟩,W,H,S,q,r,v,x,y,z,A,C,D⟩:=RS.arm (vU 120) S d k;go_wp21;go_call Gq S.x oM ⟨120,-1,-1,-1,st.next,0,0,0⟩ 0 0 as e1 w5 ⟨rfl,b,nv',ho,hx⟩;replace S:=(S.next b ho hx);go_wp21;go_ret;refine⟨_,_,nv',st.next+1,_,rfl,S.k,S.o,oM,S.x,λf=>(by have e:st.stuck=true:=f;rw[d]at e;cases e),λ_=>⟨sM,?_,?_,oM,⟨t,a,rfl⟩,t,by rw[Nat.add_sub_cancel];exact a,rfl⟩⟩
 ·simp[flat,Fe g a]
 ·simp[Rf.T.sz]
theorem zgy(g:Lex 0 s.data.toList body)(h:Dm w B br bt s body st N tv nv i er root)(d:st.stuck=false)(H:N.length<=4000)(a:body[i]?=some t)(b:t.sort=2)(v:Int):
  Calls prog 231 #[pT br] w (Fk w B br bt s body {st with next:=st.next+1} (.int t.fr t.to v) N tv nv i root):=by
 obtain⟨j,rfl⟩:=h.E7 d;subst j;have k:st.next<body.length:=(zlE.1 a).1;have J:=h.many;have hK:atK body st.next=105:=by unfold atK;rw[a];simp[b];decide
 have⟨n,o,_,_,_,_,p⟩:=h.cells;have S:=RS.new h #[vU 0,vI (-1),vI (-1),vI (-1),vI st.next,vI 0,vI 0,vI 0,.bool false];go_in;go_wp21;generalize w.alloc (.cells #[vU 0,vI (-1),vI (-1),vI (-1),vI st.next,vI 0,vI 0,vI 0,.bool false] 276)=w1 at S ⊢;generalize w.heap.size=nb at S ⊢;go_call Du S.x as e1 w2 ⟨rfl,hg⟩;replace S:=(S.grown hg);rw[hK]
 iterate 1
  go_wp21;go_call Du S.x as e1 w2 ⟨rfl,hg⟩;replace S:=(S.grown hg);rw[hK]
 have⟨⟨L,F,l,m,G⟩,W,I,S,q,r,x,y,z,A,C,D,E⟩:=RS.arm (vU 105) S d k;go_wp21;go_call Gq S.x oM ⟨105,-1,-1,-1,st.next,0,0,0⟩ 0 0 as e1 w5 ⟨rfl,b,nv',ho,hx⟩;replace S:=(S.next b ho hx);go_wp21;go_ret;refine⟨_,_,nv',st.next+1,_,rfl,S.k,S.o,oM,S.x,λf=>(by have e:st.stuck=true:=f;rw[d]at e;cases e),λ_=>⟨sM,?_,?_,oM,⟨t,a,rfl⟩,t,by rw[Nat.add_sub_cancel];exact a,rfl⟩⟩
 ·simp[flat,Fe g a]
 ·simp[Rf.T.sz]
theorem zet(f:Lex 0 s.data.toList body)(h:Dm w B br bt s body st N tv nv i er root)(d:st.stuck=false)(H:N.length<=4000)(a:body[i]?=some t)(b:t.sort=10):
  Calls prog 231 #[pT br] w (Fk w B br bt s body {st with next:=st.next+1} (.Ak t.fr t.to true) N tv nv i root):=by
 obtain⟨k,rfl⟩:=h.E7 d;subst k;have l:st.next<body.length:=(zlE.1 a).1;have J:=h.many;have hK:atK body st.next=107:=by unfold atK;rw[a];simp[b];decide
 have j:=(Ib f a (c:=10) dZ).2 b;have⟨o,p,_,_,_,_,q⟩:=h.cells;have S:=RS.new h #[vU 0,vI (-1),vI (-1),vI (-1),vI st.next,vI 0,vI 0,vI 0,.bool false];go_in;go_wp21;generalize w.alloc (.cells #[vU 0,vI (-1),vI (-1),vI (-1),vI st.next,vI 0,vI 0,vI 0,.bool false] 276)=w1 at S ⊢;generalize w.heap.size=nb at S ⊢;go_call Du S.x as e1 w2 ⟨rfl,hg⟩;replace S:=(S.grown hg);rw[hK]
 iterate 1
  go_wp21;go_call Du S.x as e1 w2 ⟨rfl,hg⟩;replace S:=(S.grown hg);rw[hK]
 iterate 1
  go_wp21;go_call Cq S.x as e1 w2 ⟨rfl,hg⟩;replace S:=(S.grown hg);rw[j];simp[ug]
 have⟨⟨L,F,m,n,G⟩,W,I,S,r,v,x,y,z,A,C,D,E⟩:=RS.arm (vU 116) S d l;go_wp21;go_call Gq S.x oM ⟨116,-1,-1,-1,st.next,0,0,0⟩ 0 0 as e1 w5 ⟨rfl,b,nv',ho,hx⟩;replace S:=(S.next b ho hx);go_wp21;go_ret;refine⟨_,_,nv',st.next+1,_,rfl,S.k,S.o,oM,S.x,λg=>(by have e:st.stuck=true:=g;rw[d]at e;cases e),λ_=>⟨sM,?_,?_,oM,⟨t,a,rfl⟩,t,by rw[Nat.add_sub_cancel];exact a,rfl⟩⟩
 ·simp[flat,Fe f a]
 ·simp[Rf.T.sz]
theorem zch(f:Lex 0 s.data.toList body)(h:Dm w B br bt s body st N tv nv i er root)(d:st.stuck=false)(H:N.length<=4000)(a:body[i]?=some t)(b:t.sort=11):
  Calls prog 231 #[pT br] w (Fk w B br bt s body {st with next:=st.next+1} (.Ak t.fr t.to false) N tv nv i root):=by
 obtain⟨k,rfl⟩:=h.E7 d;subst k;have l:st.next<body.length:=(zlE.1 a).1;have J:=h.many;have hK:atK body st.next=107:=by unfold atK;rw[a];simp[b];decide
 have j:=(Ib f a (c:=11) dZ).2 b;have⟨o,p,_,_,_,_,q⟩:=h.cells;have S:=RS.new h #[vU 0,vI (-1),vI (-1),vI (-1),vI st.next,vI 0,vI 0,vI 0,.bool false];go_in;go_wp21;generalize w.alloc (.cells #[vU 0,vI (-1),vI (-1),vI (-1),vI st.next,vI 0,vI 0,vI 0,.bool false] 276)=w1 at S ⊢;generalize w.heap.size=nb at S ⊢;go_call Du S.x as e1 w2 ⟨rfl,hg⟩;replace S:=(S.grown hg);rw[hK]
 iterate 1
  go_wp21;go_call Du S.x as e1 w2 ⟨rfl,hg⟩;replace S:=(S.grown hg);rw[hK]
 iterate 2
  go_wp21;go_call Cq S.x as e1 w2 ⟨rfl,hg⟩;replace S:=(S.grown hg);rw[j];simp[ug]
 have⟨⟨L,F,m,n,G⟩,W,I,S,r,v,x,y,z,A,C,D,E⟩:=RS.arm (vU 102) S d l;go_wp21;go_call Gq S.x oM ⟨102,-1,-1,-1,st.next,0,0,0⟩ 0 0 as e1 w5 ⟨rfl,b,nv',ho,hx⟩;replace S:=(S.next b ho hx);go_wp21;go_ret;refine⟨_,_,nv',st.next+1,_,rfl,S.k,S.o,oM,S.x,λg=>(by have e:st.stuck=true:=g;rw[d]at e;cases e),λ_=>⟨sM,?_,?_,oM,⟨t,a,rfl⟩,t,by rw[Nat.add_sub_cancel];exact a,rfl⟩⟩
 ·simp[flat,Fe f a]
 ·simp[Rf.T.sz]
theorem zgz(f:Lex 0 s.data.toList body)(h:Dm w B br bt s body st N tv nv i er root)(d:st.stuck=false)(H:N.length<=4000)(a:body[i]?=some t)(b:t.sort=12):
  Calls prog 231 #[pT br] w (Fk w B br bt s body {st with next:=st.next+1} (.side t.fr t.to false) N tv nv i root):=by
 obtain⟨k,rfl⟩:=h.E7 d;subst k;have l:st.next<body.length:=(zlE.1 a).1;have J:=h.many;have hK:atK body st.next=107:=by unfold atK;rw[a];simp[b];decide
 have j:=(Ib f a (c:=12) dZ).2 b;have⟨o,p,_,_,_,_,q⟩:=h.cells;have S:=RS.new h #[vU 0,vI (-1),vI (-1),vI (-1),vI st.next,vI 0,vI 0,vI 0,.bool false];go_in;go_wp21;generalize w.alloc (.cells #[vU 0,vI (-1),vI (-1),vI (-1),vI st.next,vI 0,vI 0,vI 0,.bool false] 276)=w1 at S ⊢;generalize w.heap.size=nb at S ⊢;go_call Du S.x as e1 w2 ⟨rfl,hg⟩;replace S:=(S.grown hg);rw[hK]
 iterate 1
  go_wp21;go_call Du S.x as e1 w2 ⟨rfl,hg⟩;replace S:=(S.grown hg);rw[hK]
 iterate 3
  go_wp21;go_call Cq S.x as e1 w2 ⟨rfl,hg⟩;replace S:=(S.grown hg);rw[j];simp[ug]
 have⟨⟨L,F,m,n,G⟩,W,I,S,r,v,x,y,z,A,C,D,E⟩:=RS.arm (vU 49) S d l;go_wp21;go_call Gq S.x oM ⟨49,-1,-1,-1,st.next,0,0,0⟩ 0 0 as e1 w5 ⟨rfl,b,nv',ho,hx⟩;replace S:=(S.next b ho hx);go_wp21;go_ret;refine⟨_,_,nv',st.next+1,_,rfl,S.k,S.o,oM,S.x,λg=>(by have e:st.stuck=true:=g;rw[d]at e;cases e),λ_=>⟨sM,?_,?_,oM,⟨t,a,rfl⟩,t,by rw[Nat.add_sub_cancel];exact a,rfl⟩⟩
 ·simp[flat,Fe f a]
 ·simp[Rf.T.sz]
theorem zg0(f:Lex 0 s.data.toList body)(h:Dm w B br bt s body st N tv nv i er root)(d:st.stuck=false)(H:N.length<=4000)(a:body[i]?=some t)(b:t.sort=13):
  Calls prog 231 #[pT br] w (Fk w B br bt s body {st with next:=st.next+1} (.side t.fr t.to true) N tv nv i root):=by
 obtain⟨k,rfl⟩:=h.E7 d;subst k;have l:st.next<body.length:=(zlE.1 a).1;have J:=h.many;have hK:atK body st.next=107:=by unfold atK;rw[a];simp[b];decide
 have j:=(Ib f a (c:=13) dZ).2 b;have⟨o,p,_,_,_,_,q⟩:=h.cells;have S:=RS.new h #[vU 0,vI (-1),vI (-1),vI (-1),vI st.next,vI 0,vI 0,vI 0,.bool false];go_in;go_wp21;generalize w.alloc (.cells #[vU 0,vI (-1),vI (-1),vI (-1),vI st.next,vI 0,vI 0,vI 0,.bool false] 276)=w1 at S ⊢;generalize w.heap.size=nb at S ⊢;go_call Du S.x as e1 w2 ⟨rfl,hg⟩;replace S:=(S.grown hg);rw[hK]
 iterate 1
  go_wp21;go_call Du S.x as e1 w2 ⟨rfl,hg⟩;replace S:=(S.grown hg);rw[hK]
 iterate 4
  go_wp21;go_call Cq S.x as e1 w2 ⟨rfl,hg⟩;replace S:=(S.grown hg);rw[j];simp[ug]
 have⟨⟨L,F,m,n,G⟩,W,I,S,r,v,x,y,z,A,C,D,E⟩:=RS.arm (vU 50) S d l;go_wp21;go_call Gq S.x oM ⟨50,-1,-1,-1,st.next,0,0,0⟩ 0 0 as e1 w5 ⟨rfl,b,nv',ho,hx⟩;replace S:=(S.next b ho hx);go_wp21;go_ret;refine⟨_,_,nv',st.next+1,_,rfl,S.k,S.o,oM,S.x,λg=>(by have e:st.stuck=true:=g;rw[d]at e;cases e),λ_=>⟨sM,?_,?_,oM,⟨t,a,rfl⟩,t,by rw[Nat.add_sub_cancel];exact a,rfl⟩⟩
 ·simp[flat,Fe f a]
 ·simp[Rf.T.sz]
end
end
section
section
variable {w:World}{B br bt:Nat}{s:ByteArray}{body:List Tw.Tok}{st:Tw.PS}{N:List Tw.Rf.RN}{tv nv:Value}{i:Nat}{er root:Int}
theorem zeu(a:Lex 0 s.data.toList body)(h:Dm w B br bt s body st N tv nv i er root)(G:st.stuck=false)(o:Ap (atS body i)=false){st':PS}(p:Hj (Bw s body) st=some st')(t:Tw.T):
  Calls prog 231 #[pT br] w (Fk w B br bt s body st' t N tv nv i root):=by
 obtain⟨F,rfl⟩:=h.E7 G;subst F;have H:=(Dz p).1;simp only[Ap,decide_eq_false_iff_not,not_or]at o;have⟨I,Q,J,L,M,O,P⟩:=o;have R:((atK body st.next:Int)==110)=false:=by have:atK body st.next≠110:=λe=>I ((Zp body st.next).1.1 e);simp;omega
 have X:((atK body st.next:Int)==105)=false:=by have:atK body st.next≠105:=λe=>Q ((Zp body st.next).2.1 e);simp;omega
 have S:(atT s.data.toList body st.next == [116,114,117,101])=false:=by rw[show([116,114,117,101]:zU)=Eo 10 by decide];simpa using λe=>J ((D8 a st.next (c:=10) dZ).1 e)
 have T:(atT s.data.toList body st.next == [102,97,108,115,101])=false:=by rw[show([102,97,108,115,101]:zU)=Eo 11 by decide];simpa using λe=>L ((D8 a st.next (c:=11) dZ).1 e)
 have U:(atT s.data.toList body st.next == [102,115,116])=false:=by rw[show([102,115,116]:zU)=Eo 12 by decide];simpa using λe=>M ((D8 a st.next (c:=12) dZ).1 e)
 have V:(atT s.data.toList body st.next == [115,110,100])=false:=by rw[show([115,110,100]:zU)=Eo 13 by decide];simpa using λe=>O ((D8 a st.next (c:=13) dZ).1 e)
 have W:(atT s.data.toList body st.next == [40])=false:=by rw[show([40]:zU)=Eo 16 by decide];simpa using λe=>P ((D8 a st.next (c:=16) dZ).1 e)
 have⟨Y,Z,_,_,_,_,c6⟩:=h.cells;go_in;go_wp21;obtain⟨b,q⟩:∃b,w.alloc (.cells #[vU 0,vI (-1),vI (-1),vI (-1),vI st.next,vI 0,vI 0,vI 0,.bool false] 276)=b:=⟨_,rfl⟩;generalize w.heap.size=nb;have n:zG w b:=by rw[<-q];exact zwA _ _ none
 have d:=h.grown n;rw[q];go_call Du d as e1 w2 ⟨rfl,hg⟩;have r:=Ab n hg;have f:=d.grown hg;go_wp21;go_call Du f as e1 w3 ⟨rfl,hg⟩;have v:=Ab r hg;have g:=f.grown hg;go_wp21;go_call Cq g as e1 w4 ⟨rfl,hg⟩;have x:=Ab v hg;have j:=g.grown hg;simp only[ug];go_wp21;go_call Cq j as e1 w5 ⟨rfl,hg⟩;have y:=Ab x hg;have k:=j.grown hg;simp only[ug];go_wp21;go_call Cq k as e1 w6 ⟨rfl,hg⟩;have z:=Ab y hg;have l:=k.grown hg;simp only[ug];go_wp21;go_call Cq l as e1 w7 ⟨rfl,hg⟩;have A:=Ab z hg;have m:=l.grown hg;simp only[ug];go_wp21;go_call Cq m as e1 w8 ⟨rfl,hg⟩;have C:=Ab A hg;have D:=m.grown hg;simp only[ug];go_wp21;go_call We D p as e1 w9 ⟨rfl,hk,er9,hx⟩;have E:=(RK.Ae br bt nv C).trans hk (Own.refl _ _);go_wp21;go_ret;exact⟨_,N,nv,st.next,_,rfl,E,Own.refl _ _,znL _,hx,λ_=>oM,λe=>(by rw[H]at e;cases e)⟩
end
end
def Df(F:Nat)(h:PS->Option (Tw.T×PS))(s:ByteArray)(body:List Tw.Tok):Prop:=
 ∀ {w:World} {B a c:Nat} {b:PS} {N:List RN} {f d:Value} {i:Nat} {g root:Int} {t:Tw.T} {e:PS},Dm w B a c s body b N f d i g root->b.stuck=false->N.length<=2*i+1000->h b=some (t,e) ->
  Calls prog F #[.pointer (some ⟨a,0,none⟩)] w (Fk w B a c s body e t N f d i root)
theorem zsv{s:ByteArray}{body:List Tw.Tok}(hL:Lex 0 s.data.toList body){n:Nat}(hA:∀m,m<=n->Df 231 (Ev s.data.toList (Bw s body) m) s body):Df 224 (Gv s.data.toList (Bw s body) (n+1)) s body:=by
 intro w B br bt st N tv nv i er root t st' h hs hN hf;have hE:Rf.Ends (Bw s body):=⟨⟨0,s.size,s.size⟩,sM,rfl⟩;rw[Gv]at hf;have⟨⟨a1,st1⟩,ha,hf⟩:=zbE.1 hf;have⟨c0,c1,_,_,_,_,c6⟩:=h.cells;have HC:=bV (hA n (znL _) h hs hN ha);have HF:=bV hf;have hm:=h.many;have HA:=bV hA;clear ha hf h hA;go_in;go_wp21;go_call uh HC as e1 w1 ⟨k1,N1,nv1,i1,er1,rfl,hk,ho,hi1,hx,hc,hg⟩;have X1:=bV hx;have K1:=bV hk;have O1:=bV ho;have C1:=bV hc;have D1:=bV hg;clear hk ho hx hc hg HC c0 c1 c6;go_wp21;go_loopg[4] n (λj kv wr=>∃(left:Tw.T) (stc:PS) (Nc:List RN) (nvc:Value) (ic:Nat) (erc kk:Int),j<=n/\kv=vI kk/\Hid (Bh s.data.toList (Bw s body) j left stc=some (t,st'))/\Hid (Dm wr B br bt s body stc Nc tv nvc ic erc root)/\Hid (RK br bt nv w wr)/\Hid (Own w nv nvc)/\i<=ic/\Hid (stc.stuck=true->Nc.length<=N.length+2*(ic-i)+1) /\
  Hid (stc.stuck=false->Nc.length+1<=N.length+2*(ic-i)/\Nc=N++flat (ixF body) (ixT body) left N.length/\kk=((N.length+Rf.T.sz left-1:Nat):Int)/\i<ic/\(∃k0,body[i]?=some k0/\k0.fr=left.fr)/\∃k1,body[ic-1]?=some k1/\k1.to=left.to))
 case atStart=>exact⟨a1,st1,N1,nv1,i1,er1,k1,znL _,rfl,HF,X1,K1,O1,hi1,C1,D1⟩
 case round=>
  obtain⟨left,stc,Nc,nvc,ic,erc,kk,hj,rfl,HF,X,K,O,hic,C,D⟩:=hrel;clear X1 K1 O1 C1 D1;have⟨c0,c1,_,_,_,_,c6⟩:=X.o.cells;cases gk with
  |zero=>exact absurd HF.o (by simp[Bh])
  |succ m=>
   cases hsc:stc.stuck with
   |true=>
    obtain⟨j,tk,rfl,_⟩:=X.o.bad hsc;have hji:¬(j:Int)<0:=oM;have⟨tk2,q1,q2⟩:=Hq hE hsc;have e:left=t/\stc=st':=by
     have:=HF.o;rw[Bh,q1,zbS,jA (by rw[q2];decide)]at this;simpa using this
    obtain⟨rfl,rfl⟩:=e;clear q1 q2;go_wp21;go_ret;exact⟨kk,Nc,nvc,ic,_,rfl,K.o,O.o,hic,X.o,C.o,D.o⟩
   |false=>
    obtain⟨q0,rfl⟩:=X.o.E7 hsc;subst q0;have⟨hb1,hNc,hkk,hlt,hf0,hf1⟩:=D.o hsc;have htok:∃tk,Ej (Bw s body) stc=some tk/\atS body stc.next=tk.sort:=by
     have hile:=X.o.ile;simp only[Ej,hsc,xA,if_false];rcases yB stc.next body.length with h1|h1
     ·refine⟨body[stc.next],by rw[iA h1,fA h1],?_⟩;unfold atS;rw[fA h1]
     ·have e:stc.next=body.length:=oM;refine⟨⟨0,s.size,s.size⟩,by rw[e];simp,?_⟩;unfold atS;rw[gD h1]
    have⟨tk,htk,hat⟩:=htok;have HFm:=HF.o;rw[Bh,htk,zbS]at HFm;have HB:=bV (znw hL X.o);rw[hat]at HB;have HNC:=bV hNc;have HKK:=bV hkk;have HF0:=bV hf0;have hile:=X.o.ile;clear hNc hkk hf0 D C htk hat;cases hbg:Ap tk.sort with
    |false=>
     rw[hbg]at HFm HB;simp at HFm;obtain⟨rfl,rfl⟩:=HFm;go_wp21;go_call uh HB as e1 w2 ⟨rfl,hg⟩;have X2:=X.o.grown hg;have K2:=K.o.trans (RK.Ae br bt nvc hg) O.o;clear hg X K;go_wp21;go_ret;exact⟨kk,Nc,nvc,stc.next,_,rfl,K2,O.o,hic,X2,λe=>(by rw[hsc]at e;cases e),λ_=>⟨hb1,uh HNC,uh HKK,hlt,uh HF0,hf1⟩⟩
    |true=>
     rw[hbg,mA rfl]at HFm;rw[hbg]at HB;have⟨⟨b2,st2⟩,hb2,hf2⟩:=zbE.1 HFm;clear HFm HF;go_wp21;go_call uh HB as e1 w2 ⟨rfl,hg⟩;have X2:=X.o.grown hg;have K2:=K.o.trans (RK.Ae br bt nvc hg) O.o;clear hg X K HB;go_wp21;go_call uh HA m oM X2 hsc oM hb2 as e1 w3 ⟨k3,N3,nv3,i3,er3,rfl,hk,ho,hi3,hx,hc,hg⟩;have X3:=hx;have K3:=K2.trans hk O.o;have O3:=O.o.trans ho K2.size;have hl3:=hx.ile;have hN3:N3.length<=3000:=by
      cases h3:st2.stuck with
      |true=>have:=hc h3;omega
      |false=>have:=(hg h3).1;omega
     clear hk ho hx X2 K2;go_wp21;go_call Gq X3 oM ⟨97,kk,k3,-1,i,0,0,0⟩ 0 0 as e1 w4 ⟨rfl,hk,nv4,ho,hx⟩;have K4:=K3.trans hk O3;have O4:=O3.trans ho K3.size;clear hk ho X3 K3 O3;go_wp21;go_roundg m
     case measure=>omega
     case rel=>
      refine⟨.call left.fr b2.to left b2,st2,_,nv4,i3,er3,(N3.length:Int),oM,rfl,hf2,hx,K4,O4,oM,λe=>?_,λe=>?_⟩
      ·have:=hc e;rw[eA,wB];omega
      ·have⟨d1,d2,d3,d4,⟨u0,_,_⟩,u1,v1,v2⟩:=hg e;have⟨k0,m1,m2⟩:=uh HF0;have lN:Nc.length=N.length+Rf.T.sz left:=(by rw[uh HNC,eA,Ao]);have l3:N3.length=N.length+Rf.T.sz left+Rf.T.sz b2:=(by rw[d2,eA,Ao,lN]);have s1:=Rf.T.Vb left;refine⟨by rw[eA,wB];omega,?_,?_,oM,⟨k0,m1,m2⟩,u1,v1,v2⟩
       ·rw[d2,lN]
        conv=>lhs;rw[uh HNC]
        simp only[flat,wA];rw[uh HKK,d3,lN,<-m2,Fe hL m1,<-v2,zj1 hL v1,show((i3-1:Nat):Int)=(i3:Int)-1 by omega]
       ·simp only[Rf.T.sz];omega
end
section
open Tw Tw.Rf
open Go.RowKit
section
variable{s:ByteArray}{body:List Tw.Tok}{x y:Int}
theorem za0{st:PS}(m:st.stuck=false)(hi:st.next<=body.length)(o:body.length<=300){b d:Int}(a:b≠0)(j:d≠0):
  Bn (Bw s body) [b,d] st=if atS body st.next=b then some (b,{st with next:=st.next+1})else if atS body st.next=d then some (d,{st with next:=st.next+1})else some (0,st):=by
 have n:∃tk,Ej (Bw s body) st=some tk/\atS body st.next=tk.sort:=by
  simp only[Ej,m,xA,if_false];rcases yB st.next body.length with a|a
  ·refine⟨body[st.next],by rw[iA a,fA a],?_⟩;unfold atS;rw[fA a]
  ·have g:st.next=body.length:=oM;refine⟨⟨0,s.size,s.size⟩,by rw[g];simp,?_⟩;unfold atS;rw[gD a]
 obtain⟨tk,h,k⟩:=n;rw[k];have i:∀c:Int,c≠0->tk.sort=c->Tw.Bg (Bw s body) c st=some (tk,{st with next:=st.next+1}):=λc l g=>by
  simp only[Tw.Bg,h,zbS,mA g,jA l];rw[mA oM]
 simp only[Bn,h,zbS];by_cases e:tk.sort=b
 ·rw[mA e,mA e,i b a e,zbS,e]
 ·rw[jA e,jA e];by_cases f:tk.sort=d
  ·rw[mA f,mA f,i d j f,zbS,f]
  ·rw[jA f,jA f]
theorem zc5(h:Lex 0 s.data.toList body){a b:UInt8}(i:Eo x=[a]/\3<=x/\x<=23)(j:Eo y=[b]/\3<=y/\y<=23)(l:([b] == [a])=false)(k:Nat):
  (atS body k=x/\atT s.data.toList body k=[a])\/(atS body k=y/\atT s.data.toList body k=[b]/\([b] == [a])=false)\/(¬atS body k=x/\¬atS body k=y/\(atT s.data.toList body k == [a])=false/\(atT s.data.toList body k == [b])=false):=by
 have f:=D8 h k i.2;have g:=D8 h k j.2;rw[i.1]at f;rw[j.1]at g;by_cases c:atS body k=x
 ·exact .inl ⟨c,f.2 c⟩
 ·by_cases d:atS body k=y
  ·exact .inr (.inl ⟨d,g.2 d,l⟩)
  ·exact .inr (.inr ⟨c,d,by simpa using λe=>c (f.1 e),by simpa using λe=>d (g.1 e)⟩)
theorem zg2(hL:Lex 0 s.data.toList body){n f g:Nat}{p:Part}(hw:(f=215/\g=224/\p=.call/\x=21/\y=22)\/(f=195/\g=215/\p=.term/\x=19/\y=20))(hA:∀m,m<=n->Df g (Dw s.data.toList (Bw s body) m p) s body):Df f (Ed s.data.toList (Bw s body) (n+1) p [x,y]) s body:=by
 intro w B br bt st N tv nv i er root t st' h hs hN hf;have hE:Rf.Ends (Bw s body):=⟨⟨0,s.size,s.size⟩,sM,rfl⟩;rw[Ed]at hf;obtain⟨⟨a1,st1⟩,ha,hf⟩:=zbE.1 hf;obtain⟨c0,c1,_,_,_,_,c6⟩:=h.cells;obtain⟨CF,hCF⟩:∃CF:Nat->Tw.T->PS->Option (Tw.T×PS),∀j l st,CF j l st=Bd s.data.toList (Bw s body) j p [x,y] l st:=⟨_,λ_ _ _=>rfl⟩;rw[<-hCF]at hf;have HC:=bV (hA n (znL _) h hs hN ha);have HCF:=bV hCF;have HF:=bV hf;have HH:=bV h;have hi:=h.ile;have hm:=h.many;have HA:=bV hA;have DD:Hid (∃bx bz,(bx,bz)=(if x=21 then((42:UInt8),(47:UInt8))else(43,45))/\∀k,(atS body k=x/\atT s.data.toList body k=[bx])\/(atS body k=y/\atT s.data.toList body k=[bz]/\([bz] == [bx])=false)\/(¬atS body k=x/\¬atS body k=y/\(atT s.data.toList body k == [bx])=false/\(atT s.data.toList body k == [bz])=false)):=by
  rcases hw with⟨_,_,_,rfl,rfl⟩|⟨_,_,_,rfl,rfl⟩
  ·exact⟨42,47,rfl,zc5 hL dZ dZ rfl⟩
  ·exact⟨43,45,rfl,zc5 hL dZ dZ rfl⟩
 clear ha hf h hA hCF;rcases hw with⟨rfl,rfl,rfl,rfl,rfl⟩|⟨rfl,rfl,rfl,rfl,rfl⟩
 all_goals
  obtain⟨bx,bz,hbb,dd⟩:=DD.o;simp at hbb;obtain⟨rfl,rfl⟩:=hbb;have D2:=bV dd;clear dd DD;go_in;go_wp2_with fail;refine(uh HC).mono ?_;rintro e1 w1 ⟨k1,N1,nv1,i1,er1,rfl,hk,ho,hi1,hx,hc,hg⟩;have X1:=bV hx;have K1:=bV hk;have O1:=bV ho;have C1:=bV hc;have D1:=bV hg;clear hk ho hx hc hg HC HH c0 c1 c6;go_wp2_with fail;go_loopg[4] n (λj kv wr=>∃(left:Tw.T) (stc:PS) (Nc:List RN) (nvc:Value) (ic:Nat) (erc kk:Int),j<=n/\kv=vI kk/\Hid (CF j left stc=some (t,st'))/\Hid (Dm wr B br bt s body stc Nc tv nvc ic erc root)/\Hid (RK br bt nv w wr)/\Hid (Own w nv nvc)/\i<=ic/\Hid (stc.stuck=true->Nc.length<=N.length+2*(ic-i)+1) /\
   Hid (stc.stuck=false->Nc.length+1<=N.length+2*(ic-i)/\Nc=N++flat (ixF body) (ixT body) left N.length/\kk=((N.length+Rf.T.sz left-1:Nat):Int)/\i<ic/\(∃k0,body[i]?=some k0/\k0.fr=left.fr)/\∃k1,body[ic-1]?=some k1/\k1.to=left.to))
  case atStart=>exact⟨a1,st1,N1,nv1,i1,er1,k1,znL _,rfl,HF,X1,K1,O1,hi1,C1,D1⟩
  case round=>
   obtain⟨left,stc,Nc,nvc,ic,erc,kk,hj,rfl,HF,X,K,O,hic,C,D⟩:=hrel;clear X1 K1 O1 C1 D1;obtain⟨c0,c1,_,_,_,_,c6⟩:=X.o.cells;cases gk with
   |zero=>exact absurd HF.o (by rw[HCF.o];simp[Bd])
   |succ m=>
    have HFm:=HF.o;rw[HCF.o,Bd]at HFm;cases hsc:stc.stuck with
    |true=>
     obtain⟨j,tk,rfl,_⟩:=X.o.bad hsc;have hji:¬(j:Int)<0:=oM;rw[Kv hE hsc _ sM]at HFm;obtain⟨rfl,rfl⟩:left=t/\stc=st':=(by simpa using HFm);clear HFm;go_wp2_with fail;go_ret;exact⟨kk,Nc,nvc,ic,_,rfl,K.o,O.o,hic,X.o,C.o,D.o⟩
    |false=>
     obtain⟨q0,rfl⟩:=X.o.E7 hsc;subst q0;obtain⟨hb1,hNc,hkk,hlt,hf0,hf1⟩:=D.o hsc;have HNC:=bV hNc;have HKK:=bV hkk;have HF0:=bV hf0;have HF1:=bV hf1;have HSC:=bV hsc;have hile:=X.o.ile;have HAT:=bV (Cq X.o);have dd:=D2.o stc.next;obtain⟨S0,hS0⟩:∃S0,atS body stc.next=S0:=⟨_,rfl⟩;obtain⟨T0,hT0⟩:∃T0,atT s.data.toList body stc.next=T0:=⟨_,rfl⟩;have HS0:=bV hS0;have HT0:=bV hT0;rw[hS0,hT0]at dd;rw[hT0]at HAT;rw[za0 hsc hile hm dZ dZ,hS0]at HFm;have hlt2:S0≠0->stc.next<body.length:=λh0=>by
      rcases yB stc.next body.length with h1|h1
      ·exact h1
      ·have:=uh HS0;unfold atS at this;rw[gD h1]at this;exact absurd this.symm h0
     clear hNc hkk hf0 hf1 D C hS0 hT0 HF;rcases dd with⟨rfl,rfl⟩|⟨rfl,rfl,n1⟩|⟨e1,e2,n1,n2⟩;rotate_left 2
     ·rw[jA e1,jA e2]at HFm;simp at HFm;obtain⟨rfl,rfl⟩:=HFm;clear hlt2;go_wp2_with fail;refine(uh HAT).mono ?_;rintro e1 w2 ⟨rfl,hg⟩;have X2:=bV (X.o.grown hg);have K2:=bV (K.o.trans (RK.Ae br bt nvc hg) O.o);clear hg X K;simp only[ug];go_wp2_with fail;refine(Cq X2.o).mono ?_;rintro e1 w3 ⟨rfl,hg⟩;have X3:=bV (X2.o.grown hg);have K3:=bV (K2.o.trans (RK.Ae br bt nvc hg) O.o);rw[uh HT0];clear hg X2 K2;simp only[ug];go_wp2_with fail;go_ret;exact⟨kk,Nc,nvc,stc.next,_,rfl,K3.o,O.o,hic,X3.o,λe=>(by rw[uh HSC]at e;cases e),λ_=>⟨hb1,uh HNC,uh HKK,hlt,uh HF0,uh HF1⟩⟩
     all_goals
      simp at HFm;obtain⟨⟨b2,st2⟩,hb2,hf2⟩:=zbE.1 HFm;rw[<-HCF.o]at hf2;have HB2:=bV hb2;have HF2:=bV hf2;have hlt2:=hlt2 dZ;clear HFm hb2 hf2;go_wp2_with fail;refine(uh HAT).mono ?_;rintro e1 wa ⟨rfl,hg⟩;have Xa:=bV (X.o.grown hg);have Ka:=bV (K.o.trans (RK.Ae br bt nvc hg) O.o);clear hg X K;simp only[ug];go_wp2_with fail;refine(Cq Xa.o).mono ?_;rintro e1 wb ⟨rfl,hg⟩;have X:=bV (Xa.o.grown hg);have K:=bV (Ka.o.trans (RK.Ae br bt nvc hg) O.o);clear hg Xa Ka;rw[uh HT0];simp only[ug]
     rotate_left
     focus
      go_wp2_with fail;refine(Cq X.o).mono ?_;rintro e1 wc ⟨rfl,hg⟩;have X:=bV (X.o.grown hg);have K:=bV (K.o.trans (RK.Ae br bt nvc hg) O.o);clear hg;rw[uh HT0];simp only[ug]
     all_goals
      obtain⟨c0,c1,_,_,_,_,c6⟩:=X.o.cells;obtain⟨f1,_,_,_⟩:=X.o.frozen;have R4:=bV (X.o.zhx (st':={stc with next:=stc.next+1}) (i':=stc.next+1) rfl (λ_=>⟨rfl,rfl⟩) (λe=>(by have e2:stc.stuck=true:=e;rw[uh HSC]at e2;cases e2)) oM (λ_=>uh HSC));have K4:=bV (K.o.zkt (j:=1) (vI ((stc.next+1:Nat):Int)));rw[show((stc.next+1:Nat):Int)=(stc.next:Int)+1 by omega]at R4 K4;clear X K;go_wp2_with fail;refine(uh HA m oM (uh R4) (uh HSC) oM (uh HB2)).mono ?_;rintro e1 w3 ⟨k3,N3,nv3,i3,er3,rfl,hk,ho,hi3,hx,hc,hg⟩;have X3:=bV hx;have K3:=bV (K4.o.trans hk O.o);have O3:=bV (O.o.trans ho K4.o.size);have C3:=bV hc;have D3:=bV hg;have hl3:=hx.ile;have hN3:N3.length<=3000:=by
       cases h3:st2.stuck with
       |true=>have:=hc h3;omega
       |false=>have:=(hg h3).1;omega
      clear hk ho hx hc hg R4 K4 c0 c1 c6 f1;go_wp2_with fail;refine(Gq (uh X3) oM ⟨_,kk,k3,-1,i,0,0,0⟩ 0 0).mono ?_;rintro e1 w4 ⟨rfl,hk,nv4,ho,hx⟩;have X4:=bV hx;have K4:=bV (K3.o.trans hk O3.o);have O4:=bV (O3.o.trans ho K3.o.size);clear hk ho hx X3 K3 O3;go_wp2_with fail;go_roundg m
      case measure=>omega
      case rel=>
       refine⟨_,st2,_,nv4,i3,er3,(N3.length:Int),oM,rfl,HF2,X4,K4,O4,oM,λe=>?_,λe=>?_⟩
       ·have:=C3.o e;rw[eA,wB];omega
       ·obtain⟨d1,d2,d3,d4,⟨u0,_,_⟩,u1,v1,v2⟩:=D3.o e;obtain⟨k0,m1,m2⟩:=uh HF0;have lN:Nc.length=N.length+Rf.T.sz left:=(by rw[uh HNC,eA,Ao]);have l3:N3.length=N.length+Rf.T.sz left+Rf.T.sz b2:=(by rw[d2,eA,Ao,lN]);have s1:=Rf.T.Vb left;refine⟨by rw[eA,wB];omega,?_,?_,oM,⟨k0,m1,m2⟩,u1,v1,v2⟩
        ·rw[d2,lN]
         conv=>lhs;rw[uh HNC]
         simp only[flat,wA];rw[uh HKK,d3,lN,<-m2,Fe hL m1,<-v2,zj1 hL v1,show((i3-1:Nat):Int)=(i3:Int)-1 by omega];rfl
        ·simp only[Rf.T.sz];omega
end
end
section
open Tw Tw.Rf Go.Proofs.Tryz
open Go.RowKit
section
section
variable {w:World}{nb:Nat}{c:Array Value}{B br bt:Nat}{s:ByteArray}{body:List Tw.Tok}{st:Tw.PS}{N:List Tw.Rf.RN}{tv nv0 nv:Value}{i:Nat}{er root:Int}{w':World}
theorem RS.post(h:RS w nb c B br bt s body st N tv nv0 nv i er root w'){d:World}{st2:PS}(p:zbi w' B br bt s body st2 N tv nv i root d):∃a b,i<=a/\RS w nb c B br bt s body st2 N tv nv0 nv a b root d:=by
 have⟨k,a,b,e,x⟩:=p;exact⟨a,b,e,h.next k (Own.refl _ _) x⟩
theorem RS.zhu(h:RS w nb c B br bt s body st N tv nv0 nv i er root w'){st2:PS}(a:Tw.endS st=some st2):RS w nb c B br bt s body st2 N tv nv0 nv i er root (w'.setCell (aD br 2) (vI ((st.depth:Int)-1))):=by
 unfold Tw.endS at a;split at a
 ·cases a
 ·rename_i b;cases a;have d:=h.x.dep;have x:=h.x.zhu (st':={st with depth:=st.depth-1}) rfl rfl rfl (by simp only;omega) (λe=>by have:=h.x.zhv e;simp only;omega);have e:((st.depth-1:Nat):Int)=(st.depth:Int)-1:=oM;simp[e]at x;exact h.next ((RK.refl _ _ _ _).zkt _) (Own.refl _ _) x
end
variable{c:Int}{s:ByteArray}
theorem Tw.Rf.Il{d:List Tw.Tok}{st:PS}{r:Tw.Tok×PS}(j:c≠0)(h:Tw.Bg d c st=some r)(a:r.2.stuck=false):st.stuck=false/\r.2={st with next:=st.next+1}/\d[st.next]?=some r.1/\r.1.sort=c:=by
 have b:=(An (t:=r.1) (st':=r.2) h).1 a;unfold Tw.Bg at h;have⟨t,g,h⟩:=zbE.1 h;split at h
 ·rename_i e;split at h
  ·cases h;refine⟨b,rfl,?_,e⟩;simpa[Ej,b]using g
  ·cases h
 ·have⟨k,f,h⟩:=zbE.1 h;cases h;rw[(Dz f).1]at a;cases a
theorem Tw.Rf.O0{body:List Tw.Tok}{j:Nat}{t:Tw.Tok}(h:(Bw s body)[j]?=some t)(b:t.sort≠0):body[j]?=some t:=by
 rcases yB j body.length with a|a
 ·rwa[iA a]at h
 ·rw[fB a]at h;rcases Nat.eq_zero_or_pos (j-body.length)with e|e
  ·rw[e]at h;simp at h;rw[<-h]at b;exact absurd rfl b
  ·rw[gD (by simp;omega)]at h;cases h
theorem Ic{w:World}{B br bt:Nat}{body:List Tw.Tok}{st:PS}{N:List RN}{tv nv:Value}{i:Nat}{er root:Int}(a:Lex 0 s.data.toList body)(h:Dm w B br bt s body st N tv nv i er root)(b:3<=c/\c<=23){r:Tw.Tok×PS}(d:Tw.Bg (Bw s body) c st=some r){l:Array UInt8}(f:(Eo c).toArray=l):
  Calls prog 192 #[pT br,.string ⟨l⟩] w λe w'=>e=.returned (.tuple #[])/\zbi w B br bt s body r.2 N tv nv i root w':=by
 subst f;exact zsu a h b d
def ztt(w:World)(B br bt:Nat)(s:ByteArray)(body:List Tw.Tok)(st st':PS)(t:Tw.T)(N:List RN)(tv nv:Value)(i:Nat)(root:Int)(e:Ending)(w':World):Prop:=
 ∃(k:Int) (b:List RN) (g:Value) (a:Nat) (h:Int),e=.returned (.int .i64 k)/\RK br bt nv w w'/\Own w nv g/\i<=a/\Dm w' B br bt s body st' b tv g a h root/\(st.stuck=true->b.length=N.length)/\(st'.stuck=true->b.length<=N.length+2*(a-i)+1) /\
  (st'.stuck=false->b.length+1<=N.length+2*(a-i)/\b=N++flat (ixF body) (ixT body) t N.length/\k=((N.length+Rf.T.sz t-1:Nat):Int)/\i<a/\(∃d,body[i]?=some d/\d.fr=t.fr)/\∃f,body[a-1]?=some f/\f.to=t.to)
def zok(s:ByteArray)(body:List Tw.Tok)(n:Nat):Prop:=
 ∀ {w:World} {B br bt:Nat} {st:PS} {N:List RN} {tv nv:Value} {i:Nat} {er root:Int} {t:Tw.T} {a:PS},Dm w B br bt s body st N tv nv i er root->N.length<=2*i+1000->Cg s.data.toList (Bw s body) n st=some (t,a) ->
  Calls prog 120 #[.pointer (some ⟨br,0,none⟩)] w (ztt w B br bt s body st a t N tv nv i root)
theorem zle{body:List Tw.Tok}{n:Nat}(h:Df 120 (Cg s.data.toList (Bw s body) n) s body):zok s body n:=by
 intro w B br bt st N tv nv i er root t q b g d;cases a:st.stuck with
 |false=>
  go_call h b a g d as e w' ⟨k,N',nv',i',er',a1,a2,a3,a4,a5,a6,a7⟩;exact⟨k,N',nv',i',er',a1,a2,a3,a4,a5,λe=>(by rw[a]at e;cases e),a6,a7⟩
 |true=>
  have f:Rf.Ends (Bw s body):=⟨⟨0,s.size,s.size⟩,sM,rfl⟩;have e:=(zgw f n).expr a d;simp only at e;subst e;have⟨l,m,_,_,_,_,o⟩:=b.cells;obtain⟨j,t,rfl,_⟩:=b.bad a;have p:(0:Int)<=(j:Int):=oM;go_in;go_wp21;go_ret;exact⟨0,N,nv,i,_,rfl,RK.refl _ _ _ _,Own.refl _ _,znL _,b,λ_=>rfl,λ_=>oM,λe=>(by rw[a]at e;cases e)⟩
end
section
variable{N0 i0 N i:Nat}
def Jb(N0 i0:Nat)(st:PS)(N i:Nat):Prop:=i0<=i/\N<=N0+2*(i-i0)/\(st.stuck=false->N+1<=N0+2*(i-i0))
theorem Jb.tok{N0 i0:Nat}{st st':PS}{N i i':Nat}(h:Jb N0 i0 st N i)(hi:i<=i')(b:Hz st st'):Jb N0 i0 st' N i':=by
 have⟨d,f,a⟩:=h;exact⟨oM,oM,λe=>by have:=a (b.1 e);omega⟩
theorem Jb.ex{st st':PS}{N' i':Nat}(h:Jb N0 i0 st N i)(hi:i<=i')(g:st.stuck=true->N'=N)(j:st'.stuck=true->N'<=N+2*(i'-i)+1)(b:st'.stuck=false->N'+1<=N+2*(i'-i)):Jb N0 i0 st' N' i':=by
 have⟨k,l,f⟩:=h;cases d:st.stuck with
 |true=>
  have:=g d;exact⟨oM,oM,λe=>by have:=b e;omega⟩
 |false=>
  have:=f d;cases a:st'.stuck with
  |true=>have:=j a;exact⟨oM,oM,λe=>(by rw[a]at e;cases e)⟩
  |false=>have:=b a;exact⟨oM,oM,λe=>oM⟩
theorem Jb.fin{st st':PS}(h:Jb N0 i0 st N i)(a:Tw.endS st=some st'):Jb N0 i0 st' N i:=⟨h.1,h.2.1,λe=>h.2.2 (by rw[<-(Bp a).1];exact e)⟩
section
variable {w:World}{nb:Nat}{c:Array Value}{B br bt:Nat}{s:ByteArray}{body:List Tw.Tok}{st:Tw.PS}{N Nq:List Tw.Rf.RN}{tv nv0 nv:Value}{i i0:Nat}{er root:Int}{w':World}
theorem Fk.of(p:Lex 0 s.data.toList body){t:Tw.T}{x:RN}(k:RK br bt nv0 w w')(o:Own w nv0 nv)(X:Dm w' B br bt s body st (Nq++[{x with last:=(i:Int)-1,binder:=-1}]) tv nv i er root)(J:Jb N.length i0 st Nq.length i)(G:st.stuck=false->∃Y,Nq=N++Y/\flat (ixF body) (ixT body) t N.length=Y++[{x with last:=ixT body t.to,binder:=-1}]/\i0<i/\N.length+Y.length+2<=N.length+2*(i-i0)/\(∃j,body[i0]?=some j/\j.fr=t.fr)/\∃a,body[i-1]?=some a/\a.to=t.to):
  Fk w B br bt s body st t N tv nv0 i0 root (.returned (vI Nq.length)) w':=by
 have⟨q,v,y⟩:=J;refine⟨_,_,nv,i,er,rfl,k,o,q,X,λ_=>by rw[eA,wB];omega,λl=>?_⟩;have⟨Y,b,d,m,r,n,a,e,f⟩:=G l;have g:=congrArg List.length d;rw[Ao,eA,wB]at g;have h:=congrArg List.length b;rw[eA]at h;refine⟨by rw[eA,wB];omega,?_,by rw[g,h];omega,m,n,a,e,f⟩;rw[b,d,<-f,zj1 p e,wA,show((i-1:Nat):Int)=(i:Int)-1 by omega]
end
variable{c:Int}{s:ByteArray}{i:Nat}
theorem Tw.Rf.Nw{e:List Tw.Tok}{st:PS}{b:Nat×PS}(k:c≠0)(h:Fg e c st=some b)(m:b.2.stuck=false):b.2.next=st.next+1/\∃tk,e[st.next]?=some tk/\b.1=tk.fr/\tk.sort=c:=by
 unfold Fg at h;have⟨n,a,h⟩:=zbE.1 h;split at h
 case isFalse=>cases h
 have⟨r,l,h⟩:=zbE.1 h;cases h;have⟨d,f,g,j⟩:=Il k l m;split at a
 ·rw[show n.stuck=true from(Dz a).1]at d;cases d
 ·cases a;exact⟨by simp[f],r.1,g,rfl,j⟩
theorem zev{body:List Tw.Tok}{st:PS}(d:st.stuck=false)(hi:st.next<=body.length)(b:body.length<=300)(a:c≠0):
  Bn (Bw s body) [c] st=if atS body st.next=c then some (c,{st with next:=st.next+1})else some (0,st):=by
 rw[<-show Bn (Bw s body) [c,c] st=Bn (Bw s body) [c] st from ?_,za0 d hi b a a]
 ·by_cases e:atS body st.next=c<;>simp[e]
 ·simp[Bn];cases Ej (Bw s body) st with
  |none=>rfl
  |some t=>by_cases e:t.sort=c<;>simp[e]
theorem Jb.start{f:List Tw.Tok}{st:PS}{b:Nat×PS}{N0:Nat}(a:c≠0)(h:Fg f c st=some b)(hi:st.next<=i)(d:b.2.stuck=false->i=b.2.next):Jb N0 st.next b.2 N0 i:=
 ⟨hi,oM,λe=>by have:=(Nw a h e).1;have:=d e;omega⟩
theorem zj2{body:List Tw.Tok}(hL:Lex 0 s.data.toList body){n:Nat}(hX:zok s body n){w:World}{B br bt:Nat}{st:PS}{N:List RN}{tv nv:Value}{er root:Int}{t:Tw.T}{st':PS}(h:Dm w B br bt s body st N tv nv i er root)(hs:st.stuck=false)(hN:N.length<=2*i+1000){tk:Tw.Tok}(ht:body[i]?=some tk)(hk:tk.sort=16)(hf:Cd s.data.toList (Bw s body) (n+1) st=some (t,st')):
  Calls prog 231 #[pT br] w (Fk w B br bt s body st' t N tv nv i root):=by
 obtain⟨hi,rfl⟩:=h.E7 hs;subst hi;have hlt:st.next<body.length:=(zlE.1 ht).1;have hm:=h.many;have hK:atK body st.next=115:=by unfold atK;rw[ht];simp[hk];decide
 have hT:=(Ib hL ht (c:=16) dZ).2 hk;have HEX:=@hX;rw[Cd]at hf;have⟨b,hb,hf⟩:=zbE.1 hf;have⟨x,hx,hf⟩:=zbE.1 hf;have⟨cm,hcm,hf⟩:=zbE.1 hf;have HB:=hb;unfold Fg at hb;have⟨st1,hst1,hb⟩:=zbE.1 hb;split at hb
 case isFalse=>cases hb
 rename_i hd1;have⟨r1,hr1,hb⟩:=zbE.1 hb;cases hb;have HXX:=hx;have HC:=hcm;have HF:=hf;have⟨c0,c1,_,_,_,_,c6⟩:=h.cells;clear hk hX hx hcm hf;go_in;go_wp2_with fail;have S:=bV (RS.new h #[vU 0,vI (-1),vI (-1),vI (-1),vI st.next,vI 0,vI 0,vI 0,.bool false]);generalize w.alloc (.cells #[vU 0,vI (-1),vI (-1),vI (-1),vI st.next,vI 0,vI 0,vI 0,.bool false] 276)=w1 at S ⊢;generalize w.heap.size=nb at S ⊢;clear c0 c1 c6;go_call Du S.o.x as e1 w2 ⟨rfl,hg⟩;have S2:=bV (S.o.grown hg);rw[hK];clear hg S;go_wp2_with fail;go_call Du S2.o.x as e1 w3 ⟨rfl,hg⟩;have S3:=bV (S2.o.grown hg);rw[hK];clear hg S2;go_wp2_with fail;go_call Cq S3.o.x as e1 w4 ⟨rfl,hg⟩;have S4:=bV (S3.o.grown hg);rw[hT];clear hg S3;simp[ug];go_wp2_with fail;go_call Cq S4.o.x as e1 w5 ⟨rfl,hg⟩;have S5:=bV (S4.o.grown hg);rw[hT];clear hg S4;simp[ug];go_wp2_with fail;go_call Cq S5.o.x as e1 w6 ⟨rfl,hg⟩;have S6:=bV (S5.o.grown hg);rw[hT];clear hg S5;simp[ug];go_wp2_with fail;go_call Cq S6.o.x as e1 w7 ⟨rfl,hg⟩;have S7:=bV (S6.o.grown hg);rw[hT];clear hg S6;simp[ug];go_wp2_with fail;go_call Cq S7.o.x as e1 w8 ⟨rfl,hg⟩;have S8:=bV (S7.o.grown hg);rw[hT];clear hg S7;simp[ug];go_wp2_with fail;go_call Wg S8.o.x hs hst1 as e1 w9 ⟨rfl,hp⟩;have⟨i9,er9,hi9,hS⟩:=S8.o.post hp;have S9:=bV hS;clear hp hS S8;go_wp2_with fail;go_call (Ic hL S9.o.x (c:=16) dZ hr1 rfl) as e1 w10 ⟨rfl,hp⟩;have⟨i10,er10,hi10,hS⟩:=S9.o.post hp;have S10:=bV hS;clear hp hS S9;go_wp2_with fail;go_call HEX S10.o.x oM HXX as e1 w11 ⟨k11,N11,nv11,i11,er11,rfl,hk,ho,hi11,hx,hc1,hc2,hc3⟩;have S11:=bV (S10.o.next hk ho hx);have J10:Jb N.length st.next r1.2 N.length i10:=Jb.start dZ HB oM (λe=>(S10.o.x.E7 e).1);have J11:=bV (J10.ex hi11 hc1 hc2 (λe=>(hc3 e).1));have F10:r1.2.stuck=false->i10=st.next+1/\r1.1.fr=tk.fr:=λe=>by
  have⟨q1,q2,q3,q4,_⟩:=Nw dZ HB e;refine⟨by rw[(S10.o.x.E7 e).1,q1],?_⟩;rw[iA hlt,ht]at q3;cases q3;exact q4
 have C3:=bV hc3;have MX:=bV ((Ck _ _ n).expr (t:=x.1) (st':=x.2) HXX);clear hk ho hx hc1 hc2 hc3 S10 J10;have S12:=bV (S11.o.set 0 (vU 103));have S13:=bV (S12.o.set 1 (vI k11));have z0:=S11.o.cell (j:=0) rfl;have y0:=S11.o.frozen 0;have z1:=S12.o.cell (j:=1) rfl;have y1:=S12.o.frozen 1;have hE:Rf.Ends (Bw s body):=⟨⟨0,s.size,s.size⟩,sM,rfl⟩;have⟨c0,c1,_,_,_,_,c6⟩:=S13.o.x.cells;have ways:x.2.stuck=true\/(x.2.stuck=false/\atS body i11≠18)\/(x.2.stuck=false/\atS body i11=18):=by
  cases x.2.stuck
  ·by_cases e:atS body i11=18
   ·exact .inr (.inr ⟨rfl,e⟩)
   ·exact .inr (.inl ⟨rfl,e⟩)
  ·exact .inl rfl
 rcases ways with hw|⟨hw,he⟩|⟨hw,he⟩
 case' inl=>
  have hcm:=HC;rw[Kv hE hw _ sM]at hcm;cases hcm;have hf:=HF;rw[jA (show¬(0:Int)=18 by decide)]at hf;have⟨rr,hr,hf⟩:=zbE.1 hf;have⟨se,he,hf⟩:=zbE.1 hf;cases hf;obtain⟨j,_,rfl,_⟩:=S13.o.x.bad hw;have hji:¬(j:Int)<0:=oM;have HM:=bV hr;have HEN:=bV he;have GQ:rr.2.stuck=false->∃Y,N11=N++Y/\flat (ixF body) (ixT body) (.bracket r1.1.fr rr.1.to x.1) N.length=Y++[⟨103,k11,-1,-1,st.next,ixT body rr.1.to,0,-1⟩]/\N.length+Y.length+1<=N.length+2*(i11-st.next)/\r1.1.fr=tk.fr:=λe=>(by rw[(An (t:=rr.1) (st':=rr.2) hr).1 e]at hw;cases hw);have SQ:=S13;have JQ:=J11;clear hr he hw S13 J11;go_wp2_with fail
 case' inr.inl=>
  obtain⟨q0,rfl⟩:=S13.o.x.E7 hw;have hcm:=HC;rw[zev hw (by rw[<-q0];exact S13.o.x.ile) hm dZ,<-q0,jA he]at hcm;cases hcm;have hf:=HF;rw[jA (show¬(0:Int)=18 by decide)]at hf;have⟨rr,hr,hf⟩:=zbE.1 hf;have⟨se,he',hf⟩:=zbE.1 hf;cases hf;have n1:(atT s.data.toList body i11 == [44])=false:=by rw[show([44]:zU)=Eo 18 by decide];simpa using λe=>he ((D8 hL i11 (c:=18) dZ).1 e)
  have HM:=bV hr;have HEN:=bV he';have GQ:rr.2.stuck=false->∃Y,N11=N++Y/\flat (ixF body) (ixT body) (.bracket r1.1.fr rr.1.to x.1) N.length=Y++[⟨103,k11,-1,-1,st.next,ixT body rr.1.to,0,-1⟩]/\N.length+Y.length+1<=N.length+2*(i11-st.next)/\r1.1.fr=tk.fr:=λ_=>by
   have⟨g1,g2,g3,g4,_⟩:=C3.o hw;have⟨f1,f2⟩:=F10 (MX.o.1 hw);have hl:=congrArg List.length g2;rw[eA]at hl;refine⟨_,g2,?_,oM,f2⟩;rw[flat,f2,Fe hL ht,g3]
  clear hr he he' hw q0;go_wp2_with fail;go_call Cq S13.o.x as e1 w14 ⟨rfl,hg⟩;have SQ:=bV (S13.o.grown hg);have JQ:=J11;clear hg S13 c0 c1 c6 z0 z1 y0 y1 S12 S11 J11;simp[ug];go_wp2_with fail
 case' inr.inr=>
  obtain⟨q0,rfl⟩:=S13.o.x.E7 hw;have hcm:=HC;rw[zev hw (by rw[<-q0];exact S13.o.x.ile) hm dZ,<-q0,mA he]at hcm;cases hcm;have hf:=HF;rw[mA rfl]at hf;have⟨y,hy,hf⟩:=zbE.1 hf;have⟨rr,hr,hf⟩:=zbE.1 hf;have⟨se,he',hf⟩:=zbE.1 hf;cases hf;have n1:=((D8 hL i11 (c:=18) dZ).2 he);have hlt2:i11<body.length:=by
   rcases yB i11 body.length with h1|h1
   ·exact h1
   ·unfold atS at he;rw[gD h1]at he;cases he
  have HM:=bV hr;have HEN:=bV he';have HY:=bV hy;have HW:=bV hw;have Q0:=bV q0;clear hr he he' hw hy q0;go_wp2_with fail;go_call Cq S13.o.x as e1 w14 ⟨rfl,hg⟩;have S14:=bV (S13.o.grown hg);have S15:=bV (S14.o.zhx (uh HW) hlt2);have S16:=S15.o.set 0 (vU 44);clear hg S13 c0 c1 c6 z0 z1 y0 y1 S12 S11;rw[n1];simp[ug];have⟨c0,c1,_,_,_,_,_⟩:=S14.o.x.cells;have⟨f1,_,_,_⟩:=S14.o.x.frozen;have z0:=S15.o.cell (j:=0) rfl;have y0:=S15.o.frozen 0;rw[<-uh Q0]at S15 S16;go_wp2_with fail;have J11':=J11.o;go_call (HEX S16.x (by have:=J11'.2.1;omega) (uh HY)) as e1 w17 ⟨k17,N17,nv17,i17,er17,rfl,hk,ho,hi17,hx,hc1,hc2,hc3⟩;have S17:=S16.next hk ho hx;have JQ:=(J11'.tok (st':={x.2 with next:=i11+1}) (i':=i11+1) oM ⟨id,rfl⟩).ex hi17 hc1 hc2 (λe=>(hc3 e).1);have GQ:rr.2.stuck=false->∃Y,N17=N++Y/\flat (ixF body) (ixT body) (.pair r1.1.fr rr.1.to x.1 y.1) N.length=Y++[⟨44,k11,k17,-1,st.next,ixT body rr.1.to,0,-1⟩]/\N.length+Y.length+1<=N.length+2*(i17-st.next)/\r1.1.fr=tk.fr:=λe=>by
   have⟨g1,g2,g3,g4,_⟩:=C3.o (uh HW);have⟨f1,f2⟩:=F10 (MX.o.1 (uh HW));have⟨k1,k2,k3,k4,_⟩:=hc3 ((An (t:=rr.1) (st':=rr.2) (uh HM)).1 e);have hl:=congrArg List.length g2;have hl2:=congrArg List.length k2;rw[eA]at hl hl2;rw[Ao]at hl hl2;refine⟨flat (ixF body) (ixT body) x.1 N.length++flat (ixF body) (ixT body) y.1 (N.length+Rf.T.sz x.1),?_,?_,?_,f2⟩
   ·rw[k2,hl];conv=>lhs;rw[g2]
    rw[wA]
   ·rw[flat,f2,Fe hL ht,g3,k3,hl]
   ·rw[eA,Ao,Ao];omega
  have SQ:=bV (S17.set 2 (vI k17));have z2:=S17.cell (j:=2) rfl;have y2:=S17.frozen 2;clear hk ho hx hc1 hc2 hc3 S14 S15 S16 c0 c1 f1 z0 y0 J11 J11';go_wp2_with fail
 all_goals as_aux_lemma=>
  go_call (Ic hL SQ.o.x (c:=17) dZ (uh HM) rfl) as e1 wr ⟨rfl,hp⟩;have⟨ir,err,hir,hS⟩:=SQ.o.post hp;have SD:=hS.zhu (uh HEN);have hdp:=hS.x.dep;have hdz:=(Bp (uh HEN)).2.symm;have⟨a0,_,a2,_,_,_,_⟩:=hS.x.cells;have⟨_,b2,_,_⟩:=hS.x.frozen;have d0:=SD.cell (j:=0) rfl;have d1:=SD.cell (j:=1) rfl;have d2:=SD.cell (j:=2) rfl;have d3:=SD.cell (j:=3) rfl;have d4:=SD.cell (j:=4) rfl;have d5:=SD.cell (j:=5) rfl;have d6:=SD.cell (j:=6) rfl;have d7:=SD.cell (j:=7) rfl;have d8:=SD.cell (j:=8) rfl;have hqi:=SQ.o.x.ile;have hqj:=JQ.2.1;have hNb:=hN;clear hp a0;have⟨a0,_,a2,_,_,_,_⟩:=hS.x.cells;go_wp2_with fail;have hRN:=kB hqj (show _<=5000 by omega)
  first
   |refine(Gq SD.x hRN ⟨44,k11,k17,-1,st.next,0,0,0⟩ 0 0).mono ?_
   |refine(Gq SD.x hRN ⟨103,k11,-1,-1,st.next,0,0,0⟩ 0 0).mono ?_
  rintro e1 we ⟨rfl,hk,nve,ho,hx⟩;have KE:=SD.k.trans hk SD.o;have OE:=SD.o.trans ho SD.k.size;clear hk ho d0 d1 d2 d3 d4 d5 d6 d7 d8 a0 a2 b2;go_wp2_with fail;go_ret
  first
   |refine Fk.of hL (x:=⟨44,k11,k17,-1,st.next,0,0,0⟩) KE OE hx ((JQ.tok hir (An (t:=rr.1) (st':=rr.2) (uh HM))).fin (uh HEN)) (λe=>?_)
   |refine Fk.of hL (x:=⟨103,k11,-1,-1,st.next,0,0,0⟩) KE OE hx ((JQ.tok hir (An (t:=rr.1) (st':=rr.2) (uh HM))).fin (uh HEN)) (λe=>?_)
  have e2:rr.2.stuck=false:=by rw[<-(Bp (uh HEN)).1];exact e
  have⟨g0,g1,g2,g3⟩:=Il dZ (uh HM) e2;have g4:=O0 g2 (by rw[g3];decide);have g5:=(SQ.o.x.E7 g0).1;have g6:=(hS.x.E7 e2).1;rw[g1]at g6;dsimp only at g6;have⟨Y,y1,y2,y3,y4⟩:=GQ e2;have j1:=JQ.1;refine⟨Y,y1,y2,oM,oM,⟨tk,ht,y4.symm⟩,rr.1,?_,rfl⟩;rw[<-g4];congr 1;omega
end
end
namespace Tw.Rf
section
open Go Go.Proofs.YtckhafpejefbbaaGreatDoor.Tw
section
variable{S:Nat->Prop}{t:T}{a:Int}
abbrev Sc:=List (zU×Nat)
def Cy:Sc->zU->Int
 |[],_=>-1
 |(y,j)::e,x=>if y=x then(j:Int)else Cy e x
def fill(f g:Nat->Nat):T->Nat->Sc->List RN
 |.name fr _ x,_,e=>[⟨120,-1,-1,-1,f fr,f fr,0,Cy e x⟩]
 |.int fr _ _,_,_=>[⟨105,-1,-1,-1,f fr,f fr,0,-1⟩]
 |.Ak fr _ b,_,_=>[⟨if b then 116 else 102,-1,-1,-1,f fr,f fr,0,-1⟩]
 |.side fr _ b,_,_=>[⟨if b then 50 else 49,-1,-1,-1,f fr,f fr,0,-1⟩]
 |.bracket fr to i,k,e=>fill f g i k e++[⟨103,(k+T.sz i-1:Nat),-1,-1,f fr,g to,0,-1⟩]
 |.pair fr to l r,k,e=>fill f g l k e++fill f g r (k+T.sz l) e++[⟨44,(k+T.sz l-1:Nat),(k+T.sz l+T.sz r-1:Nat),-1,f fr,g to,0,-1⟩]
 |.call fr to l r,k,e=>fill f g l k e++fill f g r (k+T.sz l) e++[⟨97,(k+T.sz l-1:Nat),(k+T.sz l+T.sz r-1:Nat),-1,f fr,g to,0,-1⟩]
 |.binary fr to s l r,k,e=>fill f g l k e++fill f g r (k+T.sz l) e++[⟨Gf s,(k+T.sz l-1:Nat),(k+T.sz l+T.sz r-1:Nat),-1,f fr,g to,0,-1⟩]
 |.cond fr to c t d,k,e=>fill f g c k e++fill f g t (k+T.sz c) e++fill f g d (k+T.sz c+T.sz t) e++[⟨73,(k+T.sz c-1:Nat),(k+T.sz c+T.sz t-1:Nat),(k+T.sz c+T.sz t+T.sz d-1:Nat),f fr,g to,0,-1⟩]
 |.fn fr to bn bat b,k,e=>fill f g b k ((bn,k+T.sz b)::e)++[⟨70,(k+T.sz b-1:Nat),-1,-1,f fr,g to,f bat,-1⟩]
 |.Am fr to rc bn bat d b,k,e=>fill f g d k (if rc then(bn,k+T.sz d+T.sz b)::e else e)++fill f g b (k+T.sz d) ((bn,k+T.sz d+T.sz b)::e)++[⟨if rc then 114 else 108,(k+T.sz d-1:Nat),(k+T.sz d+T.sz b-1:Nat),-1,f fr,g to,f bat,-1⟩]
theorem Af(f g:Nat->Nat):∀(t:T) (k:Nat) (e:Sc),(fill f g t k e).length=T.sz t
 |.name ..,_,_|.int ..,_,_|.Ak ..,_,_|.side ..,_,_=>rfl
 |.bracket _ _ i,k,e=>by simp[fill,T.sz,Af f g i]
 |.pair _ _ l r,k,e|.call _ _ l r,k,e|.binary _ _ _ l r,k,e=>by simp[fill,T.sz,Af f g l,Af f g r];omega
 |.cond _ _ c t d,k,e=>by simp[fill,T.sz,Af f g c,Af f g t,Af f g d];omega
 |.fn _ _ _ _ b,k,e=>by simp[fill,T.sz,Af f g b]
 |.Am _ _ _ _ _ d b,k,e=>by simp[fill,T.sz,Af f g d,Af f g b];omega
def WP(S:Nat->Prop):T->Prop
 |.name fr to _=>S fr/\fr<to
 |.int fr to _=>S fr/\fr<to
 |.Ak fr to _=>S fr/\fr<to
 |.side fr to _=>S fr/\fr<to
 |.bracket fr to i=>S fr/\fr<=i.fr/\i.to<=to/\WP S i
 |.pair fr to l r=>S fr/\fr<=l.fr/\l.to<=r.fr/\r.to<=to/\WP S l/\WP S r
 |.call fr to l r=>S fr/\fr<=l.fr/\l.to<=r.fr/\r.to<=to/\WP S l/\WP S r
 |.binary fr to _ l r=>S fr/\fr<=l.fr/\l.to<=r.fr/\r.to<=to/\WP S l/\WP S r
 |.cond fr to c t d=>S fr/\fr<=c.fr/\c.to<=t.fr/\t.to<=d.fr/\d.to<=to/\WP S c/\WP S t/\WP S d
 |.fn fr to _ bat b=>S fr/\S bat/\fr<=bat/\bat<b.fr/\b.to<=to/\WP S b
 |.Am fr to _ _ bat d b=>S fr/\S bat/\fr<=bat/\bat<d.fr/\d.to<=b.fr/\b.to<=to/\WP S d/\WP S b
theorem WP.at(h:WP S t):S t.fr:=by cases t<;>exact h.1
theorem WP.lt{S:Nat->Prop}:∀ {t:T},WP S t->t.fr<t.to
 |.name ..,h|.int ..,h|.Ak ..,h|.side ..,h=>h.2
 |.bracket _ _ i,h=>by have:=WP.lt h.2.2.2;have g:=h.2.1;have j:=h.2.2.1;simp only[T.fr,T.to]at *;omega
 |.pair _ _ l r,h|.call _ _ l r,h|.binary _ _ _ l r,h=>by
  obtain⟨_,g,j,k,e,f⟩:=h
  have:=WP.lt e;have:=WP.lt f;simp only[T.fr,T.to]at *;omega
 |.cond _ _ c t d,h=>by
  obtain⟨_,g,j,k,e,f,m,n⟩:=h
  have:=WP.lt f;have:=WP.lt m;have:=WP.lt n;simp only[T.fr,T.to]at *;omega
 |.fn _ _ _ _ b,h=>by
  obtain⟨_,_,g,j,k,e⟩:=h
  have:=WP.lt e;simp only[T.fr,T.to]at *;omega
 |.Am _ _ _ _ _ d b,h=>by
  obtain⟨_,_,g,j,k,e,f,m⟩:=h
  have:=WP.lt f;have:=WP.lt m;simp only[T.fr,T.to]at *;omega
def Row(p:Nat):List Tok->Prop
 |[]=>True
 |t::ws=>p<=t.fr/\t.fr<t.to/\Row t.to ws
def Gl(p:Nat):List Tok->Nat
 |[]=>p
 |t::ws=>Gl t.to ws
theorem Jg{p:Nat}:∀ {a b:List Tok},Row p (a++b)↔Row p a/\Row (Gl p a) b
 |[],b=>by simp[Row,Gl]
 |t::a,b=>by
  simp only[pD,Row,Gl,Jg (p:=t.to) (a:=a)];exact⟨λ⟨c,d,e,f⟩=>⟨⟨c,d,e⟩,f⟩,λ⟨⟨c,d,e⟩,f⟩=>⟨c,d,e,f⟩⟩
theorem Hd{p:Nat}:∀ {a b:List Tok},Gl p (a++b)=Gl (Gl p a) b
 |[],_=>rfl
 |t::a,_=>Hd (p:=t.to) (a:=a)
theorem zqf{p:Nat}:∀ {a:List Tok},Row p a->p<=Gl p a
 |[],_=>znL _
 |t::a,h=>by have:=zqf h.2.2;have:=h.1;have:=h.2.1;simp only[Gl];omega
def GP(S:Nat->Prop)(k:GK)(b:List Tok)(t:T):Prop:=
 ∀p,Row p b->(∀w∈b,S w.fr)->match k with
  |.chF _ _ a=>WP S a->a.to<=p->WP S t/\t.fr=a.fr/\t.to<=Gl p b
  |.caF a=>WP S a->a.to<=p->WP S t/\t.fr=a.fr/\t.to<=Gl p b
  |_=>WP S t/\p<=t.fr/\t.to<=Gl p b
theorem zuy(S:Nat->Prop){l:zU}{k:GK}{ws:List Tok}(h:G l k ws t):GP S k ws t:=by
 induction h with
 |@Am tl tn te ti rcs ds bs rc d b hl hrc hn he hi hp D B iD iB=>
  intro p hr hs;obtain⟨h1,h2,h3⟩:=hr;obtain⟨h3,h4⟩:=Jg.1 h3;obtain⟨h4,h5,h6,h7,h8⟩:=h4;obtain⟨h8,h9,h10,h11⟩:=Jg.1 h8
  have:=zqf h3;obtain⟨a1,a2,a3⟩:=iD _ h8 (λw hw=>hs w (by simp[hw]));obtain⟨b1,b2,b3⟩:=iB _ h11 (λw hw=>hs w (by simp[hw]));simp only[Gl,Hd];refine⟨⟨hs _ sM,hs tn sM,?_,?_,?_,znL _,a1,b1⟩,h1,b3⟩<;>omega
 |@fn tl tn ta bs b hl hn ha hp B iB=>
  intro p hr hs;obtain⟨h1,h2,h3,h4,h5,h6,h7⟩:=hr;obtain⟨b1,b2,b3⟩:=iB _ h7 (λw hw=>hs w (by simp[hw]));simp only[Gl];refine⟨⟨hs _ sM,hs tn sM,?_,?_,znL _,b1⟩,h1,b3⟩<;>omega
 |@cond tl t1 t2 cs xs ys c x y hl h1 h2 C X Y iC iX iY=>
  intro p hr hs;obtain⟨h1,h2,h3⟩:=hr;obtain⟨h3,h4,h5,h6⟩:=Jg.1 h3;obtain⟨h6,h7,h8,h9⟩:=Jg.1 h6;obtain⟨a1,a2,a3⟩:=iC _ h3 (λw hw=>hs w (by simp[hw]));obtain⟨b1,b2,b3⟩:=iX _ h6 (λw hw=>hs w (by simp[hw]));obtain⟨c1,c2,c3⟩:=iY _ h9 (λw hw=>hs w (by simp[hw]));simp only[Gl,Hd];refine⟨⟨hs _ sM,?_,?_,?_,znL _,a1,b1,c1⟩,h1,c3⟩<;>omega
 |zkp h ih=>exact ih
 |zkr h ih=>exact ih
 |@zhs w1 w2 sg x y X hs Y iX iY=>
  intro p hr hs;obtain⟨h1,h2,h3,h4⟩:=Jg.1 hr;obtain⟨a1,a2,a3⟩:=iX _ h1 (λw hw=>hs w (by simp[hw]));obtain⟨b1,b2,b3⟩:=iY _ h4 (λw hw=>hs w (by simp[hw]));simp only[Gl,Hd];refine⟨⟨a1.at,znL _,?_,znL _,a1,b1⟩,a2,b3⟩;omega
 |@sum w1 w2 x t X C iX iC|@term w1 w2 x t X C iX iC|@call w1 w2 x t X C iX iC=>
  intro p hr hs;obtain⟨h1,h2⟩:=Jg.1 hr;obtain⟨a1,a2,a3⟩:=iX _ h1 (λw hw=>hs w (by simp[hw]));obtain⟨b1,b2,b3⟩:=iC _ h2 (λw hw=>hs w (by simp[hw])) a1 a3;rw[Hd];exact⟨b1,by rw[b2];exact a2,b3⟩
 |chN=>exact λp _ _ ha hp=>⟨ha,rfl,hp⟩
 |@chC q g a sg w1 w2 y t hs Y C iY iC=>
  intro p hr hS ha hp;obtain⟨h1,h2,h3⟩:=hr;obtain⟨h3,h4⟩:=Jg.1 h3;have iY':WP S y/\sg.to<=y.fr/\y.to<=Gl sg.to w1:=by
   have:=iY _ h3 (λw hw=>hS w (by simp[hw]));cases q<;>exact this
  obtain⟨a1,a2,a3⟩:=iY';obtain⟨b1,b2,b3⟩:=iC _ h4 (λw hw=>hS w (by simp[hw])) ⟨ha.at,znL _,oM,znL _,ha,a1⟩ a3;simp only[Gl,Hd];exact⟨b1,b2,b3⟩
 |caN=>exact λp _ _ ha hp=>⟨ha,rfl,hp⟩
 |@caC a w1 w2 y t Y C iY iC=>
  intro p hr hS ha hp;obtain⟨h3,h4⟩:=Jg.1 hr;obtain⟨a1,a2,a3⟩:=iY _ h3 (λw hw=>hS w (by simp[hw]));obtain⟨b1,b2,b3⟩:=iC _ h4 (λw hw=>hS w (by simp[hw])) ⟨ha.at,znL _,oM,znL _,ha,a1⟩ a3;rw[Hd];exact⟨b1,b2,b3⟩
 |@leaf tk x hb h16 h=>
  intro p hr hs;obtain⟨h1,h2,_⟩:=hr;have hS:=hs tk sM;unfold Lv at h;simp only[Gl]
  repeat' split at h
  all_goals first|(cases h;exact⟨⟨hS,h2⟩,h1,znL _⟩)|(obtain⟨v,_,h⟩:=zbE.1 h;cases h;exact⟨⟨hS,h2⟩,h1,znL _⟩)|cases h
 |@bracket ta tc ws x ha hc X iX=>
  intro p hr hs;obtain⟨h1,h2,h3⟩:=hr;obtain⟨h3,h4,h5,_⟩:=Jg.1 h3;obtain⟨a1,a2,a3⟩:=iX _ h3 (λw hw=>hs w (by simp[hw]));simp only[Gl,Hd];refine⟨⟨hs _ sM,?_,?_,a1⟩,h1,znL _⟩<;>omega
 |@pair ta tm tc w1 w2 x y ha hm hc X Y iX iY=>
  intro p hr hs;obtain⟨h1,h2,h3⟩:=hr;obtain⟨h3,h4,h5,h6⟩:=Jg.1 h3;obtain⟨h6,h7,h8,_⟩:=Jg.1 h6;obtain⟨a1,a2,a3⟩:=iX _ h3 (λw hw=>hs w (by simp[hw]));obtain⟨b1,b2,b3⟩:=iY _ h6 (λw hw=>hs w (by simp[hw]));simp only[Gl,Hd];refine⟨⟨hs _ sM,?_,?_,?_,a1,b1⟩,h1,znL _⟩<;>omega
def Jj(pl:Nat->Int):List RN->Int->Int
 |[],a=>a
 |n::N,a=>Jj pl N (if n.sort=120/\n.binder<0/\(a<0\/pl n.first<a)then pl n.first else a)
theorem Gr{pl:Nat->Int}:∀ {A B:List RN} {a:Int},Jj pl (A++B) a=Jj pl B (Jj pl A a)
 |[],_,_=>rfl
 |_::A,_,_=>Gr (A:=A)
theorem Qa{pl:Nat->Int}{n:RN}(h:n.sort≠120):Jj pl [n] a=a:=by simp[Jj,h]
def orAt(a:Int)(o:Option Nat):Int:=if a<0 then(match o with|some p=>(p:Int)|none=>a)else a
theorem Zq(a:Int)(b c:Option Nat):orAt (orAt a b) c=orAt a (b.or c):=by
 unfold orAt;by_cases h:a<0
 ·cases b with
  |none=>simp[h]
  |some p=>simp[h];omega
 ·simp[h]
theorem za1:∀(e:Sc) (x:zU),Cy e x<0↔(e.map (·.1)).contains x=false
 |[],x=>by simp[Cy]
 |(y,j)::e,x=>by
  have:=za1 e x;unfold Cy;by_cases h:y=x
  ·subst h;simp
  ·rw[jA h,this];simp;exact λ_ b=>h b.symm
theorem Wh (s:Int):Gf s≠120:=by
 unfold Gf
 repeat' split
 all_goals decide
theorem Lm{S:Nat->Prop}:∀ {t:T} {E:List zU} {p:Nat},WP S t->t.freeS E=some p->t.fr<=p/\p<t.to
 |.name fr to x,E,p,h,e=>by
  simp only[T.freeS]at e;split at e
  ·cases e
  ·cases e;exact⟨znL _,h.2⟩
 |.int ..,_,_,_,e|.Ak ..,_,_,_,e|.side ..,_,_,_,e=>by cases e
 |.bracket _ _ i,E,p,h,e=>by have:=Lm h.2.2.2 e;have k:=h.2.1;have m:=h.2.2.1;simp only[T.fr,T.to];omega
 |.pair _ _ l r,E,p,h,e|.call _ _ l r,E,p,h,e|.binary _ _ _ l r,E,p,h,e=>by
  obtain⟨_,k,m,n,g,f⟩:=h
  have:=WP.lt g;have:=WP.lt f;simp only[T.freeS,Option.or_eq_some_iff]at e;simp only[T.fr,T.to];rcases e with e|⟨_,e⟩
  ·have:=Lm g e;omega
  ·have:=Lm f e;omega
 |.cond _ _ c t d,E,p,h,e=>by
  obtain⟨_,k,m,n,g,f,j,o⟩:=h
  have:=WP.lt f;have:=WP.lt j;have:=WP.lt o;simp only[T.freeS,Option.or_eq_some_iff]at e;simp only[T.fr,T.to];rcases e with(e|⟨_,e⟩)|⟨_,e⟩
  ·have:=Lm f e;omega
  ·have:=Lm j e;omega
  ·have:=Lm o e;omega
 |.fn _ _ _ _ b,E,p,h,e=>by
  obtain⟨_,_,k,m,n,g⟩:=h
  have:=WP.lt g
  have:=Lm g e;simp only[T.fr,T.to];omega
 |.Am _ _ _ _ _ d b,E,p,h,e=>by
  obtain⟨_,_,k,m,n,g,f,j⟩:=h
  have:=WP.lt f;have:=WP.lt j;simp only[T.freeS,Option.or_eq_some_iff]at e;simp only[T.fr,T.to];rcases e with e|⟨_,e⟩
  ·have:=Lm f e;omega
  ·have:=Lm j e;omega
theorem Zr{E:List zU}(h:WP S t)(c:a<0\/a<=t.fr):orAt a (t.freeS E)<0\/orAt a (t.freeS E)<=t.to:=by
 have:=WP.lt h;unfold orAt;split
 ·split
  ·rename_i b;have:=Lm h b;omega
  ·left;assumption
 ·right;omega
theorem Gh{S:Nat->Prop}{f g:Nat->Nat}{pl:Nat->Int}(j:∀p,S p->pl (f p)=p):∀ {t:T} {k:Nat} {e:Sc} {a:Int},WP S t->(a<0\/a<=t.fr)->Jj pl (fill f g t k e) a=orAt a (t.freeS (e.map (·.1)))
 |.name fr to x,k,e,a,h,ha=>by
  have n:=j _ h.1;have o:=za1 e x;simp only[fill,Jj,T.freeS,orAt,n,true_and];simp only[T.fr]at ha;by_cases v:(e.map (·.1)).contains x=true
  ·rw[mA v,jA (by rw[o,v];simp)];simp
  ·have C:Cy e x<0:=(by rw[o];simpa using v);rw[jA v];by_cases z:a<0
   ·simp[z,C]
   ·rw[jA z,jA oM]
 |.int ..,_,_,_,_,_|.Ak _ _ true,_,_,_,_,_|.Ak _ _ false,_,_,_,_,_|.side _ _ true,_,_,_,_,_|.side _ _ false,_,_,_,_,_=>by simp[fill,Jj,T.freeS,orAt]
 |.bracket fr to i,k,e,a,h,ha=>by
  have n:=h.2.1;simp only[T.fr]at ha;rw[fill,Gr,Qa (by dsimp only;decide),Gh j h.2.2.2 oM];rfl
 |.pair fr to l r,k,e,a,h,ha|.call fr to l r,k,e,a,h,ha|.binary fr to sg l r,k,e,a,h,ha=>by
  obtain⟨_,n,o,w,q,m⟩:=h;simp only[T.fr]at ha;have A:=Zr (E:=e.map (·.1)) (a:=a) q oM;rw[fill,Gr,Qa (by dsimp only;first|decide|exact Wh _),Gr,Gh j q oM,Gh j m oM,Zq];rfl
 |.cond fr to c t d,k,e,a,h,ha=>by
  obtain⟨_,n,o,w,q,m,s,B⟩:=h;simp only[T.fr]at ha;have A:=Zr (E:=e.map (·.1)) (a:=a) m oM;have D:=Zr (E:=e.map (·.1)) (a:=orAt a (c.freeS (e.map (·.1)))) s oM;rw[fill,Gr,Qa (by dsimp only;decide),Gr,Gr,Gh j m oM,Gh j s oM,Gh j B oM,Zq,Zq,T.freeS,Option.or_assoc]
 |.fn fr to bn bat b,k,e,a,h,ha=>by
  obtain⟨_,_,n,o,w,q⟩:=h;simp only[T.fr]at ha;rw[fill,Gr,Qa (by dsimp only;decide),Gh j q oM];rfl
 |.Am fr to rc bn bat d b,k,e,a,h,ha=>by
  obtain⟨_,_,n,o,w,q,m,s⟩:=h;simp only[T.fr]at ha;have y:((if rc then(bn,k+T.sz d+T.sz b)::e else e).map (·.1):List zU)=if rc then bn::e.map (·.1)else e.map (·.1):=by cases rc<;>rfl
  have A:=Zr (E:=if rc then bn::e.map (·.1)else e.map (·.1)) (a:=a) m oM;rw[fill,Gr,Qa (by cases rc<;>dsimp only<;>decide),Gr,Gh j m oM,Gh j s (by rw[y];omega),y,Zq];rfl
end
end
end Tw.Rf
section
open Tw Tw.Rf
open Go.RowKit
theorem zsw{s:ByteArray}{body:List Tw.Tok}(d:Lex 0 s.data.toList body){n:Nat}(v:∀m,m<=n->zok s body m):Df 231 (Ev s.data.toList (Bw s body) (n+1)) s body:=by
 intro P B C D g N O I H E root M L h c t b;obtain⟨x,rfl⟩:=h.E7 c;subst x;have F:=h.ile;have G:=h.many;rw[Ev]at b;obtain⟨tk,r,b⟩:=zbE.1 b;have f:(Bw s body)[g.next]?=some tk:=by simpa[Ej,c]using r
 have w:atS body g.next=tk.sort:=by
  unfold atS;rcases yB g.next body.length with i|i
  ·rw[iA i]at f;rw[f]
  ·rw[fB i,show g.next-body.length=0 by omega]at f;simp at f;rw[gD i,<-f]
 split at b
 ·rename_i o;cases n with
  |zero=>cases b
  |succ n=>exact zj2 d (v n oM) h c t (O0 f (by rw[o];decide)) o b
 ·rename_i o;split at b
  ·rename_i k;obtain⟨z,p,b⟩:=zbE.1 b;obtain⟨Q,a,b⟩:=zbE.1 b;cases b;have q:tk.sort≠0:=(by intro e;rw[e]at k;revert k;decide);have l:=O0 f q;have j:N.length<=4000:=oM;have y:z.2={g with next:=g.next+1}:=by
    unfold Tw.Bg at p;rw[r,zbS,mA rfl]at p;rw[jA q,mA (show g.next<=300 by omega)]at p;cases p;rfl
   rw[y];simp only[Ap,fE]at k;rcases k with e|e|e|e|e|e|e
   ·simp[Lv,e]at a;obtain⟨_,rfl⟩:=a;exact zes d h c j l e
   ·simp[Lv,e]at a;obtain⟨_,a⟩:=a;obtain⟨A,_,a⟩:=zbE.1 a;cases a;exact zgy d h c j l e A
   ·simp[Lv,e]at a;subst a;exact zet d h c j l e
   ·simp[Lv,e]at a;subst a;exact zch d h c j l e
   ·simp[Lv,e]at a;subst a;exact zgz d h c j l e
   ·simp[Lv,e]at a;subst a;exact zg0 d h c j l e
   ·exact absurd e o
  ·rename_i k;obtain⟨J,i,b⟩:=zbE.1 b;cases b;exact zeu d h c (by rw[w];simpa using k) i _
end
section
open Tw Tw.Rf Go.Proofs.Tryz
open Go.RowKit
theorem Tw.Rf.Y6{l:zU}{a:List Tw.Tok}{st:PS}{b:(zU×Nat)×PS}(h:Tw.Dv l a st=some b):∃r,Tw.Bg a 1 st=some r/\b=((Bv l r.1.fr r.1.to,r.1.fr),r.2):=by
 unfold Tw.Dv at h;have⟨r,c,h⟩:=zbE.1 h;split at h
 ·cases h;exact⟨r,c,rfl⟩
 ·cases h
theorem Tw.Rf.Sq{d:List Tw.Tok}{st:PS}{c:Int}{b:Nat×PS}(h:Fg d c st=some b):∃a r,(if st.depth=40 then Hj d st else some st)=some a/\Tw.Bg d c {a with depth:=a.depth+1}=some r/\b=(r.1.fr,r.2):=by
 unfold Fg at h;have⟨a,e,h⟩:=zbE.1 h;split at h
 ·have⟨r,f,h⟩:=zbE.1 h;cases h;exact⟨a,r,e,f,rfl⟩
 ·cases h
theorem zuz{s:ByteArray}{body:List Tw.Tok}(hL:Lex 0 s.data.toList body){n:Nat}(hX:zok s body n){w:World}{B br bt:Nat}{st:PS}{N:List RN}{tv nv:Value}{i:Nat}{er root:Int}{t:Tw.T}{st':PS}(h:Dm w B br bt s body st N tv nv i er root)(hs:st.stuck=false)(hN:N.length<=2*i+1000){tk:Tw.Tok}(ht:body[i]?=some tk)(hk:tk.sort=6)(hf:Oj s.data.toList (Bw s body) (n+1) st=some (t,st')):
  Calls prog 120 #[pT br] w (Fk w B br bt s body st' t N tv nv i root):=by
 obtain⟨hi,rfl⟩:=h.E7 hs;subst hi;have hlt:st.next<body.length:=(zlE.1 ht).1;have hm:=h.many;have HT:=(Ib hL ht (c:=6) dZ).2 hk;rw[show Eo 6=[102,117,110] by decide]at HT;have HEX:=@hX;rw[Oj]at hf;have⟨b,hb,hf⟩:=zbE.1 hf;have⟨bd,hbd,hf⟩:=zbE.1 hf;have⟨ra,hra,hf⟩:=zbE.1 hf;have⟨x,hx,hf⟩:=zbE.1 hf;have⟨se,he,hf⟩:=zbE.1 hf;cases hf;obtain⟨st1,r1,hst1,hr1,rfl⟩:=Sq hb;obtain⟨rb,hrb,rfl⟩:=Y6 hbd;have HXX:=hx;have⟨c0,c1,_,_,_,_,c6⟩:=h.cells;go_in;go_wp21;have S:=RS.new h #[vU 0,vI (-1),vI (-1),vI (-1),vI st.next,vI 0,vI 0,vI 0,.bool false];generalize w.alloc (.cells #[vU 0,vI (-1),vI (-1),vI (-1),vI st.next,vI 0,vI 0,vI 0,.bool false] 276)=w1 at S ⊢;generalize w.heap.size=nb at S ⊢;go_call Cq S.x as e1 w2 ⟨rfl,hg⟩;have S2:=S.grown hg;rw[HT];simp[ug];go_wp21;go_call Wg S2.x hs hst1 as e1 w3 ⟨rfl,hp⟩;have⟨i3,er3,hi3,hS⟩:=S2.post hp;have S3:=hS;go_wp21;go_call (Ic hL S3.x (c:=6) dZ hr1 rfl) as e1 w4 ⟨rfl,hp⟩;have⟨i4,er4,hi4,hS⟩:=S3.post hp;have S4:=hS;have z0:=S4.cell (j:=0) rfl;have y0:=S4.frozen 0;have S5:=S4.set 0 (vU 70);have J4:=Jb.start (N0:=N.length) dZ hb oM (λe=>(S4.x.E7 e).1);go_wp21;go_call zld S5.x hrb as e1 w6 ⟨rfl,hp⟩;have⟨i6,er6,hi6,hS⟩:=S5.post hp;have S6:=hS;have z1:=S6.cell (j:=6) rfl;have y1:=S6.frozen 6;have S7:=S6.set 6 (vI i4);go_wp21;go_call (Ic hL S7.x (c:=14) dZ hra rfl) as e1 w8 ⟨rfl,hp⟩;have⟨i8,er8,hi8,hS⟩:=S7.post hp;go_wp21;go_call HEX hS.x oM HXX as e1 w9 ⟨k9,N9,nv9,i9,er9,rfl,hk,ho,hi9,hx,hc1,hc2,hc3⟩;have S9:=hS.next hk ho hx;have JQ:=((J4.tok hi6 (An (t:=rb.1) (st':=rb.2) hrb)).tok hi8 (An (t:=ra.1) (st':=ra.2) hra)).ex hi9 hc1 hc2 (λe=>(hc3 e).1);have MX:=(Ck _ _ n).expr (t:=x.1) (st':=x.2) HXX;have z1:=S9.cell (j:=1) rfl;have y1:=S9.frozen 1;have S10:=S9.set 1 (vI k9);have SD:=S10.zhu he;have hdp:=S10.x.dep;have hdz:=(Bp he).2.symm;have⟨a0,_,a2,_,_,_,_⟩:=S10.x.cells;have⟨_,b2,_,_⟩:=S10.x.frozen;have d0:=SD.cell (j:=0) rfl;have d1:=SD.cell (j:=1) rfl;have d2:=SD.cell (j:=2) rfl;have d3:=SD.cell (j:=3) rfl;have d4:=SD.cell (j:=4) rfl;have d5:=SD.cell (j:=5) rfl;have d6:=SD.cell (j:=6) rfl;have d7:=SD.cell (j:=7) rfl;have d8:=SD.cell (j:=8) rfl;have hqi:=S10.x.ile;have hqj:=JQ.2.1;go_wp21;have hRN:=kB hqj (show _<=5000 by omega);go_call Gq SD.x hRN ⟨70,k9,-1,-1,st.next,0,i4,0⟩ 0 0 as e1 we ⟨rfl,hk,nve,ho,hx⟩;have KE:=SD.k.trans hk SD.o;have OE:=SD.o.trans ho SD.k.size;go_wp21;go_ret;refine Fk.of hL (x:=⟨70,k9,-1,-1,st.next,0,i4,0⟩) KE OE hx (JQ.fin he) (λe=>?_);have e1:x.2.stuck=false:=by rw[<-(Bp he).1];exact e
 have e2:=MX.1 e1;have⟨f1,f2,f3,f4⟩:=Il dZ hra e2;have⟨p1,p2,p3,p4⟩:=Il dZ hrb f1;have⟨q1,q2,q3,q4,_⟩:=Nw dZ hb p1;have p5:=O0 p3 (by rw[p4];decide);have g4:=(S4.x.E7 p1).1;rw[iA hlt,ht]at q3;cases q3;rw[<-g4]at p5;have⟨v1,v2,v3,v4,_,v6⟩:=hc3 e1;have hl:=congrArg List.length v2;rw[eA]at hl;dsimp only at q1 q4 p2;have j1:=JQ.1;refine⟨_,v2,?_,oM,oM,⟨tk,ht,q4.symm⟩,v6⟩;rw[flat,q4,Fe hL ht,Fe hL p5,v3];rfl
theorem zsx{s:ByteArray}{body:List Tw.Tok}(hL:Lex 0 s.data.toList body){n:Nat}(hX:zok s body n){w:World}{B br bt:Nat}{st:PS}{N:List RN}{tv nv:Value}{i:Nat}{er root:Int}{t:Tw.T}{st':PS}(h:Dm w B br bt s body st N tv nv i er root)(hs:st.stuck=false)(hN:N.length<=2*i+1000){tk:Tw.Tok}(ht:body[i]?=some tk)(hk:tk.sort=7)(hf:Ie s.data.toList (Bw s body) (n+1) st=some (t,st')):
  Calls prog 120 #[pT br] w (Fk w B br bt s body st' t N tv nv i root):=by
 obtain⟨hi,rfl⟩:=h.E7 hs;subst hi;have hlt:st.next<body.length:=(zlE.1 ht).1;have hm:=h.many;have HT:=(Ib hL ht (c:=7) dZ).2 hk;rw[show Eo 7=[105,102] by decide]at HT;have HEX:=@hX;rw[Ie]at hf;have⟨b,hb,hf⟩:=zbE.1 hf;have⟨x,hx,hf⟩:=zbE.1 hf;have⟨ra,hra,hf⟩:=zbE.1 hf;have⟨y,hy,hf⟩:=zbE.1 hf;have⟨rb,hrb,hf⟩:=zbE.1 hf;have⟨z,hz,hf⟩:=zbE.1 hf;have⟨se,he,hf⟩:=zbE.1 hf;cases hf;obtain⟨st1,r1,hst1,hr1,rfl⟩:=Sq hb;have HXX:=hx;have⟨c0,c1,_,_,_,_,c6⟩:=h.cells;go_in;go_wp21;have S:=RS.new h #[vU 0,vI (-1),vI (-1),vI (-1),vI st.next,vI 0,vI 0,vI 0,.bool false];generalize w.alloc (.cells #[vU 0,vI (-1),vI (-1),vI (-1),vI st.next,vI 0,vI 0,vI 0,.bool false] 276)=w1 at S ⊢;generalize w.heap.size=nb at S ⊢;go_call Cq S.x as e1 w2 ⟨rfl,hg⟩;have S2:=S.grown hg;rw[HT];simp[ug];go_wp21;go_call Wg S2.x hs hst1 as e1 w3 ⟨rfl,hp⟩;have⟨i3,er3,hi3,hS⟩:=S2.post hp;have S3:=hS;go_wp21;go_call (Ic hL S3.x (c:=7) dZ hr1 rfl) as e1 w4 ⟨rfl,hp⟩;have⟨i4,er4,hi4,hS⟩:=S3.post hp;have S4:=hS;have z0:=S4.cell (j:=0) rfl;have y0:=S4.frozen 0;have S5:=S4.set 0 (vU 73);have J4:=Jb.start (N0:=N.length) dZ hb oM (λe=>(S4.x.E7 e).1);go_wp21;go_call HEX S5.x oM HXX as e1 w6 ⟨k6,N6,nv6,i6,er6,rfl,hk,ho,hi6,hx,hc1,hc2,hc3⟩;have S6:=S5.next hk ho hx;have J6:=J4.ex hi6 hc1 hc2 (λe=>(hc3 e).1);have C6:=hc3;have MX:=(Ck _ _ n).expr (t:=x.1) (st':=x.2) HXX;have z1:=S6.cell (j:=1) rfl;have y1:=S6.frozen 1;have S7:=S6.set 1 (vI k6);go_wp21;go_call (Ic hL S7.x (c:=8) dZ hra rfl) as e1 w8 ⟨rfl,hp⟩;have⟨i8,er8,hi8,hS⟩:=S7.post hp;have S8:=hS;have J8:=J6.tok hi8 (An (t:=ra.1) (st':=ra.2) hra);have hj8:=J8.2.1;go_wp21;go_call HEX S8.x oM hy as e1 w9 ⟨k9,N9,nv9,i9,er9,rfl,hk,ho,hi9,hx,hc1,hc2,hc3⟩;have S9:=S8.next hk ho hx;have J9:=J8.ex hi9 hc1 hc2 (λe=>(hc3 e).1);have C9:=hc3;have MY:=(Ck _ _ n).expr (t:=y.1) (st':=y.2) hy;have z1:=S9.cell (j:=2) rfl;have y1:=S9.frozen 2;have S10:=S9.set 2 (vI k9);go_wp21;go_call (Ic hL S10.x (c:=9) dZ hrb rfl) as e1 w11 ⟨rfl,hp⟩;have⟨i11,er11,hi11,hS⟩:=S10.post hp;have J11:=J9.tok hi11 (An (t:=rb.1) (st':=rb.2) hrb);have hj11:=J11.2.1;go_wp21;go_call HEX hS.x oM hz as e1 w12 ⟨k12,N12,nv12,i12,er12,rfl,hk,ho,hi12,hx,hc1,hc2,hc3⟩;have S12:=hS.next hk ho hx;have JQ:=J11.ex hi12 hc1 hc2 (λe=>(hc3 e).1);have MZ:=(Ck _ _ n).expr (t:=z.1) (st':=z.2) hz;have z1:=S12.cell (j:=3) rfl;have y1:=S12.frozen 3;have S13:=S12.set 3 (vI k12);have SD:=S13.zhu he;have hdp:=S13.x.dep;have hdz:=(Bp he).2.symm;have⟨a0,_,a2,_,_,_,_⟩:=S13.x.cells;have⟨_,b2,_,_⟩:=S13.x.frozen;have d0:=SD.cell (j:=0) rfl;have d1:=SD.cell (j:=1) rfl;have d2:=SD.cell (j:=2) rfl;have d3:=SD.cell (j:=3) rfl;have d4:=SD.cell (j:=4) rfl;have d5:=SD.cell (j:=5) rfl;have d6:=SD.cell (j:=6) rfl;have d7:=SD.cell (j:=7) rfl;have d8:=SD.cell (j:=8) rfl;have hqi:=S13.x.ile;have hqj:=JQ.2.1;go_wp21;have hRN:=kB hqj (show _<=5000 by omega);go_call Gq SD.x hRN ⟨73,k6,k9,k12,st.next,0,0,0⟩ 0 0 as e1 we ⟨rfl,hk,nve,ho,hx⟩;have KE:=SD.k.trans hk SD.o;have OE:=SD.o.trans ho SD.k.size;go_wp21;go_ret;refine Fk.of hL (x:=⟨73,k6,k9,k12,st.next,0,0,0⟩) KE OE hx (JQ.fin he) (λe=>?_);have e1:z.2.stuck=false:=by rw[<-(Bp he).1];exact e
 have e2:=MZ.1 e1;have⟨f1,f2,f3,f4⟩:=Il dZ hrb e2;have e3:=MY.1 f1;have⟨p1,p2,p3,p4⟩:=Il dZ hra e3;have e4:=MX.1 p1;have⟨q1,q2,q3,q4,_⟩:=Nw dZ hb e4;have g4:=(S4.x.E7 e4).1;rw[iA hlt,ht]at q3;cases q3;dsimp only at q1 q4;have⟨u1,u2,u3,u4,_⟩:=C6 p1;have⟨v1,v2,v3,v4,_⟩:=C9 f1;have⟨t1,t2,t3,t4,_,t6⟩:=hc3 e1;have hl:=congrArg List.length u2;have hl2:=congrArg List.length v2;have hl3:=congrArg List.length t2;rw[eA,Ao]at hl hl2 hl3;refine⟨flat (ixF body) (ixT body) x.1 N.length++flat (ixF body) (ixT body) y.1 (N.length+Rf.T.sz x.1)++flat (ixF body) (ixT body) z.1 (N.length+Rf.T.sz x.1+Rf.T.sz y.1),?_,?_,oM,?_,⟨tk,ht,q4.symm⟩,t6⟩
 ·rw[t2,hl2,hl];conv=>lhs;rw[v2,hl,u2]
  simp[List.append_assoc]
 ·rw[flat,q4,Fe hL ht,u3,v3,t3,hl2,hl];rfl
 ·simp[List.length_append,Ao];omega
theorem zsy{s:ByteArray}{body:List Tw.Tok}(n:Lex 0 s.data.toList body){st:PS}{rc:Int×PS}{i:Nat}(o:st.stuck=false->i=st.next)(hi:i<=body.length)(q:body.length<=300)(h:Bn (Bw s body) [4] st=some rc):
  (atT s.data.toList body i=[114,101,99]/\∃r,Tw.Bg (Bw s body) 4 st=some r/\r.2=rc.2/\(st.stuck=false->rc.1=4))\/(atT s.data.toList body i ≠ [114,101,99]/\rc.2=st/\rc.1=0):=by
 have f:Rf.Ends (Bw s body):=⟨⟨0,s.size,s.size⟩,sM,rfl⟩;have d:=D8 n i (c:=4) dZ;rw[show Eo 4=[114,101,99] by decide]at d;cases a:st.stuck with
 |true=>
  rw[Kv f a _ sM]at h;cases h;by_cases e:atT s.data.toList body i=[114,101,99]
  ·refine .inl ⟨e,?_⟩;have⟨t,b,m⟩:=Hq f a;exact⟨(t,st),by simp[Tw.Bg,b,m,Hj,a],rfl,λe=>(by cases e)⟩
  ·exact .inr ⟨e,rfl,rfl⟩
 |false=>
  have p:=o a;subst p;rw[zev a hi q dZ]at h;by_cases e:atS body st.next=4
  ·rw[mA e]at h;cases h;refine .inl ⟨d.2 e,?_⟩;have g:st.next<body.length:=by
    rcases yB st.next body.length with b|b
    ·exact b
    ·unfold atS at e;rw[gD b]at e;cases e
   obtain⟨tk,j⟩:∃tk,body[st.next]?=some tk:=⟨_,fA g⟩;have k:tk.sort=4:=(by unfold atS at e;rw[j]at e;exact e);refine⟨(tk,{st with next:=st.next+1}),?_,rfl,λ_=>rfl⟩;unfold Tw.Bg;rw[show Ej (Bw s body) st=some tk by simp[Ej,a];rw[<-j];exact iA g,zbS,mA k,jA dZ,mA oM]
  ·rw[jA e]at h;cases h;exact .inr ⟨λl=>e (d.1 l),rfl,rfl⟩
theorem zu0{s:ByteArray}{body:List Tw.Tok}(hL:Lex 0 s.data.toList body){n:Nat}(hX:zok s body n){w:World}{B br bt:Nat}{st:PS}{N:List RN}{tv nv:Value}{i:Nat}{er root:Int}{t:Tw.T}{st':PS}(h:Dm w B br bt s body st N tv nv i er root)(hs:st.stuck=false)(hN:N.length<=2*i+1000){tk:Tw.Tok}(ht:body[i]?=some tk)(hk:tk.sort=3)(hf:Oh s.data.toList (Bw s body) (n+1) st=some (t,st')):
  Calls prog 120 #[pT br] w (Fk w B br bt s body st' t N tv nv i root):=by
 obtain⟨hi,rfl⟩:=h.E7 hs;subst hi;have hlt:st.next<body.length:=(zlE.1 ht).1;have hm:=h.many;have HT:=(Ib hL ht (c:=3) dZ).2 hk;rw[show Eo 3=[108,101,116] by decide]at HT;have HEX:=@hX;rw[Oh]at hf;have⟨b,hb,hf⟩:=zbE.1 hf;have⟨rc,hrc,hf⟩:=zbE.1 hf;have⟨bd,hbd,hf⟩:=zbE.1 hf;have⟨ra,hra,hf⟩:=zbE.1 hf;have⟨y,hy,hf⟩:=zbE.1 hf;have⟨ri,hri,hf⟩:=zbE.1 hf;have⟨x,hx,hf⟩:=zbE.1 hf;have⟨se,he,hf⟩:=zbE.1 hf;cases hf;obtain⟨st1,r1,hst1,hr1,rfl⟩:=Sq hb;obtain⟨rb,hrb,rfl⟩:=Y6 hbd;have HXX:=bV hx;have HEN:=bV he;have⟨c0,c1,_,_,_,_,c6⟩:=h.cells;clear hk hX hx hbd he;go_in;go_wp21;have S:=bV (RS.new h #[vU 0,vI (-1),vI (-1),vI (-1),vI st.next,vI 0,vI 0,vI 0,.bool false]);obtain⟨w1,hw1⟩:∃w1,w.alloc (.cells #[vU 0,vI (-1),vI (-1),vI (-1),vI st.next,vI 0,vI 0,vI 0,.bool false] 276)=w1:=⟨_,rfl⟩;obtain⟨nb,hnb⟩:∃nb,w.heap.size=nb:=⟨_,rfl⟩;rw[hw1,hnb]at S ⊢;clear hw1 hnb c0 c1 c6;go_call Cq S.o.x as e1 w2 ⟨rfl,hg⟩;have S2:=bV (S.o.grown hg);rw[HT];clear hg S;simp[ug];go_wp21;go_call Wg S2.o.x hs hst1 as e1 w3 ⟨rfl,hp⟩;have⟨i3,er3,hi3,hS⟩:=S2.o.post hp;have S3:=bV hS;clear hp hS S2;go_wp21;go_call (Ic hL S3.o.x (c:=3) dZ hr1 rfl) as e1 w4 ⟨rfl,hp⟩;have⟨i4,er4,hi4,hS⟩:=S3.o.post hp;have S4:=bV hS;have z0:=S4.o.cell (j:=0) rfl;have y0:=S4.o.frozen 0;have S5:=bV (S4.o.set 0 (vU 108));have J4:=bV (Jb.start (N0:=N.length) dZ hb oM (λe=>(S4.o.x.E7 e).1));clear hp hS S3;go_wp21;go_call Cq S5.o.x as e1 w6 ⟨rfl,hg⟩;have S6:=bV (S5.o.grown hg);clear hg z0 y0 S5;have hrec:=@zsy s body hL r1.2 rc i4 (λe=>(S6.o.x.E7 e).1) S6.o.x.ile hm hrc;simp[ug];rcases hrec with⟨hT,rr,hr,hrs,hr4⟩|⟨hT,hrs,hr0⟩
 case' inl=>
  have HRR:=bV hr;have R4:=bV hr4;rw[hT];clear hT hr hr4;have z0:=S6.o.cell (j:=0) rfl;have y0:=S6.o.frozen 0;have S7:=bV (S6.o.set 0 (vU 114));go_wp21;go_call (Ic hL S7.o.x (c:=4) dZ (uh HRR) rfl) as e1 w8 ⟨rfl,hp⟩;have⟨i8,er8,hi8,hS⟩:=S7.o.post hp;rw[hrs]at hS;have S8:=bV hS;have J8:=J4.o.tok hi8 (show Hz r1.2 rc.2 from hrs ▸ An (t:=rr.1) (st':=rr.2) (uh HRR));have MR:=(hrs ▸ An (t:=rr.1) (st':=rr.2) (uh HRR));have SO:r1.2.stuck=false->(if rc.1==4 then 114 else 108:Nat)=114:=λe=>(by rw[uh R4 e];rfl);clear hp hS z0 y0 S6 S7;go_wp21
 case' inr=>
  have n1:(atT s.data.toList body i4 == [114,101,99])=false:=by simpa using hT
  have S8:=S6;rw[<-hrs]at S8;have J8:=J4;rw[<-hrs]at J8;have MR:Hz r1.2 rc.2:=(by rw[hrs];exact⟨id,rfl⟩);have SO:r1.2.stuck=false->(if rc.1==4 then 114 else 108:Nat)=108:=λ_=>(by rw[hr0];rfl);obtain⟨i8,hi8⟩:∃i8,i4=i8:=⟨_,rfl⟩;rw[hi8]at S8 J8;clear hi8;clear hT hrs hr0 S6 J4;go_wp21
 all_goals as_aux_lemma=>
  have hj8:=J8.2.1;have hj8':=J8.1;go_call zld S8.o.x hrb as e1 w9 ⟨rfl,hp⟩;have⟨i9,er9,hi9,hS⟩:=S8.o.post hp;have S9:=hS;have J9:=J8.tok hi9 (An (t:=rb.1) (st':=rb.2) hrb);have z1:=S9.cell (j:=6) rfl;have y1:=S9.frozen 6;have S10:=S9.set 6 (vI i8);clear hp hS;go_wp21;go_call (Ic hL S10.x (c:=15) dZ hra rfl) as e1 w11 ⟨rfl,hp⟩;have⟨i11,er11,hi11,hS⟩:=S10.post hp;have S11:=hS;have J11:=J9.tok hi11 (An (t:=ra.1) (st':=ra.2) hra);clear hp hS z1 y1;go_wp21;go_call HEX S11.x oM hy as e1 w12 ⟨k12,N12,nv12,i12,er12,rfl,hk,ho,hi12,hx,hc1,hc2,hc3⟩;have S12:=S11.next hk ho hx;have J12:=J11.ex hi12 hc1 hc2 (λe=>(hc3 e).1);have C12:=hc3;have MY:=(Ck _ _ n).expr (t:=y.1) (st':=y.2) hy;have z1:=S12.cell (j:=1) rfl;have y1:=S12.frozen 1;have S13:=S12.set 1 (vI k12);clear hk ho hx hc1 hc2 hc3;go_wp21;go_call (Ic hL S13.x (c:=5) dZ hri rfl) as e1 w14 ⟨rfl,hp⟩;have⟨i14,er14,hi14,hS⟩:=S13.post hp;have J14:=J12.tok hi14 (An (t:=ri.1) (st':=ri.2) hri);have hj14:=J14.2.1;clear hp z1 y1;go_wp21;go_call HEX hS.x oM (uh HXX) as e1 w15 ⟨k15,N15,nv15,i15,er15,rfl,hk,ho,hi15,hx,hc1,hc2,hc3⟩;have S15:=hS.next hk ho hx;have JQ:=J14.ex hi15 hc1 hc2 (λe=>(hc3 e).1);have MX:=(Ck _ _ n).expr (t:=x.1) (st':=x.2) (uh HXX);have z1:=S15.cell (j:=2) rfl;have y1:=S15.frozen 2;have S16:=S15.set 2 (vI k15);have SD:=S16.zhu (uh HEN);have hdp:=S16.x.dep;have hdz:=(Bp (uh HEN)).2.symm;have⟨a0,_,a2,_,_,_,_⟩:=S16.x.cells;have⟨_,b2,_,_⟩:=S16.x.frozen;have d0:=SD.cell (j:=0) rfl;have d1:=SD.cell (j:=1) rfl;have d2:=SD.cell (j:=2) rfl;have d3:=SD.cell (j:=3) rfl;have d4:=SD.cell (j:=4) rfl;have d5:=SD.cell (j:=5) rfl;have d6:=SD.cell (j:=6) rfl;have d7:=SD.cell (j:=7) rfl;have d8:=SD.cell (j:=8) rfl;have hqi:=S16.x.ile;have hqj:=JQ.2.1;have hNb:=hN;clear hk ho hx hc1 hc2;go_wp21;have hRN:=kB hqj (show _<=5000 by omega)
  first
   |(have _:=HRR;refine(Gq SD.x hRN ⟨114,k12,k15,-1,st.next,0,i8,0⟩ 0 0).mono ?_)
   |refine(Gq SD.x hRN ⟨108,k12,k15,-1,st.next,0,i8,0⟩ 0 0).mono ?_
  rintro e1 we ⟨rfl,hk,nve,ho,hx⟩;have KE:=SD.k.trans hk SD.o;have OE:=SD.o.trans ho SD.k.size;clear hk ho d0 d1 d2 d3 d4 d5 d6 d7 d8 a0 a2 b2 z1 y1;go_wp21;go_ret
  first
   |refine Fk.of hL (x:=⟨114,k12,k15,-1,st.next,0,i8,0⟩) KE OE hx (JQ.fin (uh HEN)) (λe=>?_)
   |refine Fk.of hL (x:=⟨108,k12,k15,-1,st.next,0,i8,0⟩) KE OE hx (JQ.fin (uh HEN)) (λe=>?_)
  have e1:x.2.stuck=false:=by rw[<-(Bp (uh HEN)).1];exact e
  have e2:=MX.1 e1;have⟨f1,_,_,_⟩:=Il dZ hri e2;have e3:=MY.1 f1;have⟨l1,_,_,_⟩:=Il dZ hra e3;have⟨p1,p2,p3,p4⟩:=Il dZ hrb l1;have m1:=MR.1 p1;have⟨q1,q2,q3,q4,_⟩:=Nw dZ hb m1;have p5:=O0 p3 (by rw[p4];decide);have g4:=(S8.o.x.E7 p1).1;rw[iA hlt,ht]at q3;cases q3;rw[<-g4]at p5;have⟨u1,u2,u3,u4,_⟩:=C12 f1;have⟨v1,v2,v3,v4,_,v6⟩:=hc3 e1;have hl:=congrArg List.length u2;have hl2:=congrArg List.length v2;rw[eA,Ao]at hl hl2;dsimp only at q1 q4;have j1:=J8.1;refine⟨flat (ixF body) (ixT body) y.1 N.length++flat (ixF body) (ixT body) x.1 (N.length+Rf.T.sz y.1),?_,?_,oM,?_,⟨tk,ht,q4.symm⟩,v6⟩
  ·rw[v2,hl];conv=>lhs;rw[u2]
   rw[wA]
  ·rw[flat,SO m1,q4,Fe hL ht,Fe hL p5,u3,v3,hl];rfl
  ·rw[eA,Ao,Ao];have h8:=J8.2.2 p1;omega
theorem zu1{s:ByteArray}{body:List Tw.Tok}(hL:Lex 0 s.data.toList body){n:Nat}(hX:Df 195 (Kj s.data.toList (Bw s body) n) s body){w:World}{B br bt:Nat}{st:PS}{N:List RN}{tv nv:Value}{i:Nat}{er root:Int}{t:Tw.T}{st':PS}(h:Dm w B br bt s body st N tv nv i er root)(hs:st.stuck=false)(hN:N.length<=2*i+1000)(h3:atS body i≠3)(h6:atS body i≠6)(h7:atS body i≠7)(hf:Kk s.data.toList (Bw s body) (n+1) st=some (t,st')):
  Calls prog 120 #[pT br] w (Fk w B br bt s body st' t N tv nv i root):=by
 obtain⟨hi,rfl⟩:=h.E7 hs;subst hi;have hm:=h.many;have hE:Rf.Ends (Bw s body):=⟨⟨0,s.size,s.size⟩,sM,rfl⟩;have n1:(atT s.data.toList body st.next == [108,101,116])=false:=by rw[show([108,101,116]:zU)=Eo 3 by decide];simpa using λe=>h3 ((D8 hL st.next (c:=3) dZ).1 e)
 have n2:(atT s.data.toList body st.next == [102,117,110])=false:=by rw[show([102,117,110]:zU)=Eo 6 by decide];simpa using λe=>h6 ((D8 hL st.next (c:=6) dZ).1 e)
 have n3:(atT s.data.toList body st.next == [105,102])=false:=by rw[show([105,102]:zU)=Eo 7 by decide];simpa using λe=>h7 ((D8 hL st.next (c:=7) dZ).1 e)
 have HSM:=@hX;rw[Kk]at hf;have⟨x,hx,hf⟩:=zbE.1 hf;have⟨sg,hsg,hf⟩:=zbE.1 hf;have HXX:=hx;have HSG:=hsg;have HF:=hf;have⟨c0,c1,_,_,_,_,c6⟩:=h.cells;clear hX hx hsg hf h3 h6 h7;go_in;go_wp21;have S:=RS.new h #[vU 0,vI (-1),vI (-1),vI (-1),vI st.next,vI 0,vI 0,vI 0,.bool false];generalize w.alloc (.cells #[vU 0,vI (-1),vI (-1),vI (-1),vI st.next,vI 0,vI 0,vI 0,.bool false] 276)=w1 at S ⊢;generalize w.heap.size=nb at S ⊢;clear c0 c1 c6;go_call Cq S.x as e1 w2 ⟨rfl,hg⟩;have S2:=S.grown hg;clear hg S;simp[ug];go_wp21;go_call HSM S2.x hs oM HXX as e1 w3 ⟨k3,N3,nv3,i3,er3,rfl,hk,ho,hi3,hx,hc,hg⟩;have S3:=bV (S2.next hk ho hx);have C3:=bV hc;have D3:=bV hg;clear hk ho hx hc hg S2 n1 n2 n3;have⟨c0,c1,_,_,_,_,c6⟩:=S3.o.x.cells;have ways:x.2.stuck=true\/(x.2.stuck=false/\atS body i3≠23/\atS body i3≠15)\/(x.2.stuck=false/\atS body i3=23)\/(x.2.stuck=false/\atS body i3=15):=by
  cases x.2.stuck
  ·by_cases e:atS body i3=23
   ·exact .inr (.inr (.inl ⟨rfl,e⟩))
   ·by_cases e2:atS body i3=15
    ·exact .inr (.inr (.inr ⟨rfl,e2⟩))
    ·exact .inr (.inl ⟨rfl,e,e2⟩)
  ·exact .inl rfl
 rcases ways with hw|⟨hw,he,he2⟩|⟨hw,he⟩|⟨hw,he⟩
 ·have hsg:=HSG;rw[Kv hE hw _ sM]at hsg;cases hsg;have hf:=HF;rw[mA rfl]at hf;cases hf;obtain⟨j,_,rfl,_⟩:=S3.o.x.bad hw;clear hw;go_wp21;go_ret;exact⟨k3,N3,nv3,i3,_,rfl,S3.o.k,S3.o.o,hi3,S3.o.x,C3.o,D3.o⟩
 ·obtain⟨q0,rfl⟩:=S3.o.x.E7 hw;have hsg:=HSG;rw[za0 hw (by rw[<-q0];exact S3.o.x.ile) hm dZ dZ,<-q0,jA he,jA he2]at hsg;cases hsg;have hf:=HF;rw[mA rfl]at hf;cases hf;have n1:(atT s.data.toList body i3 == [60])=false:=by rw[show([60]:zU)=Eo 23 by decide];simpa using λe=>he ((D8 hL i3 (c:=23) dZ).1 e)
  have n2:(atT s.data.toList body i3 == [61])=false:=by rw[show([61]:zU)=Eo 15 by decide];simpa using λe=>he2 ((D8 hL i3 (c:=15) dZ).1 e)
  clear hw q0 he he2;go_wp21;go_call Cq S3.o.x as e1 w4 ⟨rfl,hg⟩;have S4:=bV (S3.o.grown hg);clear hg S3 c0 c1 c6;simp[ug];go_wp21;go_call Cq S4.o.x as e1 w5 ⟨rfl,hg⟩;have S5:=bV (S4.o.grown hg);clear hg S4;simp[ug];go_wp21;go_ret;exact⟨k3,N3,nv3,i3,_,rfl,S5.o.k,S5.o.o,hi3,S5.o.x,C3.o,D3.o⟩
 case' inr.inr.inl=>
  have n1:=((D8 hL i3 (c:=23) dZ).2 he);obtain⟨q0,rfl⟩:=S3.o.x.E7 hw;have hsg:=HSG;rw[za0 hw (by rw[<-q0];exact S3.o.x.ile) hm dZ dZ,<-q0,mA he]at hsg;cases hsg;have hf:=HF;rw[jA (show¬(23:Int)=0 by decide)]at hf;have⟨y,hy,hf⟩:=zbE.1 hf;cases hf;have HYY:=bV hy;have M23:=bV trivial;have SGB:=bV (show Gf 23=60 by decide);have hlt2:i3<body.length:=by
   rcases yB i3 body.length with h1|h1
   ·exact h1
   ·unfold atS at he;rw[gD h1]at he;cases he
  have HW:=bV hw;have Q0:=bV q0;clear hw q0 he hy;go_wp21;go_call Cq S3.o.x as e1 w4 ⟨rfl,hg⟩;have S4:=bV (S3.o.grown hg);clear hg S3 c0 c1 c6;rw[n1];simp[ug];go_wp21;go_call Cq S4.o.x as e1 w6 ⟨rfl,hg⟩;have S6:=bV (S4.o.grown hg);clear hg S4
 case' inr.inr.inr=>
  have n1:atT s.data.toList body i3=[61]:=((D8 hL i3 (c:=15) dZ).2 he);obtain⟨q0,rfl⟩:=S3.o.x.E7 hw;have hsg:=HSG;rw[za0 hw (by rw[<-q0];exact S3.o.x.ile) hm dZ dZ,<-q0,jA (by rw[he];decide),mA he]at hsg;cases hsg;have hf:=HF;rw[jA (show¬(15:Int)=0 by decide)]at hf;have⟨y,hy,hf⟩:=zbE.1 hf;cases hf;have HYY:=bV hy;have SGB:=bV (show Gf 15=61 by decide);have hlt2:i3<body.length:=by
   rcases yB i3 body.length with h1|h1
   ·exact h1
   ·unfold atS at he;rw[gD h1]at he;cases he
  have HW:=bV hw;have Q0:=bV q0;clear hw q0 he hy;go_wp21;go_call Cq S3.o.x as e1 w4 ⟨rfl,hg⟩;have S4:=bV (S3.o.grown hg);clear hg S3 c0 c1 c6;rw[n1];simp[ug];go_wp21;go_call Cq S4.o.x as e1 w5 ⟨rfl,hg⟩;have S5:=bV (S4.o.grown hg);clear hg S4;rw[n1];simp[ug];go_wp21;go_call Cq S5.o.x as e1 w6 ⟨rfl,hg⟩;have S6:=bV (S5.o.grown hg);clear hg S5
 all_goals
  rw[n1];simp[ug];have⟨c0,c1,_,_,_,_,c6⟩:=S6.o.x.cells;have⟨f1,_,_,_⟩:=S6.o.x.frozen;have S7:=bV (S6.o.zhx (uh HW) hlt2);rw[<-uh Q0]at S7;have hb3:=(D3.o (uh HW)).1;go_wp21;go_call HSM S7.o.x (uh HW) oM (uh HYY) as e1 w8 ⟨k8,N8,nv8,i8,er8,rfl,hk,ho,hi8,hx,hc,hg⟩;have S8:=bV (S7.o.next hk ho hx);have hl8:=hx.ile;have hN8:N8.length<=5000:=by
   cases h8:y.2.stuck with
   |true=>have:=hc h8;omega
   |false=>have:=(hg h8).1;omega
  have JQ:Jb N.length st.next y.2 N8.length i8:=by
   refine⟨oM,?_,λe=>by have:=(hg e).1;omega⟩;cases h8:y.2.stuck with
   |true=>have:=hc h8;omega
   |false=>have:=(hg h8).1;omega
  clear hk ho hx hc c0 c1 c6 f1 S6 S7;go_wp21
  first
   |(have _:=M23;refine(Gq S8.o.x hN8 ⟨60,k3,k8,-1,st.next,0,0,0⟩ 0 0).mono ?_)
   |refine(Gq S8.o.x hN8 ⟨61,k3,k8,-1,st.next,0,0,0⟩ 0 0).mono ?_
  rintro e1 we ⟨rfl,hk,nve,ho,hx⟩;have KE:=S8.o.k.trans hk S8.o.o;have OE:=S8.o.o.trans ho S8.o.k.size;clear hk ho;go_wp21;go_ret
  first
   |refine Fk.of hL (x:=⟨60,k3,k8,-1,st.next,0,0,0⟩) KE OE hx JQ (λe=>?_)
   |refine Fk.of hL (x:=⟨61,k3,k8,-1,st.next,0,0,0⟩) KE OE hx JQ (λe=>?_)
  have⟨u1,u2,u3,u4,⟨k0,u5,u6⟩,_⟩:=D3.o (uh HW);have⟨v1,v2,v3,v4,_,v6⟩:=hg e;have hl:=congrArg List.length u2;have hl2:=congrArg List.length v2;rw[eA,Ao]at hl hl2;refine⟨flat (ixF body) (ixT body) x.1 N.length++flat (ixF body) (ixT body) y.1 (N.length+Rf.T.sz x.1),?_,?_,oM,?_,⟨k0,u5,u6⟩,v6⟩
  ·rw[v2,hl];conv=>lhs;rw[u2]
   rw[wA]
  ·rw[flat,SGB.o,<-u6,Fe hL u5,u3,v3,hl];rfl
  ·rw[eA,Ao,Ao];omega
end
section
open Tw Tw.Rf
open Go.RowKit
section
variable{F:Nat}{tw:Tw.PS->Option (Tw.T×Tw.PS)}{s:ByteArray}{body:List Tw.Tok}
theorem Df.none(h:∀st,tw st=.none):Df F tw s body:=by
 intro w B b c st N g e i d root t f _ _ _ a;rw[h]at a;cases a
theorem Df.eq{a:PS->Option (Tw.T×PS)}(h:∀st,tw st=a st)(k:Df F a s body):Df F tw s body:=by
 rw[show tw=a from funext h];exact k
structure zum(s:ByteArray)(body:List Tw.Tok)(n:Nat):Prop where
 expr:Df 120 (Cg s.data.toList (Bw s body) n) s body
 sum:Df 195 (Kj s.data.toList (Bw s body) n) s body
 term:Df 215 (Ha s.data.toList (Bw s body) n) s body
 call:Df 224 (Gv s.data.toList (Bw s body) n) s body
 atom:Df 231 (Ev s.data.toList (Bw s body) n) s body
theorem zsz(i:Lex 0 s.data.toList body){n:Nat}(k:∀m,m<=n->zum s body m):Df 120 (Cg s.data.toList (Bw s body) (n+1)) s body:=by
 intro D B r t l N C y x v root A z h c j a;obtain⟨p,rfl⟩:=h.E7 c;subst p;have w:=h.ile;rw[Cg]at a;obtain⟨tk,q,a⟩:=zbE.1 a;have b:(Bw s body)[l.next]?=some tk:=by simpa[Ej,c]using q
 have o:atS body l.next=tk.sort:=by
  unfold atS;rcases yB l.next body.length with d|d
  ·rw[iA d]at b;rw[b]
  ·rw[fB d,show l.next-body.length=0 by omega]at b;simp at b;rw[gD d,<-b]
 split at a
 ·rename_i e;cases n with
  |zero=>cases a
  |succ n=>exact zu0 i (zle (k n oM).expr) h c j (O0 b (by rw[e];decide)) e a
 ·rename_i e;split at a
  ·rename_i f;cases n with
   |zero=>cases a
   |succ n=>exact zuz i (zle (k n oM).expr) h c j (O0 b (by rw[f];decide)) f a
  ·rename_i f;split at a
   ·rename_i g;cases n with
    |zero=>cases a
    |succ n=>exact zsx i (zle (k n oM).expr) h c j (O0 b (by rw[g];decide)) g a
   ·rename_i g;cases n with
    |zero=>cases a
    |succ n=>exact zu1 i (k n oM).sum h c j (by rw[o];exact e) (by rw[o];exact f) (by rw[o];exact g) a
theorem zu2(a:Lex 0 s.data.toList body)(n:Nat):zum s body n:=by
 induction n using Nat.strongRecOn with
 |ind n ih=>
  cases n with
  |zero=>exact⟨Df.none λ_=>by rw[Cg],Df.none λ_=>by rw[Kj],Df.none λ_=>by rw[Ha],Df.none λ_=>by rw[Gv],Df.none λ_=>by rw[Ev]⟩
  |succ n=>
   refine⟨zsz a (λm b=>ih m oM),?_,?_,zsv a (λm b=>(ih m oM).atom),zsw a (λm b=>zle (ih m oM).expr)⟩
   ·refine Df.eq (λc=>by rw[Kj]) ?_;cases n with
    |zero=>exact Df.none λ_=>by rw[Ed]
    |succ n=>
     refine zg2 a (.inr ⟨rfl,rfl,rfl,rfl,rfl⟩) (λm b=>?_);cases m with
     |zero=>exact Df.none λ_=>by rw[Dw]
     |succ m=>exact Df.eq (λc=>by rw[Dw]) (ih m oM).term
   ·refine Df.eq (λc=>by rw[Ha]) ?_;cases n with
    |zero=>exact Df.none λ_=>by rw[Ed]
    |succ n=>
     refine zg2 a (.inl ⟨rfl,rfl,rfl,rfl,rfl⟩) (λm b=>?_);cases m with
     |zero=>exact Df.none λ_=>by rw[Dw]
     |succ m=>exact Df.eq (λc=>by rw[Dw]) (ih m oM).call
end
end
end Go.Proofs.YtckhafpejefbbaaGreatDoor
