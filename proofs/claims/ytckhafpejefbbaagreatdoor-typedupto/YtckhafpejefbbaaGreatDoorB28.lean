import Derived.Test.YtckhafpejefbbaaGreatDoorB27
import Derived.Deep.AppendLies

set_option maxRecDepth 100000
set_option maxHeartbeats 16000000
namespace Go.Proofs.YtckhafpejefbbaaGreatDoor
section
open Tw Tw.Rf Go.Proofs.Tryz
open Go.RowKit
variable{w w':World}{t:TypeId}{o:Option Nat}
theorem Tryz.info276:(Tryz.prog.info? 276).map (λi=>(i.zero,i.size,i.bytes))=some (some (.agg #[vU 0,vI 0,vI 0,vI 0,vI 0,vI 0,vI 0,vI 0,.bool false]),9,72):=kR
theorem Dv{B:Nat}{e:TypeId}{size:Nat}{v:Value}{n:Nat}{l:List Value}(h:w.ownsRow B e size v n l)(j:w.grownBy w' v.ownBlock){g:Nat}{c:Array Value}{m:Nat×Nat}(d:w.heap[g]?=some (.cells c t m))(k:t≠e):w'.heap[g]?=some (.cells c t m):=by
 refine(j.block g (zgE.1 d).1 λa=>?_).trans d;rcases h.2 with⟨b,_⟩|⟨r,p,q,b,_,f,_⟩
 ·rw[b]at a;simp[Value.ownBlock]at a
 ·rw[b]at a;simp[Value.ownBlock]at a;subst a;rw[d]at f;cases f;exact k rfl
theorem Hi{a b c:World}(h:a.grownBy b none)(k:b.grownBy c o):a.grownBy c o:=
 ⟨k.os.trans h.os,k.tape.trans h.tape,k.output.trans h.output,kB h.size k.size,λi d e=>(k.block i (aB d h.size) e).trans (h.block i d sM)⟩
theorem Ay(h:w.grownBy w' none):w.grownBy w' o:=
 ⟨h.os,h.tape,h.output,h.size,λk a _=>h.block k a sM⟩
theorem Qk{b:Nat}{a0 a1 a2 a c d e f g:Value}(h:w.heap[b]?=some (.cells #[a0,a1,a2,a,c,d,e,f,g] t (0,0))):∀j u,[a0,a1,a2,a,c,d,e,f,g][j]?=some u->w.cell? (((aD b 0):Addr).add j)=some u:=by
 intro j u m;have k:(((aD b 0):Addr).add j)=(aD b j):=by
  unfold Addr.add;split
  ·rename_i l;rw[l]
  ·simp
 rw[k,mB _ _ _ _ _ _ h];simpa using m
abbrev Di(x:RN)(b a:Int):Array Value:=#[.int .u8 x.sort,.int .i64 x.a,.int .i64 x.b,.int .i64 x.c,.int .i64 x.first,.int .i64 b,.int .i64 x.name,.int .i64 a,.bool false]
section
variable {w:World}{B br bt:Nat}{s:ByteArray}{body:List Tw.Tok}{st:Tw.PS}{N:List Tw.Rf.RN}{tv nv:Value}{i:Nat}{er root:Int}
theorem Dy(h:RCtx w B br bt s body st N tv nv i er root)(b7:N.length<=5000)(x:RN)(la r:Int):
  Calls prog 194 #[pT br,.agg #[vU x.sort,vI x.a,vI x.b,vI x.c,vI x.first,vI la,vI x.name,vI r,.bool false]] w λe w'=>e=.returned (vI N.length)/\RK br bt nv w w'/\∃av,Own w nv av/\RCtx w' B br bt s body st (N++[{x with last:=(i:Int)-1,binder:=-1}]) tv av i er root:=by
 obtain⟨i0,an,aq,ar,au⟩:=info_parts Tryz.info276;have hm:=h.many;have b8:=h.ile;obtain⟨p,g,b2⟩:∃p g,nv=.slice p N.length g:=by
  rcases h.nodes.2 with⟨e,y⟩|⟨C,ae,af,e,_⟩
  ·exact⟨_,_,by rw[e,y]⟩
  ·exact⟨_,_,e⟩
 subst b2;have g1:w.grownBy (w.alloc (.cells (Di x la r) 276)) none:=zwA _ _ none;have g2:w.grownBy (w.alloc (.cells (Di x ((i:Int)-1) r) 276)) none:=zwA _ _ none;have g3:w.grownBy (w.alloc (.cells (Di x ((i:Int)-1) (-1)) 276)) none:=zwA _ _ none;have n1:(w.alloc (.cells (Di x la r) 276)).heap[w.heap.size]?=some (.cells (Di x la r) 276 (0,0)):=Ac w _;have n2:(w.alloc (.cells (Di x ((i:Int)-1) r) 276)).heap[w.heap.size]?=some (.cells (Di x ((i:Int)-1) r) 276 (0,0)):=Ac w _;have R:(w.alloc (.cells (Di x ((i:Int)-1) (-1)) 276)).heap[w.heap.size]?=some (.cells (Di x ((i:Int)-1) (-1)) 276 (0,0)):=Ac w _;have aw:=bV (h.grown g1);have b4:=bV (h.grown g2);have a:=bV (h.grown g3);have a1:=bV g3;obtain⟨_,b6,_,_,_,_,_⟩:=aw.o.cells;obtain⟨b0,_,_,_,_,b5,_⟩:=a.o.cells;have z1:(w.alloc (.cells (Di x la r) 276)).cell? (aD w.heap.size 5)=some (vI la):=by rw[mB _ _ _ _ _ _ n1];rfl
 have y1:(w.alloc (.cells (Di x la r) 276)).frozen? (aD w.heap.size 5)=false:=eB _ _ _ _ _ n1;have z2:(w.alloc (.cells (Di x ((i:Int)-1) r) 276)).cell? (aD w.heap.size 7)=some (vI r):=by rw[mB _ _ _ _ _ _ n2];rfl
 have y2:(w.alloc (.cells (Di x ((i:Int)-1) r) 276)).frozen? (aD w.heap.size 7)=false:=eB _ _ _ _ _ n2;have d0:(w.alloc (.cells (Di x ((i:Int)-1) (-1)) 276)).cell? (aD w.heap.size 0)=some (vU x.sort):=by rw[mB _ _ _ _ _ _ R];rfl
 have d1:(w.alloc (.cells (Di x ((i:Int)-1) (-1)) 276)).cell? (aD w.heap.size 1)=some (vI x.a):=by rw[mB _ _ _ _ _ _ R];rfl
 have d2:(w.alloc (.cells (Di x ((i:Int)-1) (-1)) 276)).cell? (aD w.heap.size 2)=some (vI x.b):=by rw[mB _ _ _ _ _ _ R];rfl
 have d3:(w.alloc (.cells (Di x ((i:Int)-1) (-1)) 276)).cell? (aD w.heap.size 3)=some (vI x.c):=by rw[mB _ _ _ _ _ _ R];rfl
 have d4:(w.alloc (.cells (Di x ((i:Int)-1) (-1)) 276)).cell? (aD w.heap.size 4)=some (vI x.first):=by rw[mB _ _ _ _ _ _ R];rfl
 have d5:(w.alloc (.cells (Di x ((i:Int)-1) (-1)) 276)).cell? (aD w.heap.size 5)=some (vI ((i:Int)-1)):=by rw[mB _ _ _ _ _ _ R];rfl
 have d6:(w.alloc (.cells (Di x ((i:Int)-1) (-1)) 276)).cell? (aD w.heap.size 6)=some (vI x.name):=by rw[mB _ _ _ _ _ _ R];rfl
 have d7:(w.alloc (.cells (Di x ((i:Int)-1) (-1)) 276)).cell? (aD w.heap.size 7)=some (vI (-1)):=by rw[mB _ _ _ _ _ _ R];rfl
 have d8:(w.alloc (.cells (Di x ((i:Int)-1) (-1)) 276)).cell? (aD w.heap.size 8)=some (.bool false):=by rw[mB _ _ _ _ _ _ R];rfl
 have U:=bV R;have a6:=bV h.nodes;have am:=bV h.read;have ax:=bV h.tree
 go_in;go_wp2_with fail;obtain⟨b,ao⟩:∃b,w.heap.size=b:=⟨_,rfl⟩;obtain⟨d,az⟩:∃d,(w.alloc (.cells (Di x ((i:Int)-1) (-1)) 276))=d:=⟨_,rfl⟩;rw[az]at a a1 U b0 b5 d0 d1 d2 d3 d4 d5 d6 d7 d8 ⊢;rw[ao]at U d0 d1 d2 d3 d4 d5 d6 d7 d8 ⊢;have ap:∀k,(Value.slice p N.length g).ownBlock=some k->k<b:=λk G=>by rw[<-ao];exact(a6.o.lt k G).2
 have b1:prog.follows .mixedOrders=true:=kR;have z:Hid (∀W,d.grownBy W (Value.slice p N.length g).ownBlock->W.cell? (aD br 0)=some (pT bt)/\W.cell? (aD b 0)=some (vU x.sort)/\W.cell? (aD b 1)=some (vI x.a)/\W.cell? (aD b 2)=some (vI x.b)/\W.cell? (aD b 3)=some (vI x.c)/\W.cell? (aD b 4)=some (vI x.first)/\W.cell? (aD b 5)=some (vI ((i:Int)-1))/\W.cell? (aD b 6)=some (vI x.name)/\W.cell? (aD b 7)=some (vI (-1))/\W.cell? (aD b 8)=some (.bool false)):=bV λW X=>by
  have nr:some br≠(Value.slice p N.length g).ownBlock:=λe=>by
   rcases a6.o.2 with⟨D,_⟩|⟨C,ae,af,D,_,V,_⟩
   ·rw[D]at e;simp[Value.ownBlock]at e
   ·cases D;simp[Value.ownBlock]at e;rw[<-e]at V;have:=am.o;rw[V]at this;cases this
  have nn:some b≠(Value.slice p N.length g).ownBlock:=λe=>by have:=ap b e.symm;omega
  have m3:W.heap[b]?=_:=(X.block b (zgE.1 U.o).1 nn).trans U.o;have m1:W.heap[br]?=_:=(X.block br (zgE.1 a.o.read).1 nr).trans a.o.read;refine⟨by rw[mB _ _ _ _ _ _ m1];rfl,?_,?_,?_,?_,?_,?_,?_,?_,?_⟩<;>(rw[mB _ _ _ _ _ _ m3];rfl)
 have a5:Hid (∀W,d.grownBy W (Value.slice p N.length g).ownBlock->W.heap[bt]?=some (.cells #[.string s,tv,.slice p N.length g,vI root,vI er] 102 (0,0))):=bV λW X=>by
  have nt:some bt≠(Value.slice p N.length g).ownBlock:=λe=>by
   rcases a6.o.2 with⟨D,_⟩|⟨C,ae,af,D,_,V,_⟩
   ·rw[D]at e;simp[Value.ownBlock]at e
   ·cases D;simp[Value.ownBlock]at e;rw[<-e]at V;have:=ax.o;rw[V]at this;cases this
  exact(X.block bt (zgE.1 a.o.tree).1 nt).trans a.o.tree
 have al:Hid (∀W,d.grownBy W (Value.slice p N.length g).ownBlock->W.heap[br]?=some (.cells #[pT bt,vI i,vI st.depth] 270 (0,0))):=bV λW X=>by
  have nr:some br≠(Value.slice p N.length g).ownBlock:=λe=>by
   rcases a6.o.2 with⟨D,_⟩|⟨C,ae,af,D,_,V,_⟩
   ·rw[D]at e;simp[Value.ownBlock]at e
   ·cases D;simp[Value.ownBlock]at e;rw[<-e]at V;have:=am.o;rw[V]at this;cases this
  exact(X.block br (zgE.1 a.o.read).1 nr).trans a.o.read
 have ak:Hid (∀W,d.grownBy W (Value.slice p N.length g).ownBlock->W.heap[b]?=some (.cells (Di x ((i:Int)-1) (-1)) 276 (0,0))):=bV λW X=>(X.block b (zgE.1 U.o).1 (λe=>by have:=ap b e.symm;omega)).trans U.o;refine Er (λW=>W.cell? (aD br 0)=some (pT bt)/\W.cell? (aD b 0)=some (vU x.sort)/\W.cell? (aD b 1)=some (vI x.a)/\W.cell? (aD b 2)=some (vI x.b)/\W.cell? (aD b 3)=some (vI x.c)/\W.cell? (aD b 4)=some (vI x.first)/\W.cell? (aD b 5)=some (vI ((i:Int)-1))/\W.cell? (aD b 6)=some (vI x.name)/\W.cell? (aD b 7)=some (vI (-1))/\W.cell? (aD b 8)=some (.bool false)) b1 (uh z _ (Ay (Ad (Aa d)))) ?_;intro q;refine tkH 0 (v:=pT br) rfl (λW ⟨S,H,I,y,J,L,M,O,P,Q⟩=>by go_simp) q ?_;simp only[Act.put];refine tkH 1 (v:=pT br) rfl (λW ⟨S,H,I,y,J,L,M,O,P,Q⟩=>by go_simp) q ?_;simp only[Act.put];refine tkH 2 (v:=pT br) rfl (λW ⟨S,H,I,y,J,L,M,O,P,Q⟩=>by go_simp) q ?_;simp only[Act.put];refine tkH 3 (v:=pT bt) rfl (λW ⟨S,H,I,y,J,L,M,O,P,Q⟩=>by go_simp) q ?_;simp only[Act.put];refine tkH 4 (v:=pT br) rfl (λW ⟨S,H,I,y,J,L,M,O,P,Q⟩=>by go_simp) q ?_;simp only[Act.put];refine tkH 5 (v:=pT br) rfl (λW ⟨S,H,I,y,J,L,M,O,P,Q⟩=>by go_simp) q ?_;simp only[Act.put];refine tkH 6 (v:=pT br) rfl (λW ⟨S,H,I,y,J,L,M,O,P,Q⟩=>by go_simp) q ?_;simp only[Act.put];refine tkH 7 (v:=pT bt) rfl (λW ⟨S,H,I,y,J,L,M,O,P,Q⟩=>by go_simp) q ?_;simp only[Act.put];refine tkH 8 (v:=pT bt) rfl (λW ⟨S,H,I,y,J,L,M,O,P,Q⟩=>by go_simp) q ?_;simp only[Act.put];refine tkH 9 (v:=.pointer (some (aD bt 2))) rfl (λW ⟨S,H,I,y,J,L,M,O,P,Q⟩=>by go_simp) q ?_;simp only[Act.put];refine tkH 11 (v:=.agg (Di x ((i:Int)-1) (-1))) rfl (λW ⟨S,H,I,y,J,L,M,O,P,Q⟩=>by go_simp) q ?_;simp only[Act.put];refine gE (rs:=[10,12]) kR sM ?_;refine yA rfl (λK hK=>?_) (yA rfl (λK hK=>?_) zA)
 ·have ac:=uh a5 d.drew (Ay (Ad (Aa d)));have ay:d.drew.cell? (aD bt 2)=some (.slice p N.length g):=by rw[mB _ _ _ _ _ _ ac];rfl
  go_simp;refine hK.out _ _ (uh z _ (Ay (Ad (Aa d)))) (λq=>?_);refine gE (rs:=[12]) kR sM ?_;refine yA rfl (λK hK=>?_) zA;go_simp;refine hK.out _ _ (uh z _ (Ay (Ai (Ad (Aa d)) _))) (λq=>?_);refine gE (rs:=[13]) kR sM ?_;refine yA rfl (λK hK=>?_) zA;rw[mA (by rfl)];refine wp_append_lies _ _ _ 100 rfl B 276 i0 (.agg #[vU 0,vI 0,vI 0,vI 0,vI 0,vI 0,vI 0,vI 0,.bool false]) 9 72 underlying100 an aq ar au rfl dZ (.slice p N.length g) N.length (Eg N) rfl (World.ownsRow.alloc (w:=d.drew) a.o.nodes _) (aD d.heap.size 0) 1 1 [vU x.sort,vI x.a,vI x.b,vI x.c,vI x.first,vI ((i:Int)-1),vI x.name,vI (-1),.bool false] rfl rfl (Qk (Ac d.drew _)) (by intro u hu;simp at hu;rcases hu with rfl|rfl|rfl|rfl|rfl|rfl|rfl|rfl|rfl<;>rfl) dZ (by unfold maxLen;omega) oM (by have:=a.o.low.1;have:=(zgE.1 a.o.read).1;simp;omega) _ rfl ?_;intro l n f ai F ag _;have aa:(Value.slice p N.length g).ownBlock=some l\/w.heap.size<=l:=ag.imp id λe=>by
   have:=a1.o.size;rw[e];simp;omega
  have m:Hid (d.grownBy f (Value.slice p N.length g).ownBlock):=bV (Hi (Ai (Ad (Aa d)) _) ⟨F.os,F.tape,F.output,F.size,F.block⟩);have A:=uh a5 _ m.o;have ab:=uh al _ m.o;have a9:=bV ai;refine hK.out _ _ (uh z _ m.o) (λq=>?_);refine gE (rs:=[14]) kR sM ?_;refine yA rfl (λK hK=>?_) zA;go_simp;refine hK.out _ _ (uh z _ m.o) (λq=>?_);refine gE (rs:=[15]) kR sM ?_;refine yA rfl (λK hK=>?_) zA;go_simp;refine hK.out _ _ (uh z _ m.o) (λq=>?_);refine gE (rs:=[16]) kR sM ?_;refine yA rfl (λK hK=>?_) zA;have fz:f.frozen? (aD bt 2)=false:=eB _ _ _ _ _ A;have cz:f.cell? (aD bt 2)=some (.slice p N.length g):=by rw[mB _ _ _ _ _ _ A];rfl
  have b3:=q;go_simp;have aj:br≠bt:=a.o.ne;have ah:b≠bt:=by rintro rfl;have:=U.o;rw[a.o.tree]at this;cases this
  have Z:(f.setCell (aD bt 2) (sL l (N.length+1) n)).heap[br]?=_:=(aA f (aD bt 2) br _ (by simpa using aj)).trans ab;have a3:(f.setCell (aD bt 2) (sL l (N.length+1) n)).heap[bt]?=some (.cells #[.string s,tv,sL l (N.length+1) n,vI root,vI er] 102 (0,0)):=Bo A _;have a8:(f.setCell (aD bt 2) (sL l (N.length+1) n)).heap[b]?=_:=(aA f (aD bt 2) b _ (by simpa using ah)).trans (uh ak _ m.o);refine hK.out _ _ ?_ (λ_=>?_)
  ·refine⟨by rw[mB _ _ _ _ _ _ Z];rfl,?_,?_,?_,?_,?_,?_,?_,?_,?_⟩<;>(rw[mB _ _ _ _ _ _ a8];rfl)
  have a7:RK br bt (.slice p N.length g) d f:=⟨m.o.os,m.o.tape,m.o.output,m.o.size,λk G _ _ h3=>m.o.block k G h3⟩;have a2:=bV (((RK.of_grown br bt (.slice p N.length g) a1.o).trans a7 (Own.refl _ _)).setT (j:=2) (sL l (N.length+1) n));have ad:Hid (Own w (.slice p N.length g) (sL l (N.length+1) n)):=bV λk G=>by
   simp[Value.ownBlock]at G;subst G;exact aa
  have a4:Hid (RCtx (f.setCell (aD bt 2) (sL l (N.length+1) n)) B br bt s body st (N++[{x with last:=(i:Int)-1,binder:=-1}]) tv (sL l (N.length+1) n) i er root):=by
   refine⟨Z,a3,Ag a.o.toks λC c E=>?_,?_,a.o.low,a.o.good,a.o.bad,a.o.many,a.o.ile,a.o.dep,a.o.dep40⟩
   ·have h5:=Dv a.o.nodes m.o E dZ;refine(aA f (aD bt 2) C _ ?_).trans h5;rintro rfl;rw[A]at h5;cases h5
   ·have h6:=Ag (Y:=f.setCell (aD bt 2) (sL l (N.length+1) n)) a9.o λC c E=>by
     refine(aA f (aD bt 2) C _ ?_).trans E;rintro rfl;rw[A]at E;cases E
    rw[eA,Qj];have e9:Eg [{x with last:=(i:Int)-1,binder:=-1}]=[vU x.sort,vI x.a,vI x.b,vI x.c,vI x.first,vI ((i:Int)-1),vI x.name,vI (-1),.bool false]:=by
     simp only[Eg,Ll,List.append_nil]
    rw[e9];exact h6
  obtain⟨T,a0⟩:∃T,f.setCell (aD bt 2) (sL l (N.length+1) n)=T:=⟨_,rfl⟩;have q0:T.cell? (aD br 0)=some (pT bt):=by rw[<-a0,mB _ _ _ _ _ _ Z];rfl
  have q2:T.cell? (aD bt 2)=some (sL l (N.length+1) n):=by rw[<-a0,mB _ _ _ _ _ _ a3];rfl
  rw[a0]at a2 a4 ⊢;refine iE kR ⟨rfl,?_⟩ _;go_wp2_with fail;go_ret;exact⟨rfl,uh a2,_,uh ad,uh a4⟩
 ·go_simp;refine hK.out _ _ (uh z _ (Ay (Ad (Ai (Aa d) _)))) (λq=>?_);refine gE (rs:=[10]) kR sM ?_;refine yA rfl (λK hK=>?_) zA;have ac:=uh a5 (d.alloc (.cells (Di x ((i:Int)-1) (-1)) 276)).drew (Ay (Ad (Ai (Aa d) _)));have ay:(d.alloc (.cells (Di x ((i:Int)-1) (-1)) 276)).drew.cell? (aD bt 2)=some (.slice p N.length g):=by rw[mB _ _ _ _ _ _ ac];rfl
  go_simp;refine hK.out _ _ (uh z _ (Ay (Ad (Ai (Aa d) _)))) (λq=>?_);refine gE (rs:=[13]) kR sM ?_;refine yA rfl (λK hK=>?_) zA;rw[mA (by rfl)];refine wp_append_lies _ _ _ 100 rfl B 276 i0 (.agg #[vU 0,vI 0,vI 0,vI 0,vI 0,vI 0,vI 0,vI 0,.bool false]) 9 72 underlying100 an aq ar au rfl dZ (.slice p N.length g) N.length (Eg N) rfl (World.ownsRow.alloc (w:=d) a.o.nodes _) (aD d.heap.size 0) 1 1 [vU x.sort,vI x.a,vI x.b,vI x.c,vI x.first,vI ((i:Int)-1),vI x.name,vI (-1),.bool false] rfl rfl (Qk (Ac d _)) (by intro u hu;simp at hu;rcases hu with rfl|rfl|rfl|rfl|rfl|rfl|rfl|rfl|rfl<;>rfl) dZ (by unfold maxLen;omega) oM (by have:=a.o.low.1;have:=(zgE.1 a.o.read).1;simp;omega) _ rfl ?_;intro l n f ai F ag _;have aa:(Value.slice p N.length g).ownBlock=some l\/w.heap.size<=l:=ag.imp id λe=>by
   have:=a1.o.size;rw[e];simp;omega
  have m:Hid (d.grownBy f (Value.slice p N.length g).ownBlock):=bV (Hi (Ad (Ai (Aa d) _)) ⟨F.os,F.tape,F.output,F.size,F.block⟩);have A:=uh a5 _ m.o;have ab:=uh al _ m.o;have a9:=bV ai;refine hK.out _ _ (uh z _ m.o) (λq=>?_);refine gE (rs:=[14]) kR sM ?_;refine yA rfl (λK hK=>?_) zA;go_simp;refine hK.out _ _ (uh z _ m.o) (λq=>?_);refine gE (rs:=[15]) kR sM ?_;refine yA rfl (λK hK=>?_) zA;go_simp;refine hK.out _ _ (uh z _ m.o) (λq=>?_);refine gE (rs:=[16]) kR sM ?_;refine yA rfl (λK hK=>?_) zA;have fz:f.frozen? (aD bt 2)=false:=eB _ _ _ _ _ A;have cz:f.cell? (aD bt 2)=some (.slice p N.length g):=by rw[mB _ _ _ _ _ _ A];rfl
  have b3:=q;go_simp;have aj:br≠bt:=a.o.ne;have ah:b≠bt:=by rintro rfl;have:=U.o;rw[a.o.tree]at this;cases this
  have Z:(f.setCell (aD bt 2) (sL l (N.length+1) n)).heap[br]?=_:=(aA f (aD bt 2) br _ (by simpa using aj)).trans ab;have a3:(f.setCell (aD bt 2) (sL l (N.length+1) n)).heap[bt]?=some (.cells #[.string s,tv,sL l (N.length+1) n,vI root,vI er] 102 (0,0)):=Bo A _;have a8:(f.setCell (aD bt 2) (sL l (N.length+1) n)).heap[b]?=_:=(aA f (aD bt 2) b _ (by simpa using ah)).trans (uh ak _ m.o);refine hK.out _ _ ?_ (λ_=>?_)
  ·refine⟨by rw[mB _ _ _ _ _ _ Z];rfl,?_,?_,?_,?_,?_,?_,?_,?_,?_⟩<;>(rw[mB _ _ _ _ _ _ a8];rfl)
  have a7:RK br bt (.slice p N.length g) d f:=⟨m.o.os,m.o.tape,m.o.output,m.o.size,λk G _ _ h3=>m.o.block k G h3⟩;have a2:=bV (((RK.of_grown br bt (.slice p N.length g) a1.o).trans a7 (Own.refl _ _)).setT (j:=2) (sL l (N.length+1) n));have ad:Hid (Own w (.slice p N.length g) (sL l (N.length+1) n)):=bV λk G=>by
   simp[Value.ownBlock]at G;subst G;exact aa
  have a4:Hid (RCtx (f.setCell (aD bt 2) (sL l (N.length+1) n)) B br bt s body st (N++[{x with last:=(i:Int)-1,binder:=-1}]) tv (sL l (N.length+1) n) i er root):=by
   refine⟨Z,a3,Ag a.o.toks λC c E=>?_,?_,a.o.low,a.o.good,a.o.bad,a.o.many,a.o.ile,a.o.dep,a.o.dep40⟩
   ·have h5:=Dv a.o.nodes m.o E dZ;refine(aA f (aD bt 2) C _ ?_).trans h5;rintro rfl;rw[A]at h5;cases h5
   ·have h6:=Ag (Y:=f.setCell (aD bt 2) (sL l (N.length+1) n)) a9.o λC c E=>by
     refine(aA f (aD bt 2) C _ ?_).trans E;rintro rfl;rw[A]at E;cases E
    rw[eA,Qj];have e9:Eg [{x with last:=(i:Int)-1,binder:=-1}]=[vU x.sort,vI x.a,vI x.b,vI x.c,vI x.first,vI ((i:Int)-1),vI x.name,vI (-1),.bool false]:=by
     simp only[Eg,Ll,List.append_nil]
    rw[e9];exact h6
  obtain⟨T,a0⟩:∃T,f.setCell (aD bt 2) (sL l (N.length+1) n)=T:=⟨_,rfl⟩;have q0:T.cell? (aD br 0)=some (pT bt):=by rw[<-a0,mB _ _ _ _ _ _ Z];rfl
  have q2:T.cell? (aD bt 2)=some (sL l (N.length+1) n):=by rw[<-a0,mB _ _ _ _ _ _ a3];rfl
  rw[a0]at a2 a4 ⊢;refine iE kR ⟨rfl,?_⟩ _;go_wp2_with fail;go_ret;exact⟨rfl,uh a2,_,uh ad,uh a4⟩
end
end
section
open Tw Tw.Rf Go.Proofs.Tryz
open Go.RowKit
section
variable {w:World}{B br bt:Nat}{s:ByteArray}{body:List Tw.Tok}{st:Tw.PS}{N:List Tw.Rf.RN}{tv nv:Value}{i:Nat}{er root:Int}
def Tw.Rf.atS(body:List Tw.Tok)(i:Nat):Int:=match body[i]? with|some t=>t.sort|none=>0
theorem Ct{l:List UInt8}{body:List Tw.Tok}(d:Lex 0 l body)(i:Nat){c:Int}(b:3<=c/\c<=23):atT l body i=De c↔atS body i=c:=by
 cases a:body[i]? with
 |some t=>
  rw[Gf d a b];unfold atS;rw[a]
 |none=>
  unfold atS atT;rw[a];exact⟨λe=>absurd e.symm (zb5 b),λe=>by simp only at e;omega⟩
theorem Ve(body:List Tw.Tok)(i:Nat):(atK body i=110↔atS body i=1)/\(atK body i=105↔atS body i=2):=by
 unfold atK atS Lj;cases a:body[i]? with
 |none=>simp
 |some t=>
  simp only;constructor
  ·split
   ·simp[*]
   ·rename_i h;simp only[h,iff_false];split
    ·decide
    ·split<;>decide
  ·split
   ·rename_i h;simp[h]
   ·split
    ·rename_i h;simp[h]
    ·rename_i h;simp only[h,iff_false];split<;>decide
theorem zhr(d:Lex 0 s.data.toList body)(h:RCtx w B br bt s body st N tv nv i er root):
  Calls prog 232 #[pT br] w λe H=>e=.returned (.bool (Aj (atS body i)))/\w.grownBy H none:=by
 have j:=(Ve body i).1;have k:=(Ve body i).2;have m:=Ct d i (c:=10) dZ;have n:=Ct d i (c:=11) dZ;have o:=Ct d i (c:=12) dZ;have p:=Ct d i (c:=13) dZ;have q:=Ct d i (c:=16) dZ;have r:=bV (Db h);have y:=bV h;obtain⟨a,F⟩:∃a,atS body i=a:=⟨_,rfl⟩;obtain⟨f,E⟩:∃f,atK body i=f:=⟨_,rfl⟩;obtain⟨b,t⟩:∃b,atT s.data.toList body i=b:=⟨_,rfl⟩;rw[F]at j k m n o p q ⊢;rw[E]at j k r;rw[t]at m n o p q;have C:=bV t;have I:((f:Int)==110)=decide (a=1):=by
  by_cases e:a=1
  ·rw[j.2 e,e];rfl
  ·have:=λl=>e (j.1 l);simp[e];omega
 have Q:((f:Int)==105)=decide (a=2):=by
  by_cases e:a=2
  ·rw[k.2 e,e];rfl
  ·have:=λl=>e (k.1 l);simp[e];omega
 have J:(b == [116,114,117,101])=decide (a=10):=by
  rw[show([116,114,117,101]:List UInt8)=De 10 by decide];by_cases e:a=10<;>simp[m,e]
 have L:(b == [102,97,108,115,101])=decide (a=11):=by
  rw[show([102,97,108,115,101]:List UInt8)=De 11 by decide];by_cases e:a=11<;>simp[n,e]
 have M:(b == [102,115,116])=decide (a=12):=by
  rw[show([102,115,116]:List UInt8)=De 12 by decide];by_cases e:a=12<;>simp[o,e]
 have O:(b == [115,110,100])=decide (a=13):=by
  rw[show([115,110,100]:List UInt8)=De 13 by decide];by_cases e:a=13<;>simp[p,e]
 have P:(b == [40])=decide (a=16):=by
  rw[show([40]:List UInt8)=De 16 by decide];by_cases e:a=16<;>simp[q,e]
 have G:Aj a=(decide (a=1)||decide (a=2)||decide (a=10)||decide (a=11)||decide (a=12)||decide (a=13)||decide (a=16)):=by
  unfold Aj;simp[Bool.or_assoc]
 have A:=bV G
 go_in;go_wp2_with fail;refine(uh r).mono ?_;rintro D R ⟨rfl,g⟩;have z:=bV ((uh y).grown g);have v:=bV g;go_wp2_with fail;refine(Bl (uh z)).mono ?_;rintro D S ⟨rfl,g⟩;have x:=bV (Ab v.o g);rw[C.o];simp only[ug];go_wp2_with fail
 all_goals (go_ret;go_light;refine⟨Ei ?_,x.o⟩;rw[A.o];simp_all)
end
end
section
open Tw Tw.Rf Go.Proofs.Tryz
open Go.RowKit
section
variable {w:World}{B br bt:Nat}{s:ByteArray}{body:List Tw.Tok}{st:Tw.PS}{N:List Tw.Rf.RN}{tv nv:Value}{i:Nat}{er root:Int}
def RfTree(w:World)(B br bt:Nat)(s:ByteArray)(body:List Tw.Tok)(st':PS)(t:Tw.T)(N:List RN)(tv nv:Value)(i:Nat)(root:Int)(e:Ending)(w':World):Prop:=
 ∃(k:Int) (b:List RN) (g:Value) (a:Nat) (h:Int),e=.returned (.int .i64 k)/\RK br bt nv w w'/\Own w nv g/\i<=a/\RCtx w' B br bt s body st' b tv g a h root/\(st'.stuck=true->b.length<=N.length+2*(a-i)+1) /\
  (st'.stuck=false->b.length+1<=N.length+2*(a-i)/\b=N++flat (ixF body) (ixT body) t N.length/\k=((N.length+Rf.T.sz t-1:Nat):Int)/\i<a/\(∃d,body[i]?=some d/\d.fr=t.fr)/\∃f,body[a-1]?=some f/\f.to=t.to)
theorem RCtx.apart{w:World}{B br bt:Nat}{s:ByteArray}{body:List Tw.Tok}{st:PS}{N:List RN}{tv nv:Value}{i:Nat}{er root:Int}(h:RCtx w B br bt s body st N tv nv i er root){nb:Nat}{c:Array Value}(a:w.heap[nb]?=some (.cells c 276 (0,0)))(r:nv.ownBlock≠some nb)(j:Nat)(v:Value):RCtx (w.setCell (aD nb j) v) B br bt s body st N tv nv i er root:=by
 have keep:∀ {g:Nat} {o:Obj},g≠nb->w.heap[g]?=some o->(w.setCell (aD nb j) v).heap[g]?=some o:=λq x=>(aA w (aD nb j) _ v (by simpa using q)).trans x;refine{h with read:=keep (λe=>?_) h.read,tree:=keep (λe=>?_) h.tree,toks:=Ag h.toks λg y b=>keep (λe=>?_) b,nodes:=?_}
 ·subst e;have:=h.read;rw[a]at this;cases this
 ·subst e;have:=h.tree;rw[a]at this;cases this
 ·subst e;rw[a]at b;cases b
 ·refine⟨h.nodes.1,?_⟩;rcases h.nodes.2 with l|⟨g,f,k,d,m,n,p⟩
  ·exact .inl l
  ·refine .inr ⟨g,f,k,d,m,keep (λe=>?_) n,p⟩;subst e;exact r (by rw[d];rfl)
end
structure RS(w:World)(nb:Nat)(c:Array Value)(B br bt:Nat)(s:ByteArray)(body:List Tw.Tok)(st:PS)(N:List RN)(tv nv0 nv:Value)(i:Nat)(er root:Int)(w':World):Prop where
 k:RK br bt nv0 w w'
 o:Own w nv0 nv
 x:RCtx w' B br bt s body st N tv nv i er root
 b:w'.heap[nb]?=some (.cells c 276 (0,0))
 n:nv.ownBlock≠some nb
 hb:w.heap.size<=nb
section
variable {w:World}{nb:Nat}{c:Array Value}{B br bt:Nat}{s:ByteArray}{body:List Tw.Tok}{st:Tw.PS}{N:List Tw.Rf.RN}{tv nv0 nv:Value}{i:Nat}{er root:Int}{w':World}
variable{w2:World}
theorem RS.new(h:RCtx w B br bt s body st N tv nv i er root)(c:Array Value):RS w w.heap.size c B br bt s body st N tv nv nv i er root (w.alloc (.cells c 276)):=
 have g:=zwA w (.cells c 276) none
 ⟨RK.of_grown _ _ _ g,Own.refl _ _,h.grown g,Ac w _,λe=>Nat.lt_irrefl _ (h.nodes.lt _ e).2,znL _⟩
theorem RS.nbr(h:RS w nb c B br bt s body st N tv nv0 nv i er root w'):nb≠br/\nb≠bt:=by
 constructor<;>intro e
 ·have:=h.x.read;rw[<-e,h.b]at this;cases this
 ·have:=h.x.tree;rw[<-e,h.b]at this;cases this
theorem RS.next(h:RS w nb c B br bt s body st N tv nv0 nv i er root w'){g:PS}{b:List RN}{a:Value}{f:Nat}{d:Int}(k:RK br bt nv w' w2)(o:Own w' nv a)(x:RCtx w2 B br bt s body g b tv a f d root):RS w nb c B br bt s body g b tv nv0 a f d root w2:=
 have j:=(zgE.1 h.b).1
 ⟨h.k.trans k h.o,h.o.trans o h.k.size,x,(k.block nb j h.nbr.1 h.nbr.2 (λe=>h.n e.symm)).trans h.b,λe=>(o nb e).elim h.n (λe=>oM),h.hb⟩
theorem RS.grown(h:RS w nb c B br bt s body st N tv nv0 nv i er root w')(a:w'.grownBy w2 none):RS w nb c B br bt s body st N tv nv0 nv i er root w2:=
 h.next (RK.of_grown _ _ _ a) (Own.refl _ _) (h.x.grown a)
theorem RS.set(h:RS w nb c B br bt s body st N tv nv0 nv i er root w')(j:Nat)(v:Value):RS w nb (c.setIfInBounds j v) B br bt s body st N tv nv0 nv i er root (w'.setCell (aD nb j) v):=
 ⟨⟨h.k.os,h.k.tape,h.k.output,by simpa using h.k.size,λk e a b d=>(aA w' (aD nb j) k v (by have:=h.hb;simp;omega)).trans (h.k.block k e a b d)⟩,h.o,h.x.apart h.b h.n j v,Bo h.b v,h.n,h.hb⟩
theorem RS.setI(h:RS w nb c B br bt s body st N tv nv0 nv i er root w')(a:st.stuck=false)(hi:i<body.length):RS w nb c B br bt s body {st with next:=st.next+1} N tv nv0 nv (i+1) er root (w'.setCell (aD br 1) (vI ((i:Int)+1))):=by
 have g:=h.x.good a;have x:=h.x.setI (st':={st with next:=st.next+1}) (i':=i+1) rfl (λ_=>⟨by rw[g.1],g.2⟩) (λe=>(by have b:st.stuck=true:=e;rw[a]at b;cases b)) oM (λ_=>a);have e:((i+1:Nat):Int)=(i:Int)+1:=oM;rw[e]at x;exact h.next ((RK.refl _ _ _ _).setR _) (Own.refl _ _) x
theorem RS.cell(h:RS w nb c B br bt s body st N tv nv0 nv i er root w'){j:Nat}{v:Value}(a:c[j]?=some v):w'.cell? (aD nb j)=some v:=by rw[mB _ _ _ _ _ _ h.b];exact a
theorem RS.frozen(h:RS w nb c B br bt s body st N tv nv0 nv i er root w')(j:Nat):w'.frozen? (aD nb j)=false:=eB _ _ _ _ _ h.b
end
section
variable {w:World}{B br bt:Nat}{s:ByteArray}{body:List Tw.Tok}{st:Tw.PS}{N:List Tw.Rf.RN}{tv nv:Value}{i:Nat}{er root:Int}
variable{t:Tw.Tok}
theorem RS.arm(b:Value){nb:Nat}{nv0:Value}{w':World}(h:RS w nb #[vU 0,vI (-1),vI (-1),vI (-1),vI st.next,vI 0,vI 0,vI 0,.bool false] B br bt s body st N tv nv0 nv st.next er root w')(f:st.stuck=false)(hi:st.next<body.length):
  (w'.cell? (aD nb 0)=some (vU 0)/\w'.frozen? (aD nb 0)=false/\(w'.setCell (aD nb 0) b).cell? (aD br 0)=some (pT bt)/\(w'.setCell (aD nb 0) b).cell? (aD br 1)=some (vI st.next)/\(w'.setCell (aD nb 0) b).frozen? (aD br 1)=false) /\
  ∃W,World.setCell (w'.setCell (aD nb 0) b) (aD br 1) (vI ((st.next:Int)+1))=W/\Hid (RS w nb #[b,vI (-1),vI (-1),vI (-1),vI st.next,vI 0,vI 0,vI 0,.bool false] B br bt s body {st with next:=st.next+1} N tv nv0 nv (st.next+1) er root W)/\W.cell? (aD nb 0)=some b/\W.cell? (aD nb 1)=some (vI (-1))/\W.cell? (aD nb 2)=some (vI (-1))/\W.cell? (aD nb 3)=some (vI (-1))/\W.cell? (aD nb 4)=some (vI st.next)/\W.cell? (aD nb 5)=some (vI 0)/\W.cell? (aD nb 6)=some (vI 0)/\W.cell? (aD nb 7)=some (vI 0)/\W.cell? (aD nb 8)=some (.bool false):=by
 have r:=h.set 0 b;obtain⟨a,d,_,_,_,_,_⟩:=r.x.cells;obtain⟨e,_,_,_⟩:=r.x.frozen;have R:=r.setI f hi;exact⟨⟨h.cell rfl,h.frozen 0,a,d,e⟩,_,rfl,bV R,R.cell rfl,R.cell rfl,R.cell rfl,R.cell rfl,R.cell rfl,R.cell rfl,R.cell rfl,R.cell rfl,R.cell rfl⟩
theorem zab(o:Lex 0 s.data.toList body)(h:RCtx w B br bt s body st N tv nv i er root)(j:st.stuck=false)(T:N.length<=4000)(d:body[i]?=some t)(b:t.sort=1):
  Calls prog 231 #[pT br] w (RfTree w B br bt s body {st with next:=st.next+1} (.name t.fr t.to (Bf s.data.toList t.fr t.to)) N tv nv i root):=by
 obtain⟨q,rfl⟩:=h.good j;subst q;have r:st.next<body.length:=(zlE.1 d).1;have V:=h.many;have hK:atK body st.next=110:=by unfold atK;rw[d];simp only[b];decide
 have HK:=bV hK;have e:=bV j;have a:=bV d;obtain⟨C,D,_,_,_,_,E⟩:=h.cells;have S:=bV (RS.new h #[vU 0,vI (-1),vI (-1),vI (-1),vI st.next,vI 0,vI 0,vI 0,.bool false])
 go_in;go_wp2_with fail;obtain⟨l,k⟩:∃l,w.alloc (.cells #[vU 0,vI (-1),vI (-1),vI (-1),vI st.next,vI 0,vI 0,vI 0,.bool false] 276)=l:=⟨_,rfl⟩;obtain⟨nb,g⟩:∃nb,w.heap.size=nb:=⟨_,rfl⟩;rw[k,g]at S;rw[k,g];refine(Db S.o.x).mono ?_;rintro n w2 ⟨rfl,p⟩;replace S:=bV (S.o.grown p);rw[HK.o];obtain⟨⟨Y,Q,z,A,R⟩,W,U,S,F,G,H,I,J,L,M,O,P⟩:=RS.arm (vU 120) S.o e.o r;go_wp2_with fail;refine(Dy S.o.x oM ⟨120,-1,-1,-1,st.next,0,0,0⟩ 0 0).mono ?_;rintro n X ⟨rfl,b,y,v,x⟩;replace S:=bV (S.o.next b v x);go_wp2_with fail;go_ret;refine⟨_,_,y,st.next+1,_,rfl,S.o.k,S.o.o,oM,S.o.x,λm=>(by have f:st.stuck=true:=m;rw[uh e]at f;cases f),λ_=>⟨sM,?_,?_,oM,⟨t,uh a,rfl⟩,t,by rw[Nat.add_sub_cancel];exact uh a,rfl⟩⟩
 ·simp[flat,Ds o (uh a)]
 ·simp[Rf.T.sz]
theorem zb6(p:Lex 0 s.data.toList body)(h:RCtx w B br bt s body st N tv nv i er root)(l:st.stuck=false)(U:N.length<=4000)(e:body[i]?=some t)(d:t.sort=2)(v:Int):
  Calls prog 231 #[pT br] w (RfTree w B br bt s body {st with next:=st.next+1} (.int t.fr t.to v) N tv nv i root):=by
 obtain⟨q,rfl⟩:=h.good l;subst q;have r:st.next<body.length:=(zlE.1 e).1;have X:=h.many;have hK:atK body st.next=105:=by unfold atK;rw[e];simp only[d];decide
 have HK:=bV hK;have f:=bV l;have a:=bV e;obtain⟨D,E,_,_,_,_,F⟩:=h.cells;have S:=bV (RS.new h #[vU 0,vI (-1),vI (-1),vI (-1),vI st.next,vI 0,vI 0,vI 0,.bool false])
 go_in;go_wp2_with fail;obtain⟨n,m⟩:∃n,w.alloc (.cells #[vU 0,vI (-1),vI (-1),vI (-1),vI st.next,vI 0,vI 0,vI 0,.bool false] 276)=n:=⟨_,rfl⟩;obtain⟨nb,k⟩:∃nb,w.heap.size=nb:=⟨_,rfl⟩;rw[m,k]at S;rw[m,k];refine(Db S.o.x).mono ?_;rintro g w2 ⟨rfl,b⟩;replace S:=bV (S.o.grown b);rw[HK.o]
 iterate 1
  go_wp2_with fail;refine(Db S.o.x).mono ?_;rintro g w2 ⟨rfl,b⟩;replace S:=bV (S.o.grown b);rw[HK.o]
 obtain⟨⟨Z,R,A,C,T⟩,W,V,S,G,H,I,J,L,M,O,P,Q⟩:=RS.arm (vU 105) S.o f.o r;go_wp2_with fail;refine(Dy S.o.x oM ⟨105,-1,-1,-1,st.next,0,0,0⟩ 0 0).mono ?_;rintro g Y ⟨rfl,d,z,x,y⟩;replace S:=bV (S.o.next d x y);go_wp2_with fail;go_ret;refine⟨_,_,z,st.next+1,_,rfl,S.o.k,S.o.o,oM,S.o.x,λo=>(by have j:st.stuck=true:=o;rw[uh f]at j;cases j),λ_=>⟨sM,?_,?_,oM,⟨t,uh a,rfl⟩,t,by rw[Nat.add_sub_cancel];exact uh a,rfl⟩⟩
 ·simp[flat,Ds p (uh a)]
 ·simp[Rf.T.sz]
theorem zac(k:Lex 0 s.data.toList body)(h:RCtx w B br bt s body st N tv nv i er root)(m:st.stuck=false)(V:N.length<=4000)(d:body[i]?=some t)(b:t.sort=10):
  Calls prog 231 #[pT br] w (RfTree w B br bt s body {st with next:=st.next+1} (.truth t.fr t.to true) N tv nv i root):=by
 obtain⟨v,rfl⟩:=h.good m;subst v;have x:st.next<body.length:=(zlE.1 d).1;have Y:=h.many;have hK:atK body st.next=107:=by unfold atK;rw[d];simp only[b];decide
 have r:atT s.data.toList body st.next=[116,114,117,101]:=(Gf k d (c:=10) dZ).2 b;have p:=bV r;have HK:=bV hK;have g:=bV m;have e:=bV d;obtain⟨E,F,_,_,_,_,G⟩:=h.cells;have S:=bV (RS.new h #[vU 0,vI (-1),vI (-1),vI (-1),vI st.next,vI 0,vI 0,vI 0,.bool false])
 go_in;go_wp2_with fail;obtain⟨o,n⟩:∃o,w.alloc (.cells #[vU 0,vI (-1),vI (-1),vI (-1),vI st.next,vI 0,vI 0,vI 0,.bool false] 276)=o:=⟨_,rfl⟩;obtain⟨nb,l⟩:∃nb,w.heap.size=nb:=⟨_,rfl⟩;rw[n,l]at S;rw[n,l];refine(Db S.o.x).mono ?_;rintro f w2 ⟨rfl,a⟩;replace S:=bV (S.o.grown a);rw[HK.o]
 iterate 1
  go_wp2_with fail;refine(Db S.o.x).mono ?_;rintro f w2 ⟨rfl,a⟩;replace S:=bV (S.o.grown a);rw[HK.o]
 iterate 1
  go_wp2_with fail;refine(Bl S.o.x).mono ?_;rintro f w2 ⟨rfl,a⟩;replace S:=bV (S.o.grown a);rw[p.o];simp only[ug]
 obtain⟨⟨z0,T,C,D,U⟩,W,X,S,H,I,J,L,M,O,P,Q,R⟩:=RS.arm (vU 116) S.o g.o x;go_wp2_with fail;refine(Dy S.o.x oM ⟨116,-1,-1,-1,st.next,0,0,0⟩ 0 0).mono ?_;rintro f Z ⟨rfl,b,A,y,z⟩;replace S:=bV (S.o.next b y z);go_wp2_with fail;go_ret;refine⟨_,_,A,st.next+1,_,rfl,S.o.k,S.o.o,oM,S.o.x,λq=>(by have j:st.stuck=true:=q;rw[uh g]at j;cases j),λ_=>⟨sM,?_,?_,oM,⟨t,uh e,rfl⟩,t,by rw[Nat.add_sub_cancel];exact uh e,rfl⟩⟩
 ·simp[flat,Ds k (uh e)]
 ·simp[Rf.T.sz]
theorem X7(k:Lex 0 s.data.toList body)(h:RCtx w B br bt s body st N tv nv i er root)(m:st.stuck=false)(V:N.length<=4000)(d:body[i]?=some t)(b:t.sort=11):
  Calls prog 231 #[pT br] w (RfTree w B br bt s body {st with next:=st.next+1} (.truth t.fr t.to false) N tv nv i root):=by
 obtain⟨v,rfl⟩:=h.good m;subst v;have x:st.next<body.length:=(zlE.1 d).1;have Y:=h.many;have hK:atK body st.next=107:=by unfold atK;rw[d];simp only[b];decide
 have r:atT s.data.toList body st.next=[102,97,108,115,101]:=(Gf k d (c:=11) dZ).2 b;have p:=bV r;have HK:=bV hK;have g:=bV m;have e:=bV d;obtain⟨E,F,_,_,_,_,G⟩:=h.cells;have S:=bV (RS.new h #[vU 0,vI (-1),vI (-1),vI (-1),vI st.next,vI 0,vI 0,vI 0,.bool false])
 go_in;go_wp2_with fail;obtain⟨o,n⟩:∃o,w.alloc (.cells #[vU 0,vI (-1),vI (-1),vI (-1),vI st.next,vI 0,vI 0,vI 0,.bool false] 276)=o:=⟨_,rfl⟩;obtain⟨nb,l⟩:∃nb,w.heap.size=nb:=⟨_,rfl⟩;rw[n,l]at S;rw[n,l];refine(Db S.o.x).mono ?_;rintro f w2 ⟨rfl,a⟩;replace S:=bV (S.o.grown a);rw[HK.o]
 iterate 1
  go_wp2_with fail;refine(Db S.o.x).mono ?_;rintro f w2 ⟨rfl,a⟩;replace S:=bV (S.o.grown a);rw[HK.o]
 iterate 2
  go_wp2_with fail;refine(Bl S.o.x).mono ?_;rintro f w2 ⟨rfl,a⟩;replace S:=bV (S.o.grown a);rw[p.o];simp only[ug]
 obtain⟨⟨z0,T,C,D,U⟩,W,X,S,H,I,J,L,M,O,P,Q,R⟩:=RS.arm (vU 102) S.o g.o x;go_wp2_with fail;refine(Dy S.o.x oM ⟨102,-1,-1,-1,st.next,0,0,0⟩ 0 0).mono ?_;rintro f Z ⟨rfl,b,A,y,z⟩;replace S:=bV (S.o.next b y z);go_wp2_with fail;go_ret;refine⟨_,_,A,st.next+1,_,rfl,S.o.k,S.o.o,oM,S.o.x,λq=>(by have j:st.stuck=true:=q;rw[uh g]at j;cases j),λ_=>⟨sM,?_,?_,oM,⟨t,uh e,rfl⟩,t,by rw[Nat.add_sub_cancel];exact uh e,rfl⟩⟩
 ·simp[flat,Ds k (uh e)]
 ·simp[Rf.T.sz]
theorem zb7(k:Lex 0 s.data.toList body)(h:RCtx w B br bt s body st N tv nv i er root)(m:st.stuck=false)(V:N.length<=4000)(d:body[i]?=some t)(b:t.sort=12):
  Calls prog 231 #[pT br] w (RfTree w B br bt s body {st with next:=st.next+1} (.side t.fr t.to false) N tv nv i root):=by
 obtain⟨v,rfl⟩:=h.good m;subst v;have x:st.next<body.length:=(zlE.1 d).1;have Y:=h.many;have hK:atK body st.next=107:=by unfold atK;rw[d];simp only[b];decide
 have r:atT s.data.toList body st.next=[102,115,116]:=(Gf k d (c:=12) dZ).2 b;have p:=bV r;have HK:=bV hK;have g:=bV m;have e:=bV d;obtain⟨E,F,_,_,_,_,G⟩:=h.cells;have S:=bV (RS.new h #[vU 0,vI (-1),vI (-1),vI (-1),vI st.next,vI 0,vI 0,vI 0,.bool false])
 go_in;go_wp2_with fail;obtain⟨o,n⟩:∃o,w.alloc (.cells #[vU 0,vI (-1),vI (-1),vI (-1),vI st.next,vI 0,vI 0,vI 0,.bool false] 276)=o:=⟨_,rfl⟩;obtain⟨nb,l⟩:∃nb,w.heap.size=nb:=⟨_,rfl⟩;rw[n,l]at S;rw[n,l];refine(Db S.o.x).mono ?_;rintro f w2 ⟨rfl,a⟩;replace S:=bV (S.o.grown a);rw[HK.o]
 iterate 1
  go_wp2_with fail;refine(Db S.o.x).mono ?_;rintro f w2 ⟨rfl,a⟩;replace S:=bV (S.o.grown a);rw[HK.o]
 iterate 3
  go_wp2_with fail;refine(Bl S.o.x).mono ?_;rintro f w2 ⟨rfl,a⟩;replace S:=bV (S.o.grown a);rw[p.o];simp only[ug]
 obtain⟨⟨z0,T,C,D,U⟩,W,X,S,H,I,J,L,M,O,P,Q,R⟩:=RS.arm (vU 49) S.o g.o x;go_wp2_with fail;refine(Dy S.o.x oM ⟨49,-1,-1,-1,st.next,0,0,0⟩ 0 0).mono ?_;rintro f Z ⟨rfl,b,A,y,z⟩;replace S:=bV (S.o.next b y z);go_wp2_with fail;go_ret;refine⟨_,_,A,st.next+1,_,rfl,S.o.k,S.o.o,oM,S.o.x,λq=>(by have j:st.stuck=true:=q;rw[uh g]at j;cases j),λ_=>⟨sM,?_,?_,oM,⟨t,uh e,rfl⟩,t,by rw[Nat.add_sub_cancel];exact uh e,rfl⟩⟩
 ·simp[flat,Ds k (uh e)]
 ·simp[Rf.T.sz]
theorem zb8(k:Lex 0 s.data.toList body)(h:RCtx w B br bt s body st N tv nv i er root)(m:st.stuck=false)(V:N.length<=4000)(d:body[i]?=some t)(b:t.sort=13):
  Calls prog 231 #[pT br] w (RfTree w B br bt s body {st with next:=st.next+1} (.side t.fr t.to true) N tv nv i root):=by
 obtain⟨v,rfl⟩:=h.good m;subst v;have x:st.next<body.length:=(zlE.1 d).1;have Y:=h.many;have hK:atK body st.next=107:=by unfold atK;rw[d];simp only[b];decide
 have r:atT s.data.toList body st.next=[115,110,100]:=(Gf k d (c:=13) dZ).2 b;have p:=bV r;have HK:=bV hK;have g:=bV m;have e:=bV d;obtain⟨E,F,_,_,_,_,G⟩:=h.cells;have S:=bV (RS.new h #[vU 0,vI (-1),vI (-1),vI (-1),vI st.next,vI 0,vI 0,vI 0,.bool false])
 go_in;go_wp2_with fail;obtain⟨o,n⟩:∃o,w.alloc (.cells #[vU 0,vI (-1),vI (-1),vI (-1),vI st.next,vI 0,vI 0,vI 0,.bool false] 276)=o:=⟨_,rfl⟩;obtain⟨nb,l⟩:∃nb,w.heap.size=nb:=⟨_,rfl⟩;rw[n,l]at S;rw[n,l];refine(Db S.o.x).mono ?_;rintro f w2 ⟨rfl,a⟩;replace S:=bV (S.o.grown a);rw[HK.o]
 iterate 1
  go_wp2_with fail;refine(Db S.o.x).mono ?_;rintro f w2 ⟨rfl,a⟩;replace S:=bV (S.o.grown a);rw[HK.o]
 iterate 4
  go_wp2_with fail;refine(Bl S.o.x).mono ?_;rintro f w2 ⟨rfl,a⟩;replace S:=bV (S.o.grown a);rw[p.o];simp only[ug]
 obtain⟨⟨z0,T,C,D,U⟩,W,X,S,H,I,J,L,M,O,P,Q,R⟩:=RS.arm (vU 50) S.o g.o x;go_wp2_with fail;refine(Dy S.o.x oM ⟨50,-1,-1,-1,st.next,0,0,0⟩ 0 0).mono ?_;rintro f Z ⟨rfl,b,A,y,z⟩;replace S:=bV (S.o.next b y z);go_wp2_with fail;go_ret;refine⟨_,_,A,st.next+1,_,rfl,S.o.k,S.o.o,oM,S.o.x,λq=>(by have j:st.stuck=true:=q;rw[uh g]at j;cases j),λ_=>⟨sM,?_,?_,oM,⟨t,uh e,rfl⟩,t,by rw[Nat.add_sub_cancel];exact uh e,rfl⟩⟩
 ·simp[flat,Ds k (uh e)]
 ·simp[Rf.T.sz]
end
end
section
open Tw Tw.Rf Go.Proofs.Tryz
open Go.RowKit
section
variable {w:World}{B br bt:Nat}{s:ByteArray}{body:List Tw.Tok}{st:Tw.PS}{N:List Tw.Rf.RN}{tv nv:Value}{i:Nat}{er root:Int}
theorem zad(d:Lex 0 s.data.toList body)(h:RCtx w B br bt s body st N tv nv i er root)(R:st.stuck=false)(q:Aj (atS body i)=false){st':PS}(r:Fb (A9 s body) st=some st')(t:Tw.T):
  Calls prog 231 #[pT br] w (RfTree w B br bt s body st' t N tv nv i root):=by
 obtain⟨O,rfl⟩:=h.good R;subst O;have hm:=h.many;have S:=(Cr r).1;simp only[Aj,decide_eq_false_iff_not,not_or]at q;obtain⟨U,n2,V,W,X,Y,Z⟩:=q;have b1:((atK body st.next:Int)==110)=false:=by have:atK body st.next≠110:=λe=>U ((Ve body st.next).1.1 e);simp;omega
 have b2:((atK body st.next:Int)==105)=false:=by have:atK body st.next≠105:=λe=>n2 ((Ve body st.next).2.1 e);simp;omega
 have a0:(atT s.data.toList body st.next == [116,114,117,101])=false:=by rw[show([116,114,117,101]:List UInt8)=De 10 by decide];simpa using λe=>V ((Ct d st.next (c:=10) dZ).1 e)
 have a1:(atT s.data.toList body st.next == [102,97,108,115,101])=false:=by rw[show([102,97,108,115,101]:List UInt8)=De 11 by decide];simpa using λe=>W ((Ct d st.next (c:=11) dZ).1 e)
 have a2:(atT s.data.toList body st.next == [102,115,116])=false:=by rw[show([102,115,116]:List UInt8)=De 12 by decide];simpa using λe=>X ((Ct d st.next (c:=12) dZ).1 e)
 have a3:(atT s.data.toList body st.next == [115,110,100])=false:=by rw[show([115,110,100]:List UInt8)=De 13 by decide];simpa using λe=>Y ((Ct d st.next (c:=13) dZ).1 e)
 have a4:(atT s.data.toList body st.next == [40])=false:=by rw[show([40]:List UInt8)=De 16 by decide];simpa using λe=>Z ((Ct d st.next (c:=16) dZ).1 e)
 have J:=bV h;have I:=bV r;obtain⟨c0,c1,_,_,_,_,c6⟩:=h.cells
 go_in;go_wp2_with fail;obtain⟨f,v⟩:∃f,w.alloc (.cells #[vU 0,vI (-1),vI (-1),vI (-1),vI st.next,vI 0,vI 0,vI 0,.bool false] 276)=f:=⟨_,rfl⟩;obtain⟨x,Q⟩:∃x,w.heap.size=x:=⟨_,rfl⟩;have p:w.grownBy f none:=by rw[<-v];exact zwA _ _ none
 have y:=bV p;have g:=bV ((uh J).grown p);rw[v,Q];refine(Db (uh g)).mono ?_;rintro b w2 ⟨rfl,a⟩;have z:=bV (Ab (uh y) a);have j:=bV ((uh g).grown a);go_wp2_with fail;refine(Db (uh j)).mono ?_;rintro b w3 ⟨rfl,a⟩;have A:=bV (Ab (uh z) a);have k:=bV ((uh j).grown a);go_wp2_with fail;refine(Bl (uh k)).mono ?_;rintro b w4 ⟨rfl,a⟩;have C:=bV (Ab (uh A) a);have l:=bV ((uh k).grown a);simp only[ug];go_wp2_with fail;refine(Bl (uh l)).mono ?_;rintro b w5 ⟨rfl,a⟩;have D:=bV (Ab (uh C) a);have m:=bV ((uh l).grown a);simp only[ug];go_wp2_with fail;refine(Bl (uh m)).mono ?_;rintro b w6 ⟨rfl,a⟩;have E:=bV (Ab (uh D) a);have n:=bV ((uh m).grown a);simp only[ug];go_wp2_with fail;refine(Bl (uh n)).mono ?_;rintro b w7 ⟨rfl,a⟩;have F:=bV (Ab (uh E) a);have o:=bV ((uh n).grown a);simp only[ug];go_wp2_with fail;refine(Bl (uh o)).mono ?_;rintro b w8 ⟨rfl,a⟩;have G:=bV (Ab (uh F) a);have H:=bV ((uh o).grown a);simp only[ug];go_wp2_with fail;refine(Sm (uh H) (uh I)).mono ?_;rintro b w9 ⟨rfl,P,a5,T⟩;have L:=bV ((RK.of_grown br bt nv G.o).trans P (Own.refl _ _));have M:=bV T;go_wp2_with fail;go_ret;exact⟨_,N,nv,st.next,_,rfl,uh L,Own.refl _ _,znL _,uh M,λ_=>oM,λe=>(by rw[S]at e;cases e)⟩
end
end
section
open Tw Tw.Rf Go.Proofs.Tryz
open Go.RowKit
def RfSaid(F:Nat)(h:PS->Option (Tw.T×PS))(s:ByteArray)(body:List Tw.Tok):Prop:=
 ∀ {w:World} {B a c:Nat} {b:PS} {N:List RN} {f d:Value} {i:Nat} {g root:Int} {t:Tw.T} {e:PS},RCtx w B a c s body b N f d i g root->b.stuck=false->N.length<=2*i+1000->h b=some (t,e) ->
  Calls prog F #[.pointer (some ⟨a,0,none⟩)] w (RfTree w B a c s body e t N f d i root)
theorem zli{s:ByteArray}{body:List Tw.Tok}(hL:Lex 0 s.data.toList body){n:Nat}(hA:∀m,m<=n->RfSaid 231 (Cs s.data.toList (A9 s body) m) s body):RfSaid 224 (Dj s.data.toList (A9 s body) (n+1)) s body:=by
 intro w B br bt st N tv nv i er root t st' h hs hN hf;have hE:Rf.Ends (A9 s body):=⟨⟨0,s.size,s.size⟩,sM,rfl⟩;rw[Dj]at hf;obtain⟨⟨a1,st1⟩,ha,hf⟩:=zbE.1 hf;obtain⟨c0,c1,_,_,_,_,c6⟩:=h.cells;have HC:=bV (hA n (znL _) h hs hN ha);have HF:=bV hf;have HH:=bV h;have hi:=h.ile;have hm:=h.many;have HA:=bV hA;clear ha hf h hA
 go_in;go_wp2_with fail;refine(uh HC).mono ?_;rintro e1 w1 ⟨k1,N1,nv1,i1,er1,rfl,hk,ho,hi1,hx,hc,hg⟩;have X1:=bV hx;have K1:=bV hk;have O1:=bV ho;have C1:=bV hc;have D1:=bV hg;clear hk ho hx hc hg HC HH c0 c1 c6;go_wp2_with fail;go_loopg[4] n (λj kv wr=>∃(left:Tw.T) (stc:PS) (Nc:List RN) (nvc:Value) (ic:Nat) (erc kk:Int),j<=n/\kv=vI kk/\Hid (Aq s.data.toList (A9 s body) j left stc=some (t,st'))/\Hid (RCtx wr B br bt s body stc Nc tv nvc ic erc root)/\Hid (RK br bt nv w wr)/\Hid (Own w nv nvc)/\i<=ic/\Hid (stc.stuck=true->Nc.length<=N.length+2*(ic-i)+1) /\
  Hid (stc.stuck=false->Nc.length+1<=N.length+2*(ic-i)/\Nc=N++flat (ixF body) (ixT body) left N.length/\kk=((N.length+Rf.T.sz left-1:Nat):Int)/\i<ic/\(∃k0,body[i]?=some k0/\k0.fr=left.fr)/\∃k1,body[ic-1]?=some k1/\k1.to=left.to))
 case atStart=>exact⟨a1,st1,N1,nv1,i1,er1,k1,znL _,rfl,HF,X1,K1,O1,hi1,C1,D1⟩
 case round=>
  obtain⟨left,stc,Nc,nvc,ic,erc,kk,hj,rfl,HF,X,K,O,hic,C,D⟩:=hrel;clear X1 K1 O1 C1 D1;obtain⟨c0,c1,_,_,_,_,c6⟩:=X.o.cells;cases gk with
  |zero=>exact absurd HF.o (by simp[Aq])
  |succ m=>
   cases hsc:stc.stuck with
   |true=>
    obtain⟨j,tk,rfl,_⟩:=X.o.bad hsc;have hji:¬(j:Int)<0:=oM;obtain⟨tk2,q1,q2⟩:=Ft hE hsc;have e:left=t/\stc=st':=by
     have:=HF.o;rw[Aq,q1,zbS,jA (by rw[q2];decide)]at this;simpa using this
    obtain⟨rfl,rfl⟩:=e;clear q1 q2;go_wp2_with fail;go_ret;exact⟨kk,Nc,nvc,ic,_,rfl,K.o,O.o,hic,X.o,C.o,D.o⟩
   |false=>
    obtain⟨q0,rfl⟩:=X.o.good hsc;subst q0;obtain⟨hb1,hNc,hkk,hlt,hf0,hf1⟩:=D.o hsc;have htok:∃tk,tokS (A9 s body) stc=some tk/\atS body stc.next=tk.sort:=by
     have hile:=X.o.ile;simp only[tokS,hsc,xA,if_false];rcases yB stc.next body.length with h1|h1
     ·refine⟨body[stc.next],by rw[iA h1,fA h1],?_⟩;unfold atS;rw[fA h1]
     ·have e:stc.next=body.length:=oM;refine⟨⟨0,s.size,s.size⟩,by rw[e];simp,?_⟩;unfold atS;rw[gD h1]
    obtain⟨tk,htk,hat⟩:=htok;have HFm:=HF.o;rw[Aq,htk,zbS]at HFm;have HB:=bV (zhr hL X.o);rw[hat]at HB;have HNC:=bV hNc;have HKK:=bV hkk;have HF0:=bV hf0;have HF1:=bV hf1;have HSC:=bV hsc;have hile:=X.o.ile;clear hNc hkk hf0 hf1 D C htk hat;cases hbg:Aj tk.sort with
    |false=>
     rw[hbg]at HFm HB;simp at HFm;obtain⟨rfl,rfl⟩:=HFm;go_wp2_with fail;refine(uh HB).mono ?_;rintro e1 w2 ⟨rfl,hg⟩;have X2:=bV (X.o.grown hg);have K2:=bV (K.o.trans (RK.of_grown br bt nvc hg) O.o);clear hg X K;go_wp2_with fail;go_ret;exact⟨kk,Nc,nvc,stc.next,_,rfl,K2.o,O.o,hic,X2.o,λe=>(by rw[uh HSC]at e;cases e),λ_=>⟨hb1,uh HNC,uh HKK,hlt,uh HF0,uh HF1⟩⟩
    |true=>
     rw[hbg,mA rfl]at HFm;rw[hbg]at HB;obtain⟨⟨b2,st2⟩,hb2,hf2⟩:=zbE.1 HFm;have HB2:=bV hb2;have HF2:=bV hf2;clear HFm hb2 hf2 HF;go_wp2_with fail;refine(uh HB).mono ?_;rintro e1 w2 ⟨rfl,hg⟩;have X2:=bV (X.o.grown hg);have K2:=bV (K.o.trans (RK.of_grown br bt nvc hg) O.o);clear hg X K HB;go_wp2_with fail;refine(uh HA m oM (uh X2) (uh HSC) oM (uh HB2)).mono ?_;rintro e1 w3 ⟨k3,N3,nv3,i3,er3,rfl,hk,ho,hi3,hx,hc,hg⟩;have X3:=bV hx;have K3:=bV (K2.o.trans hk O.o);have O3:=bV (O.o.trans ho K2.o.size);have C3:=bV hc;have D3:=bV hg;have hl3:=hx.ile;have hN3:N3.length<=3000:=by
      cases h3:st2.stuck with
      |true=>have:=hc h3;omega
      |false=>have:=(hg h3).1;omega
     clear hk ho hx hc hg X2 K2;go_wp2_with fail;refine(Dy (uh X3) oM ⟨97,kk,k3,-1,i,0,0,0⟩ 0 0).mono ?_;rintro e1 w4 ⟨rfl,hk,nv4,ho,hx⟩;have X4:=bV hx;have K4:=bV (K3.o.trans hk O3.o);have O4:=bV (O3.o.trans ho K3.o.size);clear hk ho hx X3 K3 O3;go_wp2_with fail;go_roundg m
     case measure=>omega
     case rel=>
      refine⟨.call left.fr b2.to left b2,st2,_,nv4,i3,er3,(N3.length:Int),oM,rfl,HF2,X4,K4,O4,oM,λe=>?_,λe=>?_⟩
      ·have:=C3.o e;rw[eA,wB];omega
      ·obtain⟨d1,d2,d3,d4,⟨u0,_,_⟩,u1,v1,v2⟩:=D3.o e;obtain⟨k0,m1,m2⟩:=uh HF0;have lN:Nc.length=N.length+Rf.T.sz left:=(by rw[uh HNC,eA,Ak]);have l3:N3.length=N.length+Rf.T.sz left+Rf.T.sz b2:=(by rw[d2,eA,Ak,lN]);have s1:=Rf.T.Q8 left;refine⟨by rw[eA,wB];omega,?_,?_,oM,⟨k0,m1,m2⟩,u1,v1,v2⟩
       ·rw[d2,lN]
        conv=>lhs;rw[uh HNC]
        simp only[flat,wA];rw[uh HKK,d3,lN,<-m2,Ds hL m1,<-v2,Tm hL v1,show((i3-1:Nat):Int)=(i3:Int)-1 by omega]
       ·simp only[Rf.T.sz];omega
end
section
open Tw Tw.Rf Go.Proofs.Tryz
open Go.RowKit
variable{s:ByteArray}{body:List Tw.Tok}{n:Nat}
theorem Lu{st:PS}(m:st.stuck=false)(hi:st.next<=body.length)(p:body.length<=300){b d:Int}(a:b≠0)(j:d≠0):
  Ar (A9 s body) [b,d] st=if atS body st.next=b then some (b,{st with next:=st.next+1})else if atS body st.next=d then some (d,{st with next:=st.next+1})else some (0,st):=by
 have o:∃tk,tokS (A9 s body) st=some tk/\atS body st.next=tk.sort:=by
  simp only[tokS,m,xA,if_false];rcases yB st.next body.length with a|a
  ·refine⟨body[st.next],by rw[iA a,fA a],?_⟩;unfold atS;rw[fA a]
  ·have g:st.next=body.length:=oM;refine⟨⟨0,s.size,s.size⟩,by rw[g];simp,?_⟩;unfold atS;rw[gD a]
 obtain⟨tk,h,k⟩:=o;rw[k];have i:∀c:Int,c≠0->tk.sort=c->Tw.Au (A9 s body) c st=some (tk,{st with next:=st.next+1}):=λc l g=>by
  simp only[Tw.Au,h,zbS,mA g,jA l];rw[mA oM]
 simp only[Ar,h,zbS];by_cases e:tk.sort=b
 ·rw[mA e,mA e,i b a e,zbS,e]
 ·rw[jA e,jA e];by_cases f:tk.sort=d
  ·rw[mA f,mA f,i d j f,zbS,f]
  ·rw[jA f,jA f]
theorem zlj(hL:Lex 0 s.data.toList body)(hA:∀m,m<=n->RfSaid 224 (B6 s.data.toList (A9 s body) m .call) s body):RfSaid 215 (Bs s.data.toList (A9 s body) (n+1) .call [21,22]) s body:=by
 intro w B br bt st N tv nv i er root t st' h hs hN hf;have hE:Rf.Ends (A9 s body):=⟨⟨0,s.size,s.size⟩,sM,rfl⟩;rw[Bs]at hf;obtain⟨⟨a1,st1⟩,ha,hf⟩:=zbE.1 hf;obtain⟨c0,c1,_,_,_,_,c6⟩:=h.cells;have HC:=bV (hA n (znL _) h hs hN ha);have HF:=bV hf;have HH:=bV h;have hi:=h.ile;have hm:=h.many;have HA:=bV hA;clear ha hf h hA
 go_in;go_wp2_with fail;refine(uh HC).mono ?_;rintro e1 w1 ⟨k1,N1,nv1,i1,er1,rfl,hk,ho,hi1,hx,hc,hg⟩;have X1:=bV hx;have K1:=bV hk;have O1:=bV ho;have C1:=bV hc;have D1:=bV hg;clear hk ho hx hc hg HC HH c0 c1 c6;go_wp2_with fail;go_loopg[4] n (λj kv wr=>∃(left:Tw.T) (stc:PS) (Nc:List RN) (nvc:Value) (ic:Nat) (erc kk:Int),j<=n/\kv=vI kk/\Hid (Am s.data.toList (A9 s body) j .call [21,22] left stc=some (t,st'))/\Hid (RCtx wr B br bt s body stc Nc tv nvc ic erc root)/\Hid (RK br bt nv w wr)/\Hid (Own w nv nvc)/\i<=ic/\Hid (stc.stuck=true->Nc.length<=N.length+2*(ic-i)+1) /\
  Hid (stc.stuck=false->Nc.length+1<=N.length+2*(ic-i)/\Nc=N++flat (ixF body) (ixT body) left N.length/\kk=((N.length+Rf.T.sz left-1:Nat):Int)/\i<ic/\(∃k0,body[i]?=some k0/\k0.fr=left.fr)/\∃k1,body[ic-1]?=some k1/\k1.to=left.to))
 case atStart=>exact⟨a1,st1,N1,nv1,i1,er1,k1,znL _,rfl,HF,X1,K1,O1,hi1,C1,D1⟩
 case round=>
  obtain⟨left,stc,Nc,nvc,ic,erc,kk,hj,rfl,HF,X,K,O,hic,C,D⟩:=hrel;clear X1 K1 O1 C1 D1;obtain⟨c0,c1,_,_,_,_,c6⟩:=X.o.cells;cases gk with
  |zero=>exact absurd HF.o (by simp[Am])
  |succ m=>
   cases hsc:stc.stuck with
   |true=>
    obtain⟨j,tk,rfl,_⟩:=X.o.bad hsc;have hji:¬(j:Int)<0:=oM;have e:left=t/\stc=st':=by
     have:=HF.o;rw[Am,Hn hE hsc _ sM]at this;simpa using this
    obtain⟨rfl,rfl⟩:=e;go_wp2_with fail;go_ret;exact⟨kk,Nc,nvc,ic,_,rfl,K.o,O.o,hic,X.o,C.o,D.o⟩
   |false=>
    obtain⟨q0,rfl⟩:=X.o.good hsc;subst q0;obtain⟨hb1,hNc,hkk,hlt,hf0,hf1⟩:=D.o hsc;have HNC:=bV hNc;have HKK:=bV hkk;have HF0:=bV hf0;have HF1:=bV hf1;have HSC:=bV hsc;have hile:=X.o.ile;have t1:=Ct hL stc.next (c:=21) dZ;have t2:=Ct hL stc.next (c:=22) dZ;have HAT:=bV (Bl X.o);obtain⟨S0,hS0⟩:∃S0,atS body stc.next=S0:=⟨_,rfl⟩;obtain⟨T0,hT0⟩:∃T0,atT s.data.toList body stc.next=T0:=⟨_,rfl⟩;have HS0:=bV hS0;have HT0:=bV hT0;rw[hS0,hT0]at t1 t2;rw[hT0]at HAT;clear hNc hkk hf0 hf1 D C hS0 hT0;have HFm:=HF.o;rw[Am]at HFm;by_cases e1:S0=21
    ·subst e1;obtain rfl:T0=[42]:=t1.2 rfl;rw[Lu (uh HSC) hile hm dZ dZ,uh HS0]at HFm;simp at HFm;obtain⟨⟨b2,st2⟩,hb2,hf2⟩:=zbE.1 HFm;have HB2:=bV hb2;have HF2:=bV hf2;have hlt2:stc.next<body.length:=by
      rcases yB stc.next body.length with h1|h1
      ·exact h1
      ·have:=uh HS0;unfold atS at this;rw[gD h1]at this;simp at this
     clear HFm hb2 hf2 HF t1 t2;go_wp2_with fail;refine(uh HAT).mono ?_;rintro e1 w2a ⟨rfl,hg⟩;have Xa:=bV (X.o.grown hg);have Ka:=bV (K.o.trans (RK.of_grown br bt nvc hg) O.o);clear hg X K;simp only[ug];go_wp2_with fail;refine(Bl Xa.o).mono ?_;rintro e1 w2b ⟨rfl,hg⟩;have Xb:=bV (Xa.o.grown hg);have Kb:=bV (Ka.o.trans (RK.of_grown br bt nvc hg) O.o);clear hg Xa Ka;rw[uh HT0];simp only[ug];obtain⟨c0,c1,_,_,_,_,c6⟩:=Xb.o.cells;obtain⟨f1,_,_,_⟩:=Xb.o.frozen;have R4:=bV (Xb.o.setI (st':={stc with next:=stc.next+1}) (i':=stc.next+1) rfl (λ_=>⟨rfl,rfl⟩) (λe=>(by have e2:stc.stuck=true:=e;rw[uh HSC]at e2;cases e2)) oM (λ_=>uh HSC));have K4:=bV (Kb.o.setR (j:=1) (vI ((stc.next+1:Nat):Int)));rw[show((stc.next+1:Nat):Int)=(stc.next:Int)+1 by omega]at R4 K4;clear Xb Kb;go_wp2_with fail;refine(uh HA m oM (uh R4) (uh HSC) oM (uh HB2)).mono ?_;rintro e1 w3 ⟨k3,N3,nv3,i3,er3,rfl,hk,ho,hi3,hx,hc,hg⟩;have X3:=bV hx;have K3:=bV (K4.o.trans hk O.o);have O3:=bV (O.o.trans ho K4.o.size);have C3:=bV hc;have D3:=bV hg;have hl3:=hx.ile;have hN3:N3.length<=3000:=by
      cases h3:st2.stuck with
      |true=>have:=hc h3;omega
      |false=>have:=(hg h3).1;omega
     clear hk ho hx hc hg R4 K4 c0 c1 c6 f1;go_wp2_with fail;refine(Dy (uh X3) oM ⟨42,kk,k3,-1,i,0,0,0⟩ 0 0).mono ?_;rintro e1 w4 ⟨rfl,hk,nv4,ho,hx⟩;have X4:=bV hx;have K4:=bV (K3.o.trans hk O3.o);have O4:=bV (O3.o.trans ho K3.o.size);clear hk ho hx X3 K3 O3;go_wp2_with fail;go_roundg m
     case measure=>omega
     case rel=>
      refine⟨.binary left.fr b2.to 21 left b2,st2,_,nv4,i3,er3,(N3.length:Int),oM,rfl,HF2,X4,K4,O4,oM,λe=>?_,λe=>?_⟩
      ·have:=C3.o e;rw[eA,wB];omega
      ·obtain⟨d1,d2,d3,d4,⟨u0,_,_⟩,u1,v1,v2⟩:=D3.o e;obtain⟨k0,m1,m2⟩:=uh HF0;have lN:Nc.length=N.length+Rf.T.sz left:=(by rw[uh HNC,eA,Ak]);have l3:N3.length=N.length+Rf.T.sz left+Rf.T.sz b2:=(by rw[d2,eA,Ak,lN]);have s1:=Rf.T.Q8 left;refine⟨by rw[eA,wB];omega,?_,?_,oM,⟨k0,m1,m2⟩,u1,v1,v2⟩
       ·rw[d2,lN]
        conv=>lhs;rw[uh HNC]
        simp only[flat,wA];rw[uh HKK,d3,lN,<-m2,Ds hL m1,<-v2,Tm hL v1,show((i3-1:Nat):Int)=(i3:Int)-1 by omega];rfl
       ·simp only[Rf.T.sz];omega
    ·by_cases e2:S0=22
     ·subst e2;have n1:(T0 == [42])=false:=(by rw[show([42]:List UInt8)=De 21 by decide];simpa using λe=>e1 (t1.1 e));obtain rfl:T0=[47]:=t2.2 rfl;rw[Lu (uh HSC) hile hm dZ dZ,uh HS0]at HFm;simp at HFm;obtain⟨⟨b2,st2⟩,hb2,hf2⟩:=zbE.1 HFm;have HB2:=bV hb2;have HF2:=bV hf2;have hlt2:stc.next<body.length:=by
       rcases yB stc.next body.length with h1|h1
       ·exact h1
       ·have:=uh HS0;unfold atS at this;rw[gD h1]at this;simp at this
      clear HFm hb2 hf2 HF t1 t2;go_wp2_with fail;refine(uh HAT).mono ?_;rintro e1 w2a ⟨rfl,hg⟩;have Xa:=bV (X.o.grown hg);have Ka:=bV (K.o.trans (RK.of_grown br bt nvc hg) O.o);clear hg X K;simp only[ug];go_wp2_with fail;refine(Bl Xa.o).mono ?_;rintro e1 w2b ⟨rfl,hg⟩;have Xb:=bV (Xa.o.grown hg);have Kb:=bV (Ka.o.trans (RK.of_grown br bt nvc hg) O.o);clear hg Xa Ka;rw[uh HT0];simp only[ug];go_wp2_with fail;refine(Bl Xb.o).mono ?_;rintro e1 w2c ⟨rfl,hg⟩;have Xc:=bV (Xb.o.grown hg);have Kc:=bV (Kb.o.trans (RK.of_grown br bt nvc hg) O.o);clear hg Xb Kb;rw[uh HT0];simp only[ug];obtain⟨c0,c1,_,_,_,_,c6⟩:=Xc.o.cells;obtain⟨f1,_,_,_⟩:=Xc.o.frozen;have R4:=bV (Xc.o.setI (st':={stc with next:=stc.next+1}) (i':=stc.next+1) rfl (λ_=>⟨rfl,rfl⟩) (λe=>(by have e2:stc.stuck=true:=e;rw[uh HSC]at e2;cases e2)) oM (λ_=>uh HSC));have K4:=bV (Kc.o.setR (j:=1) (vI ((stc.next+1:Nat):Int)));rw[show((stc.next+1:Nat):Int)=(stc.next:Int)+1 by omega]at R4 K4;clear Xc Kc;go_wp2_with fail;refine(uh HA m oM (uh R4) (uh HSC) oM (uh HB2)).mono ?_;rintro e1 w3 ⟨k3,N3,nv3,i3,er3,rfl,hk,ho,hi3,hx,hc,hg⟩;have X3:=bV hx;have K3:=bV (K4.o.trans hk O.o);have O3:=bV (O.o.trans ho K4.o.size);have C3:=bV hc;have D3:=bV hg;have hl3:=hx.ile;have hN3:N3.length<=3000:=by
       cases h3:st2.stuck with
       |true=>have:=hc h3;omega
       |false=>have:=(hg h3).1;omega
      clear hk ho hx hc hg R4 K4 c0 c1 c6 f1;go_wp2_with fail;refine(Dy (uh X3) oM ⟨47,kk,k3,-1,i,0,0,0⟩ 0 0).mono ?_;rintro e1 w4 ⟨rfl,hk,nv4,ho,hx⟩;have X4:=bV hx;have K4:=bV (K3.o.trans hk O3.o);have O4:=bV (O3.o.trans ho K3.o.size);clear hk ho hx X3 K3 O3;go_wp2_with fail;go_roundg m
      case measure=>omega
      case rel=>
       refine⟨.binary left.fr b2.to 22 left b2,st2,_,nv4,i3,er3,(N3.length:Int),oM,rfl,HF2,X4,K4,O4,oM,λe=>?_,λe=>?_⟩
       ·have:=C3.o e;rw[eA,wB];omega
       ·obtain⟨d1,d2,d3,d4,⟨u0,_,_⟩,u1,v1,v2⟩:=D3.o e;obtain⟨k0,m1,m2⟩:=uh HF0;have lN:Nc.length=N.length+Rf.T.sz left:=(by rw[uh HNC,eA,Ak]);have l3:N3.length=N.length+Rf.T.sz left+Rf.T.sz b2:=(by rw[d2,eA,Ak,lN]);have s1:=Rf.T.Q8 left;refine⟨by rw[eA,wB];omega,?_,?_,oM,⟨k0,m1,m2⟩,u1,v1,v2⟩
        ·rw[d2,lN]
         conv=>lhs;rw[uh HNC]
         simp only[flat,wA];rw[uh HKK,d3,lN,<-m2,Ds hL m1,<-v2,Tm hL v1,show((i3-1:Nat):Int)=(i3:Int)-1 by omega];rfl
        ·simp only[Rf.T.sz];omega
     ·have n1:(T0 == [42])=false:=(by rw[show([42]:List UInt8)=De 21 by decide];simpa using λe=>e1 (t1.1 e));have n2:(T0 == [47])=false:=(by rw[show([47]:List UInt8)=De 22 by decide];simpa using λe=>e2 (t2.1 e));rw[Lu (uh HSC) hile hm dZ dZ,uh HS0,jA e1,jA e2]at HFm;simp at HFm;obtain⟨rfl,rfl⟩:=HFm;clear t1 t2 HF;go_wp2_with fail;refine(uh HAT).mono ?_;rintro e1 w2 ⟨rfl,hg⟩;have X2:=bV (X.o.grown hg);have K2:=bV (K.o.trans (RK.of_grown br bt nvc hg) O.o);clear hg X K;simp only[ug];go_wp2_with fail;refine(Bl X2.o).mono ?_;rintro e1 w3 ⟨rfl,hg⟩;have X3:=bV (X2.o.grown hg);have K3:=bV (K2.o.trans (RK.of_grown br bt nvc hg) O.o);rw[uh HT0];clear hg X2 K2;simp only[ug];go_wp2_with fail;go_ret;exact⟨kk,Nc,nvc,stc.next,_,rfl,K3.o,O.o,hic,X3.o,λe=>(by rw[uh HSC]at e;cases e),λ_=>⟨hb1,uh HNC,uh HKK,hlt,uh HF0,uh HF1⟩⟩
theorem zmu(hL:Lex 0 s.data.toList body)(hA:∀m,m<=n->RfSaid 215 (B6 s.data.toList (A9 s body) m .term) s body):RfSaid 195 (Bs s.data.toList (A9 s body) (n+1) .term [19,20]) s body:=by
 intro w B br bt st N tv nv i er root t st' h hs hN hf;have hE:Rf.Ends (A9 s body):=⟨⟨0,s.size,s.size⟩,sM,rfl⟩;rw[Bs]at hf;obtain⟨⟨a1,st1⟩,ha,hf⟩:=zbE.1 hf;obtain⟨c0,c1,_,_,_,_,c6⟩:=h.cells;have HC:=bV (hA n (znL _) h hs hN ha);have HF:=bV hf;have HH:=bV h;have hi:=h.ile;have hm:=h.many;have HA:=bV hA;clear ha hf h hA
 go_in;go_wp2_with fail;refine(uh HC).mono ?_;rintro e1 w1 ⟨k1,N1,nv1,i1,er1,rfl,hk,ho,hi1,hx,hc,hg⟩;have X1:=bV hx;have K1:=bV hk;have O1:=bV ho;have C1:=bV hc;have D1:=bV hg;clear hk ho hx hc hg HC HH c0 c1 c6;go_wp2_with fail;go_loopg[4] n (λj kv wr=>∃(left:Tw.T) (stc:PS) (Nc:List RN) (nvc:Value) (ic:Nat) (erc kk:Int),j<=n/\kv=vI kk/\Hid (Am s.data.toList (A9 s body) j .term [19,20] left stc=some (t,st'))/\Hid (RCtx wr B br bt s body stc Nc tv nvc ic erc root)/\Hid (RK br bt nv w wr)/\Hid (Own w nv nvc)/\i<=ic/\Hid (stc.stuck=true->Nc.length<=N.length+2*(ic-i)+1) /\
  Hid (stc.stuck=false->Nc.length+1<=N.length+2*(ic-i)/\Nc=N++flat (ixF body) (ixT body) left N.length/\kk=((N.length+Rf.T.sz left-1:Nat):Int)/\i<ic/\(∃k0,body[i]?=some k0/\k0.fr=left.fr)/\∃k1,body[ic-1]?=some k1/\k1.to=left.to))
 case atStart=>exact⟨a1,st1,N1,nv1,i1,er1,k1,znL _,rfl,HF,X1,K1,O1,hi1,C1,D1⟩
 case round=>
  obtain⟨left,stc,Nc,nvc,ic,erc,kk,hj,rfl,HF,X,K,O,hic,C,D⟩:=hrel;clear X1 K1 O1 C1 D1;obtain⟨c0,c1,_,_,_,_,c6⟩:=X.o.cells;cases gk with
  |zero=>exact absurd HF.o (by simp[Am])
  |succ m=>
   cases hsc:stc.stuck with
   |true=>
    obtain⟨j,tk,rfl,_⟩:=X.o.bad hsc;have hji:¬(j:Int)<0:=oM;have e:left=t/\stc=st':=by
     have:=HF.o;rw[Am,Hn hE hsc _ sM]at this;simpa using this
    obtain⟨rfl,rfl⟩:=e;go_wp2_with fail;go_ret;exact⟨kk,Nc,nvc,ic,_,rfl,K.o,O.o,hic,X.o,C.o,D.o⟩
   |false=>
    obtain⟨q0,rfl⟩:=X.o.good hsc;subst q0;obtain⟨hb1,hNc,hkk,hlt,hf0,hf1⟩:=D.o hsc;have HNC:=bV hNc;have HKK:=bV hkk;have HF0:=bV hf0;have HF1:=bV hf1;have HSC:=bV hsc;have hile:=X.o.ile;have t1:=Ct hL stc.next (c:=19) dZ;have t2:=Ct hL stc.next (c:=20) dZ;have HAT:=bV (Bl X.o);obtain⟨S0,hS0⟩:∃S0,atS body stc.next=S0:=⟨_,rfl⟩;obtain⟨T0,hT0⟩:∃T0,atT s.data.toList body stc.next=T0:=⟨_,rfl⟩;have HS0:=bV hS0;have HT0:=bV hT0;rw[hS0,hT0]at t1 t2;rw[hT0]at HAT;clear hNc hkk hf0 hf1 D C hS0 hT0;have HFm:=HF.o;rw[Am]at HFm;by_cases e1:S0=19
    ·subst e1;obtain rfl:T0=[43]:=t1.2 rfl;rw[Lu (uh HSC) hile hm dZ dZ,uh HS0]at HFm;simp at HFm;obtain⟨⟨b2,st2⟩,hb2,hf2⟩:=zbE.1 HFm;have HB2:=bV hb2;have HF2:=bV hf2;have hlt2:stc.next<body.length:=by
      rcases yB stc.next body.length with h1|h1
      ·exact h1
      ·have:=uh HS0;unfold atS at this;rw[gD h1]at this;simp at this
     clear HFm hb2 hf2 HF t1 t2;go_wp2_with fail;refine(uh HAT).mono ?_;rintro e1 w2a ⟨rfl,hg⟩;have Xa:=bV (X.o.grown hg);have Ka:=bV (K.o.trans (RK.of_grown br bt nvc hg) O.o);clear hg X K;simp only[ug];go_wp2_with fail;refine(Bl Xa.o).mono ?_;rintro e1 w2b ⟨rfl,hg⟩;have Xb:=bV (Xa.o.grown hg);have Kb:=bV (Ka.o.trans (RK.of_grown br bt nvc hg) O.o);clear hg Xa Ka;rw[uh HT0];simp only[ug];obtain⟨c0,c1,_,_,_,_,c6⟩:=Xb.o.cells;obtain⟨f1,_,_,_⟩:=Xb.o.frozen;have R4:=bV (Xb.o.setI (st':={stc with next:=stc.next+1}) (i':=stc.next+1) rfl (λ_=>⟨rfl,rfl⟩) (λe=>(by have e2:stc.stuck=true:=e;rw[uh HSC]at e2;cases e2)) oM (λ_=>uh HSC));have K4:=bV (Kb.o.setR (j:=1) (vI ((stc.next+1:Nat):Int)));rw[show((stc.next+1:Nat):Int)=(stc.next:Int)+1 by omega]at R4 K4;clear Xb Kb;go_wp2_with fail;refine(uh HA m oM (uh R4) (uh HSC) oM (uh HB2)).mono ?_;rintro e1 w3 ⟨k3,N3,nv3,i3,er3,rfl,hk,ho,hi3,hx,hc,hg⟩;have X3:=bV hx;have K3:=bV (K4.o.trans hk O.o);have O3:=bV (O.o.trans ho K4.o.size);have C3:=bV hc;have D3:=bV hg;have hl3:=hx.ile;have hN3:N3.length<=3000:=by
      cases h3:st2.stuck with
      |true=>have:=hc h3;omega
      |false=>have:=(hg h3).1;omega
     clear hk ho hx hc hg R4 K4 c0 c1 c6 f1;go_wp2_with fail;refine(Dy (uh X3) oM ⟨43,kk,k3,-1,i,0,0,0⟩ 0 0).mono ?_;rintro e1 w4 ⟨rfl,hk,nv4,ho,hx⟩;have X4:=bV hx;have K4:=bV (K3.o.trans hk O3.o);have O4:=bV (O3.o.trans ho K3.o.size);clear hk ho hx X3 K3 O3;go_wp2_with fail;go_roundg m
     case measure=>omega
     case rel=>
      refine⟨.binary left.fr b2.to 19 left b2,st2,_,nv4,i3,er3,(N3.length:Int),oM,rfl,HF2,X4,K4,O4,oM,λe=>?_,λe=>?_⟩
      ·have:=C3.o e;rw[eA,wB];omega
      ·obtain⟨d1,d2,d3,d4,⟨u0,_,_⟩,u1,v1,v2⟩:=D3.o e;obtain⟨k0,m1,m2⟩:=uh HF0;have lN:Nc.length=N.length+Rf.T.sz left:=(by rw[uh HNC,eA,Ak]);have l3:N3.length=N.length+Rf.T.sz left+Rf.T.sz b2:=(by rw[d2,eA,Ak,lN]);have s1:=Rf.T.Q8 left;refine⟨by rw[eA,wB];omega,?_,?_,oM,⟨k0,m1,m2⟩,u1,v1,v2⟩
       ·rw[d2,lN]
        conv=>lhs;rw[uh HNC]
        simp only[flat,wA];rw[uh HKK,d3,lN,<-m2,Ds hL m1,<-v2,Tm hL v1,show((i3-1:Nat):Int)=(i3:Int)-1 by omega];rfl
       ·simp only[Rf.T.sz];omega
    ·by_cases e2:S0=20
     ·subst e2;have n1:(T0 == [43])=false:=(by rw[show([43]:List UInt8)=De 19 by decide];simpa using λe=>e1 (t1.1 e));obtain rfl:T0=[45]:=t2.2 rfl;rw[Lu (uh HSC) hile hm dZ dZ,uh HS0]at HFm;simp at HFm;obtain⟨⟨b2,st2⟩,hb2,hf2⟩:=zbE.1 HFm;have HB2:=bV hb2;have HF2:=bV hf2;have hlt2:stc.next<body.length:=by
       rcases yB stc.next body.length with h1|h1
       ·exact h1
       ·have:=uh HS0;unfold atS at this;rw[gD h1]at this;simp at this
      clear HFm hb2 hf2 HF t1 t2;go_wp2_with fail;refine(uh HAT).mono ?_;rintro e1 w2a ⟨rfl,hg⟩;have Xa:=bV (X.o.grown hg);have Ka:=bV (K.o.trans (RK.of_grown br bt nvc hg) O.o);clear hg X K;simp only[ug];go_wp2_with fail;refine(Bl Xa.o).mono ?_;rintro e1 w2b ⟨rfl,hg⟩;have Xb:=bV (Xa.o.grown hg);have Kb:=bV (Ka.o.trans (RK.of_grown br bt nvc hg) O.o);clear hg Xa Ka;rw[uh HT0];simp only[ug];go_wp2_with fail;refine(Bl Xb.o).mono ?_;rintro e1 w2c ⟨rfl,hg⟩;have Xc:=bV (Xb.o.grown hg);have Kc:=bV (Kb.o.trans (RK.of_grown br bt nvc hg) O.o);clear hg Xb Kb;rw[uh HT0];simp only[ug];obtain⟨c0,c1,_,_,_,_,c6⟩:=Xc.o.cells;obtain⟨f1,_,_,_⟩:=Xc.o.frozen;have R4:=bV (Xc.o.setI (st':={stc with next:=stc.next+1}) (i':=stc.next+1) rfl (λ_=>⟨rfl,rfl⟩) (λe=>(by have e2:stc.stuck=true:=e;rw[uh HSC]at e2;cases e2)) oM (λ_=>uh HSC));have K4:=bV (Kc.o.setR (j:=1) (vI ((stc.next+1:Nat):Int)));rw[show((stc.next+1:Nat):Int)=(stc.next:Int)+1 by omega]at R4 K4;clear Xc Kc;go_wp2_with fail;refine(uh HA m oM (uh R4) (uh HSC) oM (uh HB2)).mono ?_;rintro e1 w3 ⟨k3,N3,nv3,i3,er3,rfl,hk,ho,hi3,hx,hc,hg⟩;have X3:=bV hx;have K3:=bV (K4.o.trans hk O.o);have O3:=bV (O.o.trans ho K4.o.size);have C3:=bV hc;have D3:=bV hg;have hl3:=hx.ile;have hN3:N3.length<=3000:=by
       cases h3:st2.stuck with
       |true=>have:=hc h3;omega
       |false=>have:=(hg h3).1;omega
      clear hk ho hx hc hg R4 K4 c0 c1 c6 f1;go_wp2_with fail;refine(Dy (uh X3) oM ⟨45,kk,k3,-1,i,0,0,0⟩ 0 0).mono ?_;rintro e1 w4 ⟨rfl,hk,nv4,ho,hx⟩;have X4:=bV hx;have K4:=bV (K3.o.trans hk O3.o);have O4:=bV (O3.o.trans ho K3.o.size);clear hk ho hx X3 K3 O3;go_wp2_with fail;go_roundg m
      case measure=>omega
      case rel=>
       refine⟨.binary left.fr b2.to 20 left b2,st2,_,nv4,i3,er3,(N3.length:Int),oM,rfl,HF2,X4,K4,O4,oM,λe=>?_,λe=>?_⟩
       ·have:=C3.o e;rw[eA,wB];omega
       ·obtain⟨d1,d2,d3,d4,⟨u0,_,_⟩,u1,v1,v2⟩:=D3.o e;obtain⟨k0,m1,m2⟩:=uh HF0;have lN:Nc.length=N.length+Rf.T.sz left:=(by rw[uh HNC,eA,Ak]);have l3:N3.length=N.length+Rf.T.sz left+Rf.T.sz b2:=(by rw[d2,eA,Ak,lN]);have s1:=Rf.T.Q8 left;refine⟨by rw[eA,wB];omega,?_,?_,oM,⟨k0,m1,m2⟩,u1,v1,v2⟩
        ·rw[d2,lN]
         conv=>lhs;rw[uh HNC]
         simp only[flat,wA];rw[uh HKK,d3,lN,<-m2,Ds hL m1,<-v2,Tm hL v1,show((i3-1:Nat):Int)=(i3:Int)-1 by omega];rfl
        ·simp only[Rf.T.sz];omega
     ·have n1:(T0 == [43])=false:=(by rw[show([43]:List UInt8)=De 19 by decide];simpa using λe=>e1 (t1.1 e));have n2:(T0 == [45])=false:=(by rw[show([45]:List UInt8)=De 20 by decide];simpa using λe=>e2 (t2.1 e));rw[Lu (uh HSC) hile hm dZ dZ,uh HS0,jA e1,jA e2]at HFm;simp at HFm;obtain⟨rfl,rfl⟩:=HFm;clear t1 t2 HF;go_wp2_with fail;refine(uh HAT).mono ?_;rintro e1 w2 ⟨rfl,hg⟩;have X2:=bV (X.o.grown hg);have K2:=bV (K.o.trans (RK.of_grown br bt nvc hg) O.o);clear hg X K;simp only[ug];go_wp2_with fail;refine(Bl X2.o).mono ?_;rintro e1 w3 ⟨rfl,hg⟩;have X3:=bV (X2.o.grown hg);have K3:=bV (K2.o.trans (RK.of_grown br bt nvc hg) O.o);rw[uh HT0];clear hg X2 K2;simp only[ug];go_wp2_with fail;go_ret;exact⟨kk,Nc,nvc,stc.next,_,rfl,K3.o,O.o,hic,X3.o,λe=>(by rw[uh HSC]at e;cases e),λ_=>⟨hb1,uh HNC,uh HKK,hlt,uh HF0,uh HF1⟩⟩
end
section
open Tw Tw.Rf Go.Proofs.Tryz
open Go.RowKit
section
variable {w:World}{nb:Nat}{c:Array Value}{B br bt:Nat}{s:ByteArray}{body:List Tw.Tok}{st:Tw.PS}{N:List Tw.Rf.RN}{tv nv0 nv:Value}{i:Nat}{er root:Int}{w':World}
theorem RS.post(h:RS w nb c B br bt s body st N tv nv0 nv i er root w'){e:World}{d:PS}(p:Xf w' B br bt s body d N tv nv i root e):∃a b,i<=a/\RS w nb c B br bt s body d N tv nv0 nv a b root e:=by
 obtain⟨k,a,b,f,x⟩:=p;exact⟨a,b,f,h.next k (Own.refl _ _) x⟩
theorem RS.setD(h:RS w nb c B br bt s body st N tv nv0 nv i er root w'){b:PS}(a:Tw.endS st=some b):RS w nb c B br bt s body b N tv nv0 nv i er root (w'.setCell (aD br 2) (vI ((st.depth:Int)-1))):=by
 unfold Tw.endS at a;split at a
 ·cases a
 ·rename_i d;cases a;have f:=h.x.dep;have x:=h.x.setD (st':={st with depth:=st.depth-1}) rfl rfl rfl (by simp only;omega) (λe=>by have:=h.x.dep40 e;simp only;omega);have e:((st.depth-1:Nat):Int)=(st.depth:Int)-1:=oM;simp only[e]at x;exact h.next ((RK.refl _ _ _ _).setR _) (Own.refl _ _) x
end
variable{c:Int}{s:ByteArray}
theorem Tw.Rf.Gn{d:List Tw.Tok}{st:PS}{r:Tw.Tok×PS}(j:c≠0)(h:Tw.Au d c st=some r)(a:r.2.stuck=false):st.stuck=false/\r.2={st with next:=st.next+1}/\d[st.next]?=some r.1/\r.1.sort=c:=by
 have b:=(Ah (t:=r.1) (st':=r.2) h).1 a;unfold Tw.Au at h;obtain⟨t,g,h⟩:=zbE.1 h;split at h
 ·rename_i e;split at h
  ·cases h;refine⟨b,rfl,?_,e⟩;simpa[tokS,b]using g
  ·cases h
 ·obtain⟨k,f,h⟩:=zbE.1 h;cases h;rw[(Cr f).1]at a;cases a
theorem Tw.Rf.Jp{body:List Tw.Tok}{j:Nat}{t:Tw.Tok}(h:(A9 s body)[j]?=some t)(b:t.sort≠0):body[j]?=some t:=by
 rcases yB j body.length with a|a
 ·rwa[iA a]at h
 ·rw[fB a]at h;rcases Nat.eq_zero_or_pos (j-body.length)with e|e
  ·rw[e]at h;simp at h;rw[<-h]at b;exact absurd rfl b
  ·rw[gD (by simp;omega)]at h;cases h
theorem Gg{w:World}{B br bt:Nat}{body:List Tw.Tok}{st:PS}{N:List RN}{tv nv:Value}{i:Nat}{er root:Int}(a:Lex 0 s.data.toList body)(h:RCtx w B br bt s body st N tv nv i er root)(b:3<=c/\c<=23){r:Tw.Tok×PS}(d:Tw.Au (A9 s body) c st=some r){l:Array UInt8}(f:(De c).toArray=l):
  Calls prog 192 #[pT br,.string ⟨l⟩] w λe w'=>e=.returned (.tuple #[])/\Xf w B br bt s body r.2 N tv nv i root w':=by
 subst f;exact zlh a h b d
def zmb(w:World)(B br bt:Nat)(s:ByteArray)(body:List Tw.Tok)(st st':PS)(t:Tw.T)(N:List RN)(tv nv:Value)(i:Nat)(root:Int)(e:Ending)(w':World):Prop:=
 ∃(k:Int) (b:List RN) (g:Value) (a:Nat) (h:Int),e=.returned (.int .i64 k)/\RK br bt nv w w'/\Own w nv g/\i<=a/\RCtx w' B br bt s body st' b tv g a h root/\(st.stuck=true->b.length=N.length)/\(st'.stuck=true->b.length<=N.length+2*(a-i)+1) /\
  (st'.stuck=false->b.length+1<=N.length+2*(a-i)/\b=N++flat (ixF body) (ixT body) t N.length/\k=((N.length+Rf.T.sz t-1:Nat):Int)/\i<a/\(∃d,body[i]?=some d/\d.fr=t.fr)/\∃f,body[a-1]?=some f/\f.to=t.to)
def RfEx(s:ByteArray)(body:List Tw.Tok)(n:Nat):Prop:=
 ∀ {w:World} {B br bt:Nat} {st:PS} {N:List RN} {tv nv:Value} {i:Nat} {er root:Int} {t:Tw.T} {a:PS},RCtx w B br bt s body st N tv nv i er root->N.length<=2*i+1000->A8 s.data.toList (A9 s body) n st=some (t,a) ->
  Calls prog 120 #[.pointer (some ⟨br,0,none⟩)] w (zmb w B br bt s body st a t N tv nv i root)
theorem zfn{body:List Tw.Tok}{n:Nat}(h:RfSaid 120 (A8 s.data.toList (A9 s body) n) s body):RfEx s body n:=by
 intro w B br bt st N tv nv i er root C H b x d;cases a:st.stuck with
 |false=>
  refine(h b a x d).mono ?_;rintro e w' ⟨k,g,A,y,t,j,l,m,o,p,q,r⟩;exact⟨k,g,A,y,t,j,l,m,o,p,λe=>(by rw[a]at e;cases e),q,r⟩
 |true=>
  have v:Rf.Ends (A9 s body):=⟨⟨0,s.size,s.size⟩,sM,rfl⟩;have e:=(zb4 v n).expr a d;simp only at e;subst e;obtain⟨D,E,_,_,_,_,F⟩:=b.cells;obtain⟨z,C,rfl,_⟩:=b.bad a;have G:(0:Int)<=(z:Int):=oM;have f:=bV b
  go_in;go_wp2_with fail;go_ret;exact⟨0,N,nv,i,_,rfl,RK.refl _ _ _ _,Own.refl _ _,znL _,uh f,λ_=>rfl,λ_=>oM,λe=>(by rw[a]at e;cases e)⟩
end
section
open Tw Tw.Rf Go.Proofs.Tryz
open Go.RowKit
variable{N0 i0 N i:Nat}
def Jb(N0 i0:Nat)(st:PS)(N i:Nat):Prop:=i0<=i/\N<=N0+2*(i-i0)/\(st.stuck=false->N+1<=N0+2*(i-i0))
theorem Jb.tok{N0 i0:Nat}{st st':PS}{N i i':Nat}(h:Jb N0 i0 st N i)(hi:i<=i')(b:Mild st st'):Jb N0 i0 st' N i':=by
 obtain⟨d,f,a⟩:=h;exact⟨oM,oM,λe=>by have:=a (b.1 e);omega⟩
theorem Jb.ex{st st':PS}{N' i':Nat}(h:Jb N0 i0 st N i)(hi:i<=i')(g:st.stuck=true->N'=N)(j:st'.stuck=true->N'<=N+2*(i'-i)+1)(b:st'.stuck=false->N'+1<=N+2*(i'-i)):Jb N0 i0 st' N' i':=by
 obtain⟨k,l,f⟩:=h;cases d:st.stuck with
 |true=>
  have:=g d;exact⟨oM,oM,λe=>by have:=b e;omega⟩
 |false=>
  have:=f d;cases a:st'.stuck with
  |true=>have:=j a;exact⟨oM,oM,λe=>(by rw[a]at e;cases e)⟩
  |false=>have:=b a;exact⟨oM,oM,λe=>oM⟩
theorem Jb.fin{st st':PS}(h:Jb N0 i0 st N i)(a:Tw.endS st=some st'):Jb N0 i0 st' N i:=⟨h.1,h.2.1,λe=>h.2.2 (by rw[<-(Aw a).1];exact e)⟩
section
variable {w:World}{nb:Nat}{c:Array Value}{B br bt:Nat}{s:ByteArray}{body:List Tw.Tok}{st:Tw.PS}{N Nq:List Tw.Rf.RN}{tv nv0 nv:Value}{i i0:Nat}{er root:Int}{w':World}
theorem RfTree.of(p:Lex 0 s.data.toList body){t:Tw.T}{x:RN}(k:RK br bt nv0 w w')(o:Own w nv0 nv)(X:RCtx w' B br bt s body st (Nq++[{x with last:=(i:Int)-1,binder:=-1}]) tv nv i er root)(J:Jb N.length i0 st Nq.length i)(G:st.stuck=false->∃Y,Nq=N++Y/\flat (ixF body) (ixT body) t N.length=Y++[{x with last:=ixT body t.to,binder:=-1}]/\i0<i/\N.length+Y.length+2<=N.length+2*(i-i0)/\(∃j,body[i0]?=some j/\j.fr=t.fr)/\∃a,body[i-1]?=some a/\a.to=t.to):
  RfTree w B br bt s body st t N tv nv0 i0 root (.returned (vI Nq.length)) w':=by
 obtain⟨q,v,y⟩:=J;refine⟨_,_,nv,i,er,rfl,k,o,q,X,λ_=>by rw[eA,wB];omega,λl=>?_⟩;obtain⟨Y,b,d,m,r,n,a,e,f⟩:=G l;have g:=congrArg List.length d;rw[Ak,eA,wB]at g;have h:=congrArg List.length b;rw[eA]at h;refine⟨by rw[eA,wB];omega,?_,by rw[g,h];omega,m,n,a,e,f⟩;rw[b,d,<-f,Tm p e,wA,show((i-1:Nat):Int)=(i:Int)-1 by omega]
end
variable{c:Int}{s:ByteArray}{i:Nat}
theorem Tw.Rf.Ko{e:List Tw.Tok}{st:PS}{b:Nat×PS}(k:c≠0)(h:Cv e c st=some b)(m:b.2.stuck=false):b.2.next=st.next+1/\∃tk,e[st.next]?=some tk/\b.1=tk.fr/\tk.sort=c:=by
 unfold Cv at h;obtain⟨n,a,h⟩:=zbE.1 h;split at h
 case isFalse=>cases h
 obtain⟨r,l,h⟩:=zbE.1 h;cases h;obtain⟨d,f,g,j⟩:=Gn k l m;split at a
 ·rw[show n.stuck=true from(Cr a).1]at d;cases d
 ·cases a;exact⟨by simp only[f],r.1,g,rfl,j⟩
theorem zae{body:List Tw.Tok}{st:PS}(d:st.stuck=false)(hi:st.next<=body.length)(b:body.length<=300)(a:c≠0):
  Ar (A9 s body) [c] st=if atS body st.next=c then some (c,{st with next:=st.next+1})else some (0,st):=by
 rw[<-show Ar (A9 s body) [c,c] st=Ar (A9 s body) [c] st from ?_,Lu d hi b a a]
 ·by_cases e:atS body st.next=c<;>simp[e]
 ·simp only[Ar];cases tokS (A9 s body) st with
  |none=>rfl
  |some t=>by_cases e:t.sort=c<;>simp[e]
theorem Jb.start{f:List Tw.Tok}{st:PS}{b:Nat×PS}{N0:Nat}(a:c≠0)(h:Cv f c st=some b)(hi:st.next<=i)(d:b.2.stuck=false->i=b.2.next):Jb N0 st.next b.2 N0 i:=
 ⟨hi,oM,λe=>by have:=(Ko a h e).1;have:=d e;omega⟩
theorem zel{body:List Tw.Tok}(hL:Lex 0 s.data.toList body){n:Nat}(hX:RfEx s body n){w:World}{B br bt:Nat}{st:PS}{N:List RN}{tv nv:Value}{er root:Int}{t:Tw.T}{st':PS}(h:RCtx w B br bt s body st N tv nv i er root)(hs:st.stuck=false)(hN:N.length<=2*i+1000){tk:Tw.Tok}(ht:body[i]?=some tk)(hk:tk.sort=16)(hf:Ba s.data.toList (A9 s body) (n+1) st=some (t,st')):
  Calls prog 231 #[pT br] w (RfTree w B br bt s body st' t N tv nv i root):=by
 obtain⟨hi,rfl⟩:=h.good hs;subst hi;have hlt:st.next<body.length:=(zlE.1 ht).1;have hm:=h.many;have hK:atK body st.next=115:=by unfold atK;rw[ht];simp only[hk];decide
 have hT:atT s.data.toList body st.next=[40]:=(Gf hL ht (c:=16) dZ).2 hk;have HK:=bV hK;have HT:=bV hT;have HS:=bV hs;have HX:=bV h;have HTK:=bV ht;have HEX:Hid (RfEx s body n):=@hX;rw[Ba]at hf;obtain⟨b,hb,hf⟩:=zbE.1 hf;obtain⟨x,hx,hf⟩:=zbE.1 hf;obtain⟨cm,hcm,hf⟩:=zbE.1 hf;have HB:=bV hb;unfold Cv at hb;obtain⟨st1,hst1,hb⟩:=zbE.1 hb;split at hb
 case isFalse=>cases hb
 rename_i hd1;obtain⟨r1,hr1,hb⟩:=zbE.1 hb;cases hb;have HE:=bV hst1;have HR:=bV hr1;have HXX:=bV hx;have HC:=bV hcm;have HF:=bV hf;obtain⟨c0,c1,_,_,_,_,c6⟩:=h.cells;clear hT hK h hs ht hk hX hst1 hr1 hx hcm hf
 go_in;go_wp2_with fail;have S:=bV (RS.new (uh HX) #[vU 0,vI (-1),vI (-1),vI (-1),vI st.next,vI 0,vI 0,vI 0,.bool false]);obtain⟨w1,hw1⟩:∃w1,w.alloc (.cells #[vU 0,vI (-1),vI (-1),vI (-1),vI st.next,vI 0,vI 0,vI 0,.bool false] 276)=w1:=⟨_,rfl⟩;obtain⟨nb,hnb⟩:∃nb,w.heap.size=nb:=⟨_,rfl⟩;rw[hw1,hnb]at S ⊢;clear hw1 hnb c0 c1 c6;refine(Db S.o.x).mono ?_;rintro e1 w2 ⟨rfl,hg⟩;have S2:=bV (S.o.grown hg);rw[uh HK];clear hg S;go_wp2_with fail;refine(Db S2.o.x).mono ?_;rintro e1 w3 ⟨rfl,hg⟩;have S3:=bV (S2.o.grown hg);rw[uh HK];clear hg S2;go_wp2_with fail;refine(Bl S3.o.x).mono ?_;rintro e1 w4 ⟨rfl,hg⟩;have S4:=bV (S3.o.grown hg);rw[uh HT];clear hg S3;simp only[ug];go_wp2_with fail;refine(Bl S4.o.x).mono ?_;rintro e1 w5 ⟨rfl,hg⟩;have S5:=bV (S4.o.grown hg);rw[uh HT];clear hg S4;simp only[ug];go_wp2_with fail;refine(Bl S5.o.x).mono ?_;rintro e1 w6 ⟨rfl,hg⟩;have S6:=bV (S5.o.grown hg);rw[uh HT];clear hg S5;simp only[ug];go_wp2_with fail;refine(Bl S6.o.x).mono ?_;rintro e1 w7 ⟨rfl,hg⟩;have S7:=bV (S6.o.grown hg);rw[uh HT];clear hg S6;simp only[ug];go_wp2_with fail;refine(Bl S7.o.x).mono ?_;rintro e1 w8 ⟨rfl,hg⟩;have S8:=bV (S7.o.grown hg);rw[uh HT];clear hg S7;simp only[ug];go_wp2_with fail;refine(Sn S8.o.x (uh HS) (uh HE)).mono ?_;rintro e1 w9 ⟨rfl,hp⟩;obtain⟨i9,er9,hi9,hS⟩:=S8.o.post hp;have S9:=bV hS;clear hp hS S8;go_wp2_with fail;refine(Gg hL S9.o.x (c:=16) dZ (uh HR) rfl).mono ?_;rintro e1 w10 ⟨rfl,hp⟩;obtain⟨i10,er10,hi10,hS⟩:=S9.o.post hp;have S10:=bV hS;clear hp hS S9;go_wp2_with fail;refine(uh HEX S10.o.x oM (uh HXX)).mono ?_;rintro e1 w11 ⟨k11,N11,nv11,i11,er11,rfl,hk,ho,hi11,hx,hc1,hc2,hc3⟩;have S11:=bV (S10.o.next hk ho hx);have J10:Jb N.length st.next r1.2 N.length i10:=Jb.start dZ (uh HB) oM (λe=>(S10.o.x.good e).1);have J11:=bV (J10.ex hi11 hc1 hc2 (λe=>(hc3 e).1));have F10:Hid (r1.2.stuck=false->i10=st.next+1/\r1.1.fr=tk.fr):=bV λe=>by
  obtain⟨q1,q2,q3,q4,_⟩:=Ko dZ (uh HB) e;refine⟨by rw[(S10.o.x.good e).1,q1],?_⟩;rw[iA hlt,uh HTK]at q3;cases q3;exact q4
 have C3:=bV hc3;have MX:=bV ((Bw _ _ n).expr (t:=x.1) (st':=x.2) (uh HXX));clear hk ho hx hc1 hc2 hc3 S10 J10;have S12:=bV (S11.o.set 0 (vU 103));have S13:=bV (S12.o.set 1 (vI k11));have z0:=S11.o.cell (j:=0) rfl;have y0:=S11.o.frozen 0;have z1:=S12.o.cell (j:=1) rfl;have y1:=S12.o.frozen 1;have hE:Rf.Ends (A9 s body):=⟨⟨0,s.size,s.size⟩,sM,rfl⟩;obtain⟨c0,c1,_,_,_,_,c6⟩:=S13.o.x.cells;have ways:x.2.stuck=true\/(x.2.stuck=false/\atS body i11≠18)\/(x.2.stuck=false/\atS body i11=18):=by
  cases x.2.stuck
  ·by_cases e:atS body i11=18
   ·exact .inr (.inr ⟨rfl,e⟩)
   ·exact .inr (.inl ⟨rfl,e⟩)
  ·exact .inl rfl
 rcases ways with hw|⟨hw,he⟩|⟨hw,he⟩
 case' inl=>
  have hcm:=uh HC;rw[Hn hE hw _ sM]at hcm;cases hcm;have hf:=uh HF;rw[jA (show¬(0:Int)=18 by decide)]at hf;obtain⟨rr,hr,hf⟩:=zbE.1 hf;obtain⟨se,he,hf⟩:=zbE.1 hf;cases hf;obtain⟨j,_,rfl,_⟩:=S13.o.x.bad hw;have hji:¬(j:Int)<0:=oM;have HM:=bV hr;have HEN:=bV he;have GQ:Hid (rr.2.stuck=false->∃Y,N11=N++Y/\flat (ixF body) (ixT body) (.bracket r1.1.fr rr.1.to x.1) N.length=Y++[⟨103,k11,-1,-1,st.next,ixT body rr.1.to,0,-1⟩]/\N.length+Y.length+1<=N.length+2*(i11-st.next)/\r1.1.fr=tk.fr):=bV λe=>(by rw[(Ah (t:=rr.1) (st':=rr.2) hr).1 e]at hw;cases hw);have SQ:=S13;have JQ:=J11;clear hr he hw S13 J11;go_wp2_with fail
 case' inr.inl=>
  obtain⟨q0,rfl⟩:=S13.o.x.good hw;have hcm:=uh HC;rw[zae hw (by rw[<-q0];exact S13.o.x.ile) hm dZ,<-q0,jA he]at hcm;cases hcm;have hf:=uh HF;rw[jA (show¬(0:Int)=18 by decide)]at hf;obtain⟨rr,hr,hf⟩:=zbE.1 hf;obtain⟨se,he',hf⟩:=zbE.1 hf;cases hf;have n1:(atT s.data.toList body i11 == [44])=false:=by rw[show([44]:List UInt8)=De 18 by decide];simpa using λe=>he ((Ct hL i11 (c:=18) dZ).1 e)
  have HM:=bV hr;have HEN:=bV he';have GQ:Hid (rr.2.stuck=false->∃Y,N11=N++Y/\flat (ixF body) (ixT body) (.bracket r1.1.fr rr.1.to x.1) N.length=Y++[⟨103,k11,-1,-1,st.next,ixT body rr.1.to,0,-1⟩]/\N.length+Y.length+1<=N.length+2*(i11-st.next)/\r1.1.fr=tk.fr):=bV λ_=>by
   obtain⟨g1,g2,g3,g4,_⟩:=C3.o hw;obtain⟨f1,f2⟩:=F10.o (MX.o.1 hw);have hl:=congrArg List.length g2;rw[eA]at hl;refine⟨_,g2,?_,oM,f2⟩;rw[flat,f2,Ds hL (uh HTK),g3]
  clear hr he he' hw q0;go_wp2_with fail;refine(Bl S13.o.x).mono ?_;rintro e1 w14 ⟨rfl,hg⟩;have SQ:=bV (S13.o.grown hg);have JQ:=J11;clear hg S13 c0 c1 c6 z0 z1 y0 y1 S12 S11 J11;simp only[ug];go_wp2_with fail
 case' inr.inr=>
  obtain⟨q0,rfl⟩:=S13.o.x.good hw;have hcm:=uh HC;rw[zae hw (by rw[<-q0];exact S13.o.x.ile) hm dZ,<-q0,mA he]at hcm;cases hcm;have hf:=uh HF;rw[mA rfl]at hf;obtain⟨y,hy,hf⟩:=zbE.1 hf;obtain⟨rr,hr,hf⟩:=zbE.1 hf;obtain⟨se,he',hf⟩:=zbE.1 hf;cases hf;have n1:Hid (atT s.data.toList body i11=[44]):=bV ((Ct hL i11 (c:=18) dZ).2 he);have hlt2:i11<body.length:=by
   rcases yB i11 body.length with h1|h1
   ·exact h1
   ·unfold atS at he;rw[gD h1]at he;cases he
  have HM:=bV hr;have HEN:=bV he';have HY:=bV hy;have HW:=bV hw;have Q0:=bV q0;clear hr he he' hw hy q0;go_wp2_with fail;refine(Bl S13.o.x).mono ?_;rintro e1 w14 ⟨rfl,hg⟩;have S14:=bV (S13.o.grown hg);have S15:=bV (S14.o.setI (uh HW) hlt2);have S16:=bV (S15.o.set 0 (vU 44));clear hg S13 c0 c1 c6 z0 z1 y0 y1 S12 S11;rw[uh n1];simp only[ug];obtain⟨c0,c1,_,_,_,_,_⟩:=S14.o.x.cells;obtain⟨f1,_,_,_⟩:=S14.o.x.frozen;have z0:=S15.o.cell (j:=0) rfl;have y0:=S15.o.frozen 0;rw[<-uh Q0]at S15 S16;go_wp2_with fail;have J11':=J11.o;refine(uh HEX S16.o.x (by have:=J11'.2.1;omega) (uh HY)).mono ?_;rintro e1 w17 ⟨k17,N17,nv17,i17,er17,rfl,hk,ho,hi17,hx,hc1,hc2,hc3⟩;have S17:=bV (S16.o.next hk ho hx);have JQ:=bV ((J11'.tok (st':={x.2 with next:=i11+1}) (i':=i11+1) oM ⟨id,rfl⟩).ex hi17 hc1 hc2 (λe=>(hc3 e).1));have GQ:Hid (rr.2.stuck=false->∃Y,N17=N++Y/\flat (ixF body) (ixT body) (.pair r1.1.fr rr.1.to x.1 y.1) N.length=Y++[⟨44,k11,k17,-1,st.next,ixT body rr.1.to,0,-1⟩]/\N.length+Y.length+1<=N.length+2*(i17-st.next)/\r1.1.fr=tk.fr):=bV λe=>by
   obtain⟨g1,g2,g3,g4,_⟩:=C3.o (uh HW);obtain⟨f1,f2⟩:=F10.o (MX.o.1 (uh HW));obtain⟨k1,k2,k3,k4,_⟩:=hc3 ((Ah (t:=rr.1) (st':=rr.2) (uh HM)).1 e);have hl:=congrArg List.length g2;have hl2:=congrArg List.length k2;rw[eA]at hl hl2;rw[Ak]at hl hl2;refine⟨flat (ixF body) (ixT body) x.1 N.length++flat (ixF body) (ixT body) y.1 (N.length+Rf.T.sz x.1),?_,?_,?_,f2⟩
   ·rw[k2,hl];conv=>lhs;rw[g2]
    rw[wA]
   ·rw[flat,f2,Ds hL (uh HTK),g3,k3,hl]
   ·rw[eA,Ak,Ak];omega
  have SQ:=bV (S17.o.set 2 (vI k17));have z2:=S17.o.cell (j:=2) rfl;have y2:=S17.o.frozen 2;clear hk ho hx hc1 hc2 hc3 S14 S15 S16 c0 c1 f1 z0 y0 J11 J11';go_wp2_with fail
 all_goals as_aux_lemma=>
  refine(Gg hL SQ.o.x (c:=17) dZ (uh HM) rfl).mono ?_;rintro e1 wr ⟨rfl,hp⟩;obtain⟨ir,err,hir,hS⟩:=SQ.o.post hp;have SR:=bV hS;have SD:=bV (SR.o.setD (uh HEN));have hdp:=SR.o.x.dep;have hdz:st'.depth+1=rr.2.depth:=(Aw (uh HEN)).2.symm;obtain⟨a0,_,a2,_,_,_,_⟩:=SR.o.x.cells;obtain⟨_,b2,_,_⟩:=SR.o.x.frozen;have d0:=SD.o.cell (j:=0) rfl;have d1:=SD.o.cell (j:=1) rfl;have d2:=SD.o.cell (j:=2) rfl;have d3:=SD.o.cell (j:=3) rfl;have d4:=SD.o.cell (j:=4) rfl;have d5:=SD.o.cell (j:=5) rfl;have d6:=SD.o.cell (j:=6) rfl;have d7:=SD.o.cell (j:=7) rfl;have d8:=SD.o.cell (j:=8) rfl;have hqi:=SQ.o.x.ile;have hqj:=JQ.o.2.1;have hNb:N.length<=2*st.next+1000:=hN;clear hp hS a0;obtain⟨a0,_,a2,_,_,_,_⟩:=SR.o.x.cells;go_wp2_with fail;have hRN:=kB hqj (show _<=5000 by omega)
  first
   |refine(Dy SD.o.x hRN ⟨44,k11,k17,-1,st.next,0,0,0⟩ 0 0).mono ?_
   |refine(Dy SD.o.x hRN ⟨103,k11,-1,-1,st.next,0,0,0⟩ 0 0).mono ?_
  rintro e1 we ⟨rfl,hk,nve,ho,hx⟩;have KE:=bV (SD.o.k.trans hk SD.o.o);have OE:=bV (SD.o.o.trans ho SD.o.k.size);have XE:=bV hx;clear hk ho hx d0 d1 d2 d3 d4 d5 d6 d7 d8 a0 a2 b2;go_wp2_with fail;go_ret
  first
   |refine RfTree.of hL (x:=⟨44,k11,k17,-1,st.next,0,0,0⟩) (uh KE) (uh OE) (uh XE) ((JQ.o.tok hir (Ah (t:=rr.1) (st':=rr.2) (uh HM))).fin (uh HEN)) (λe=>?_)
   |refine RfTree.of hL (x:=⟨103,k11,-1,-1,st.next,0,0,0⟩) (uh KE) (uh OE) (uh XE) ((JQ.o.tok hir (Ah (t:=rr.1) (st':=rr.2) (uh HM))).fin (uh HEN)) (λe=>?_)
  have e2:rr.2.stuck=false:=by rw[<-(Aw (uh HEN)).1];exact e
  obtain⟨g0,g1,g2,g3⟩:=Gn dZ (uh HM) e2;have g4:=Jp g2 (by rw[g3];decide);have g5:=(SQ.o.x.good g0).1;have g6:=(SR.o.x.good e2).1;rw[g1]at g6;dsimp only at g6;obtain⟨Y,y1,y2,y3,y4⟩:=GQ.o e2;have j1:=JQ.o.1;refine⟨Y,y1,y2,oM,oM,⟨tk,uh HTK,y4.symm⟩,rr.1,?_,rfl⟩;rw[<-g4];congr 1;omega
end
end Go.Proofs.YtckhafpejefbbaaGreatDoor
namespace Go.Proofs.YtckhafpejefbbaaGreatDoor.Tw.Rf
section
open Go Go.Proofs.YtckhafpejefbbaaGreatDoor.Tw
variable{S:Nat->Prop}{t:T}{a:Int}
abbrev Sc:=List (List UInt8×Nat)
def Dl:Sc->List UInt8->Int
 |[],_=>-1
 |(y,j)::e,x=>if y=x then(j:Int)else Dl e x
def fill(f g:Nat->Nat):T->Nat->Sc->List RN
 |.name fr _ x,_,e=>[⟨120,-1,-1,-1,f fr,f fr,0,Dl e x⟩]
 |.int fr _ _,_,_=>[⟨105,-1,-1,-1,f fr,f fr,0,-1⟩]
 |.truth fr _ b,_,_=>[⟨if b then 116 else 102,-1,-1,-1,f fr,f fr,0,-1⟩]
 |.side fr _ b,_,_=>[⟨if b then 50 else 49,-1,-1,-1,f fr,f fr,0,-1⟩]
 |.bracket fr to i,k,e=>fill f g i k e++[⟨103,(k+T.sz i-1:Nat),-1,-1,f fr,g to,0,-1⟩]
 |.pair fr to l r,k,e=>fill f g l k e++fill f g r (k+T.sz l) e++[⟨44,(k+T.sz l-1:Nat),(k+T.sz l+T.sz r-1:Nat),-1,f fr,g to,0,-1⟩]
 |.call fr to l r,k,e=>fill f g l k e++fill f g r (k+T.sz l) e++[⟨97,(k+T.sz l-1:Nat),(k+T.sz l+T.sz r-1:Nat),-1,f fr,g to,0,-1⟩]
 |.binary fr to s l r,k,e=>fill f g l k e++fill f g r (k+T.sz l) e++[⟨Hd s,(k+T.sz l-1:Nat),(k+T.sz l+T.sz r-1:Nat),-1,f fr,g to,0,-1⟩]
 |.cond fr to c t d,k,e=>fill f g c k e++fill f g t (k+T.sz c) e++fill f g d (k+T.sz c+T.sz t) e++[⟨73,(k+T.sz c-1:Nat),(k+T.sz c+T.sz t-1:Nat),(k+T.sz c+T.sz t+T.sz d-1:Nat),f fr,g to,0,-1⟩]
 |.fn fr to bn bat b,k,e=>fill f g b k ((bn,k+T.sz b)::e)++[⟨70,(k+T.sz b-1:Nat),-1,-1,f fr,g to,f bat,-1⟩]
 |.lett fr to rc bn bat d b,k,e=>fill f g d k (if rc then(bn,k+T.sz d+T.sz b)::e else e)++fill f g b (k+T.sz d) ((bn,k+T.sz d+T.sz b)::e)++[⟨if rc then 114 else 108,(k+T.sz d-1:Nat),(k+T.sz d+T.sz b-1:Nat),-1,f fr,g to,f bat,-1⟩]
theorem Af(f g:Nat->Nat):∀(t:T) (k:Nat) (e:Sc),(fill f g t k e).length=T.sz t
 |.name ..,_,_|.int ..,_,_|.truth ..,_,_|.side ..,_,_=>rfl
 |.bracket _ _ i,k,e=>by simp[fill,T.sz,Af f g i]
 |.pair _ _ l r,k,e|.call _ _ l r,k,e|.binary _ _ _ l r,k,e=>by simp[fill,T.sz,Af f g l,Af f g r];omega
 |.cond _ _ c t d,k,e=>by simp[fill,T.sz,Af f g c,Af f g t,Af f g d];omega
 |.fn _ _ _ _ b,k,e=>by simp[fill,T.sz,Af f g b]
 |.lett _ _ _ _ _ d b,k,e=>by simp[fill,T.sz,Af f g d,Af f g b];omega
def WP(S:Nat->Prop):T->Prop
 |.name fr to _=>S fr/\fr<to
 |.int fr to _=>S fr/\fr<to
 |.truth fr to _=>S fr/\fr<to
 |.side fr to _=>S fr/\fr<to
 |.bracket fr to i=>S fr/\fr<=i.fr/\i.to<=to/\WP S i
 |.pair fr to l r=>S fr/\fr<=l.fr/\l.to<=r.fr/\r.to<=to/\WP S l/\WP S r
 |.call fr to l r=>S fr/\fr<=l.fr/\l.to<=r.fr/\r.to<=to/\WP S l/\WP S r
 |.binary fr to _ l r=>S fr/\fr<=l.fr/\l.to<=r.fr/\r.to<=to/\WP S l/\WP S r
 |.cond fr to c t d=>S fr/\fr<=c.fr/\c.to<=t.fr/\t.to<=d.fr/\d.to<=to/\WP S c/\WP S t/\WP S d
 |.fn fr to _ bat b=>S fr/\S bat/\fr<=bat/\bat<b.fr/\b.to<=to/\WP S b
 |.lett fr to _ _ bat d b=>S fr/\S bat/\fr<=bat/\bat<d.fr/\d.to<=b.fr/\b.to<=to/\WP S d/\WP S b
theorem WP.at(h:WP S t):S t.fr:=by cases t<;>exact h.1
theorem WP.lt{S:Nat->Prop}:∀ {t:T},WP S t->t.fr<t.to
 |.name ..,h|.int ..,h|.truth ..,h|.side ..,h=>h.2
 |.bracket _ _ i,h=>by have:=WP.lt h.2.2.2;have g:=h.2.1;have j:=h.2.2.1;simp only[T.fr,T.to]at *;omega
 |.pair _ _ l r,h|.call _ _ l r,h|.binary _ _ _ l r,h=>by
  obtain⟨_,g,j,k,e,f⟩:=h
  have:=WP.lt e;have:=WP.lt f;simp only[T.fr,T.to]at *;omega
 |.cond _ _ c t d,h=>by
  obtain⟨_,g,j,k,e,f,m,n⟩:=h
  have:=WP.lt f;have:=WP.lt m;have:=WP.lt n;simp only[T.fr,T.to]at *;omega
 |.fn _ _ _ _ b,h=>by
  obtain⟨_,_,g,j,k,e⟩:=h
  have:=WP.lt e;simp only[T.fr,T.to]at *;omega
 |.lett _ _ _ _ _ d b,h=>by
  obtain⟨_,_,g,j,k,e,f,m⟩:=h
  have:=WP.lt f;have:=WP.lt m;simp only[T.fr,T.to]at *;omega
def Row(p:Nat):List Tok->Prop
 |[]=>True
 |t::ws=>p<=t.fr/\t.fr<t.to/\Row t.to ws
def Ey(p:Nat):List Tok->Nat
 |[]=>p
 |t::ws=>Ey t.to ws
theorem Hg{p:Nat}:∀ {a b:List Tok},Row p (a++b)↔Row p a/\Row (Ey p a) b
 |[],b=>by simp[Row,Ey]
 |t::a,b=>by
  simp only[pD,Row,Ey,Hg (p:=t.to) (a:=a)];exact⟨λ⟨c,d,e,f⟩=>⟨⟨c,d,e⟩,f⟩,λ⟨⟨c,d,e⟩,f⟩=>⟨c,d,e,f⟩⟩
theorem Fg{p:Nat}:∀ {a b:List Tok},Ey p (a++b)=Ey (Ey p a) b
 |[],_=>rfl
 |t::a,_=>Fg (p:=t.to) (a:=a)
theorem zjy{p:Nat}:∀ {a:List Tok},Row p a->p<=Ey p a
 |[],_=>znL _
 |t::a,h=>by have:=zjy h.2.2;have:=h.1;have:=h.2.1;simp only[Ey];omega
def GP(S:Nat->Prop)(k:GK)(b:List Tok)(t:T):Prop:=
 ∀p,Row p b->(∀w∈b,S w.fr)->match k with
  |.chF _ _ a=>WP S a->a.to<=p->WP S t/\t.fr=a.fr/\t.to<=Ey p b
  |.caF a=>WP S a->a.to<=p->WP S t/\t.fr=a.fr/\t.to<=Ey p b
  |_=>WP S t/\p<=t.fr/\t.to<=Ey p b
theorem zmv(S:Nat->Prop){l:List UInt8}{k:GK}{ws:List Tok}(h:G l k ws t):GP S k ws t:=by
 induction h with
 |@lett tl tn te ti rcs ds bs rc d b hl hrc hn he hi hp D B iD iB=>
  intro p hr hs;obtain⟨h1,h2,h3⟩:=hr;obtain⟨h3,h4⟩:=Hg.1 h3;obtain⟨h4,h5,h6,h7,h8⟩:=h4;obtain⟨h8,h9,h10,h11⟩:=Hg.1 h8
  have:=zjy h3;obtain⟨a1,a2,a3⟩:=iD _ h8 (λw hw=>hs w (by simp[hw]));obtain⟨b1,b2,b3⟩:=iB _ h11 (λw hw=>hs w (by simp[hw]));simp only[Ey,Fg];refine⟨⟨hs _ sM,hs tn sM,?_,?_,?_,znL _,a1,b1⟩,h1,b3⟩<;>omega
 |@fn tl tn ta bs b hl hn ha hp B iB=>
  intro p hr hs;obtain⟨h1,h2,h3,h4,h5,h6,h7⟩:=hr;obtain⟨b1,b2,b3⟩:=iB _ h7 (λw hw=>hs w (by simp[hw]));simp only[Ey];refine⟨⟨hs _ sM,hs tn sM,?_,?_,znL _,b1⟩,h1,b3⟩<;>omega
 |@cond tl t1 t2 cs xs ys c x y hl h1 h2 C X Y iC iX iY=>
  intro p hr hs;obtain⟨h1,h2,h3⟩:=hr;obtain⟨h3,h4,h5,h6⟩:=Hg.1 h3;obtain⟨h6,h7,h8,h9⟩:=Hg.1 h6;obtain⟨a1,a2,a3⟩:=iC _ h3 (λw hw=>hs w (by simp[hw]));obtain⟨b1,b2,b3⟩:=iX _ h6 (λw hw=>hs w (by simp[hw]));obtain⟨c1,c2,c3⟩:=iY _ h9 (λw hw=>hs w (by simp[hw]));simp only[Ey,Fg];refine⟨⟨hs _ sM,?_,?_,?_,znL _,a1,b1,c1⟩,h1,c3⟩<;>omega
 |ecmp h ih=>exact ih
 |cmp1 h ih=>exact ih
 |@cmp2 w1 w2 sg x y X hs Y iX iY=>
  intro p hr hs;obtain⟨h1,h2,h3,h4⟩:=Hg.1 hr;obtain⟨a1,a2,a3⟩:=iX _ h1 (λw hw=>hs w (by simp[hw]));obtain⟨b1,b2,b3⟩:=iY _ h4 (λw hw=>hs w (by simp[hw]));simp only[Ey,Fg];refine⟨⟨a1.at,znL _,?_,znL _,a1,b1⟩,a2,b3⟩;omega
 |@sum w1 w2 x t X C iX iC|@term w1 w2 x t X C iX iC|@call w1 w2 x t X C iX iC=>
  intro p hr hs;obtain⟨h1,h2⟩:=Hg.1 hr;obtain⟨a1,a2,a3⟩:=iX _ h1 (λw hw=>hs w (by simp[hw]));obtain⟨b1,b2,b3⟩:=iC _ h2 (λw hw=>hs w (by simp[hw])) a1 a3;rw[Fg];exact⟨b1,by rw[b2];exact a2,b3⟩
 |chN=>exact λp _ _ ha hp=>⟨ha,rfl,hp⟩
 |@chC q g a sg w1 w2 y t hs Y C iY iC=>
  intro p hr hS ha hp;obtain⟨h1,h2,h3⟩:=hr;obtain⟨h3,h4⟩:=Hg.1 h3;have iY':WP S y/\sg.to<=y.fr/\y.to<=Ey sg.to w1:=by
   have:=iY _ h3 (λw hw=>hS w (by simp[hw]));cases q<;>exact this
  obtain⟨a1,a2,a3⟩:=iY';obtain⟨b1,b2,b3⟩:=iC _ h4 (λw hw=>hS w (by simp[hw])) ⟨ha.at,znL _,oM,znL _,ha,a1⟩ a3;simp only[Ey,Fg];exact⟨b1,b2,b3⟩
 |caN=>exact λp _ _ ha hp=>⟨ha,rfl,hp⟩
 |@caC a w1 w2 y t Y C iY iC=>
  intro p hr hS ha hp;obtain⟨h3,h4⟩:=Hg.1 hr;obtain⟨a1,a2,a3⟩:=iY _ h3 (λw hw=>hS w (by simp[hw]));obtain⟨b1,b2,b3⟩:=iC _ h4 (λw hw=>hS w (by simp[hw])) ⟨ha.at,znL _,oM,znL _,ha,a1⟩ a3;rw[Fg];exact⟨b1,b2,b3⟩
 |@leaf tk x hb h16 h=>
  intro p hr hs;obtain⟨h1,h2,_⟩:=hr;have hS:=hs tk sM;unfold Ks at h;simp only[Ey]
  repeat' split at h
  all_goals first|(cases h;exact⟨⟨hS,h2⟩,h1,znL _⟩)|(obtain⟨v,_,h⟩:=zbE.1 h;cases h;exact⟨⟨hS,h2⟩,h1,znL _⟩)|cases h
 |@bracket ta tc ws x ha hc X iX=>
  intro p hr hs;obtain⟨h1,h2,h3⟩:=hr;obtain⟨h3,h4,h5,_⟩:=Hg.1 h3;obtain⟨a1,a2,a3⟩:=iX _ h3 (λw hw=>hs w (by simp[hw]));simp only[Ey,Fg];refine⟨⟨hs _ sM,?_,?_,a1⟩,h1,znL _⟩<;>omega
 |@pair ta tm tc w1 w2 x y ha hm hc X Y iX iY=>
  intro p hr hs;obtain⟨h1,h2,h3⟩:=hr;obtain⟨h3,h4,h5,h6⟩:=Hg.1 h3;obtain⟨h6,h7,h8,_⟩:=Hg.1 h6;obtain⟨a1,a2,a3⟩:=iX _ h3 (λw hw=>hs w (by simp[hw]));obtain⟨b1,b2,b3⟩:=iY _ h6 (λw hw=>hs w (by simp[hw]));simp only[Ey,Fg];refine⟨⟨hs _ sM,?_,?_,?_,a1,b1⟩,h1,znL _⟩<;>omega
def Hj(pl:Nat->Int):List RN->Int->Int
 |[],a=>a
 |n::N,a=>Hj pl N (if n.sort=120/\n.binder<0/\(a<0\/pl n.first<a)then pl n.first else a)
theorem E7{pl:Nat->Int}:∀ {A B:List RN} {a:Int},Hj pl (A++B) a=Hj pl B (Hj pl A a)
 |[],_,_=>rfl
 |_::A,_,_=>E7 (A:=A)
theorem Mp{pl:Nat->Int}{n:RN}(h:n.sort≠120):Hj pl [n] a=a:=by simp[Hj,h]
def orAt(a:Int)(o:Option Nat):Int:=if a<0 then(match o with|some p=>(p:Int)|none=>a)else a
theorem Vf(a:Int)(b c:Option Nat):orAt (orAt a b) c=orAt a (b.or c):=by
 unfold orAt;by_cases h:a<0
 ·cases b with
  |none=>simp[h]
  |some p=>simp[h];omega
 ·simp[h]
theorem Wn:∀(e:Sc) (x:List UInt8),Dl e x<0↔(e.map (·.1)).contains x=false
 |[],x=>by simp[Dl]
 |(y,j)::e,x=>by
  have:=Wn e x;unfold Dl;by_cases h:y=x
  ·subst h;simp
  ·rw[jA h,this];simp;exact λ_ b=>h b.symm
theorem So (s:Int):Hd s≠120:=by
 unfold Hd
 repeat' split
 all_goals decide
theorem Iy{S:Nat->Prop}:∀ {t:T} {E:List (List UInt8)} {p:Nat},WP S t->t.freeS E=some p->t.fr<=p/\p<t.to
 |.name fr to x,E,p,h,e=>by
  simp only[T.freeS]at e;split at e
  ·cases e
  ·cases e;exact⟨znL _,h.2⟩
 |.int ..,_,_,_,e|.truth ..,_,_,_,e|.side ..,_,_,_,e=>by cases e
 |.bracket _ _ i,E,p,h,e=>by have:=Iy h.2.2.2 e;have k:=h.2.1;have m:=h.2.2.1;simp only[T.fr,T.to];omega
 |.pair _ _ l r,E,p,h,e|.call _ _ l r,E,p,h,e|.binary _ _ _ l r,E,p,h,e=>by
  obtain⟨_,k,m,n,g,f⟩:=h
  have:=WP.lt g;have:=WP.lt f;simp only[T.freeS,Option.or_eq_some_iff]at e;simp only[T.fr,T.to];rcases e with e|⟨_,e⟩
  ·have:=Iy g e;omega
  ·have:=Iy f e;omega
 |.cond _ _ c t d,E,p,h,e=>by
  obtain⟨_,k,m,n,g,f,j,o⟩:=h
  have:=WP.lt f;have:=WP.lt j;have:=WP.lt o;simp only[T.freeS,Option.or_eq_some_iff]at e;simp only[T.fr,T.to];rcases e with(e|⟨_,e⟩)|⟨_,e⟩
  ·have:=Iy f e;omega
  ·have:=Iy j e;omega
  ·have:=Iy o e;omega
 |.fn _ _ _ _ b,E,p,h,e=>by
  obtain⟨_,_,k,m,n,g⟩:=h
  have:=WP.lt g
  have:=Iy g e;simp only[T.fr,T.to];omega
 |.lett _ _ _ _ _ d b,E,p,h,e=>by
  obtain⟨_,_,k,m,n,g,f,j⟩:=h
  have:=WP.lt f;have:=WP.lt j;simp only[T.freeS,Option.or_eq_some_iff]at e;simp only[T.fr,T.to];rcases e with e|⟨_,e⟩
  ·have:=Iy f e;omega
  ·have:=Iy j e;omega
theorem Vg{E:List (List UInt8)}(h:WP S t)(c:a<0\/a<=t.fr):orAt a (t.freeS E)<0\/orAt a (t.freeS E)<=t.to:=by
 have:=WP.lt h;unfold orAt;split
 ·split
  ·rename_i b;have:=Iy h b;omega
  ·left;assumption
 ·right;omega
theorem Ew{S:Nat->Prop}{f g:Nat->Nat}{pl:Nat->Int}(j:∀p,S p->pl (f p)=p):∀ {t:T} {k:Nat} {e:Sc} {a:Int},WP S t->(a<0\/a<=t.fr)->Hj pl (fill f g t k e) a=orAt a (t.freeS (e.map (·.1)))
 |.name fr to x,k,e,a,h,ha=>by
  have n:=j _ h.1;have o:=Wn e x;simp only[fill,Hj,T.freeS,orAt,n,true_and];simp only[T.fr]at ha;by_cases v:(e.map (·.1)).contains x=true
  ·rw[mA v,jA (by rw[o,v];simp)];simp
  ·have C:Dl e x<0:=(by rw[o];simpa using v);rw[jA v];by_cases z:a<0
   ·simp[z,C]
   ·rw[jA z,jA oM]
 |.int ..,_,_,_,_,_|.truth _ _ true,_,_,_,_,_|.truth _ _ false,_,_,_,_,_|.side _ _ true,_,_,_,_,_|.side _ _ false,_,_,_,_,_=>by simp[fill,Hj,T.freeS,orAt]
 |.bracket fr to i,k,e,a,h,ha=>by
  have n:=h.2.1;simp only[T.fr]at ha;rw[fill,E7,Mp (by dsimp only;decide),Ew j h.2.2.2 oM];rfl
 |.pair fr to l r,k,e,a,h,ha|.call fr to l r,k,e,a,h,ha|.binary fr to sg l r,k,e,a,h,ha=>by
  obtain⟨_,n,o,w,q,m⟩:=h;simp only[T.fr]at ha;have A:=Vg (E:=e.map (·.1)) (a:=a) q oM;rw[fill,E7,Mp (by dsimp only;first|decide|exact So _),E7,Ew j q oM,Ew j m oM,Vf];rfl
 |.cond fr to c t d,k,e,a,h,ha=>by
  obtain⟨_,n,o,w,q,m,s,B⟩:=h;simp only[T.fr]at ha;have A:=Vg (E:=e.map (·.1)) (a:=a) m oM;have D:=Vg (E:=e.map (·.1)) (a:=orAt a (c.freeS (e.map (·.1)))) s oM;rw[fill,E7,Mp (by dsimp only;decide),E7,E7,Ew j m oM,Ew j s oM,Ew j B oM,Vf,Vf,T.freeS,Option.or_assoc]
 |.fn fr to bn bat b,k,e,a,h,ha=>by
  obtain⟨_,_,n,o,w,q⟩:=h;simp only[T.fr]at ha;rw[fill,E7,Mp (by dsimp only;decide),Ew j q oM];rfl
 |.lett fr to rc bn bat d b,k,e,a,h,ha=>by
  obtain⟨_,_,n,o,w,q,m,s⟩:=h;simp only[T.fr]at ha;have y:((if rc then(bn,k+T.sz d+T.sz b)::e else e).map (·.1):List (List UInt8))=if rc then bn::e.map (·.1)else e.map (·.1):=by cases rc<;>rfl
  have A:=Vg (E:=if rc then bn::e.map (·.1)else e.map (·.1)) (a:=a) m oM;rw[fill,E7,Mp (by cases rc<;>dsimp only<;>decide),E7,Ew j m oM,Ew j s (by rw[y];omega),y,Vf];rfl
end
end Go.Proofs.YtckhafpejefbbaaGreatDoor.Tw.Rf
namespace Go.Proofs.YtckhafpejefbbaaGreatDoor
section
open Tw Tw.Rf
open Go.RowKit
theorem zlk{s:ByteArray}{body:List Tw.Tok}(d:Lex 0 s.data.toList body){n:Nat}(v:∀m,m<=n->RfEx s body m):RfSaid 231 (Cs s.data.toList (A9 s body) (n+1)) s body:=by
 intro P B C D g N O I H E root M L h c t b;obtain⟨x,rfl⟩:=h.good c;subst x;have F:=h.ile;have G:=h.many;rw[Cs]at b;obtain⟨tk,r,b⟩:=zbE.1 b;have f:(A9 s body)[g.next]?=some tk:=by simpa[tokS,c]using r
 have w:atS body g.next=tk.sort:=by
  unfold atS;rcases yB g.next body.length with i|i
  ·rw[iA i]at f;rw[f]
  ·rw[fB i,show g.next-body.length=0 by omega]at f;simp at f;rw[gD i,<-f]
 split at b
 ·rename_i o;cases n with
  |zero=>cases b
  |succ n=>exact zel d (v n oM) h c t (Jp f (by rw[o];decide)) o b
 ·rename_i o;split at b
  ·rename_i k;obtain⟨z,p,b⟩:=zbE.1 b;obtain⟨Q,a,b⟩:=zbE.1 b;cases b;have q:tk.sort≠0:=(by intro e;rw[e]at k;revert k;decide);have l:=Jp f q;have j:N.length<=4000:=oM;have y:z.2={g with next:=g.next+1}:=by
    unfold Tw.Au at p;rw[r,zbS,mA rfl]at p;rw[jA q,mA (show g.next<=300 by omega)]at p;cases p;rfl
   rw[y];simp only[Aj,fE]at k;rcases k with e|e|e|e|e|e|e
   ·simp[Ks,e]at a;obtain⟨_,rfl⟩:=a;exact zab d h c j l e
   ·simp[Ks,e]at a;obtain⟨_,a⟩:=a;obtain⟨A,_,a⟩:=zbE.1 a;cases a;exact zb6 d h c j l e A
   ·simp[Ks,e]at a;subst a;exact zac d h c j l e
   ·simp[Ks,e]at a;subst a;exact X7 d h c j l e
   ·simp[Ks,e]at a;subst a;exact zb7 d h c j l e
   ·simp[Ks,e]at a;subst a;exact zb8 d h c j l e
   ·exact absurd e o
  ·rename_i k;obtain⟨J,i,b⟩:=zbE.1 b;cases b;exact zad d h c (by rw[w];simpa using k) i _
end
section
open Tw Tw.Rf Go.Proofs.Tryz
open Go.RowKit
theorem Tw.Rf.Ut{l:List UInt8}{a:List Tw.Tok}{st:PS}{b:(List UInt8×Nat)×PS}(h:Tw.Ci l a st=some b):∃r,Tw.Au a 1 st=some r/\b=((Bf l r.1.fr r.1.to,r.1.fr),r.2):=by
 unfold Tw.Ci at h;obtain⟨r,c,h⟩:=zbE.1 h;split at h
 ·cases h;exact⟨r,c,rfl⟩
 ·cases h
theorem Tw.Rf.Pe{d:List Tw.Tok}{st:PS}{c:Int}{b:Nat×PS}(h:Cv d c st=some b):∃a r,(if st.depth=40 then Fb d st else some st)=some a/\Tw.Au d c {a with depth:=a.depth+1}=some r/\b=(r.1.fr,r.2):=by
 unfold Cv at h;obtain⟨a,e,h⟩:=zbE.1 h;split at h
 ·obtain⟨r,f,h⟩:=zbE.1 h;cases h;exact⟨a,r,e,f,rfl⟩
 ·cases h
theorem zmw{s:ByteArray}{body:List Tw.Tok}(hL:Lex 0 s.data.toList body){n:Nat}(hX:RfEx s body n){w:World}{B br bt:Nat}{st:PS}{N:List RN}{tv nv:Value}{i:Nat}{er root:Int}{t:Tw.T}{st':PS}(h:RCtx w B br bt s body st N tv nv i er root)(hs:st.stuck=false)(hN:N.length<=2*i+1000){tk:Tw.Tok}(ht:body[i]?=some tk)(hk:tk.sort=6)(hf:funS s.data.toList (A9 s body) (n+1) st=some (t,st')):
  Calls prog 120 #[pT br] w (RfTree w B br bt s body st' t N tv nv i root):=by
 obtain⟨hi,rfl⟩:=h.good hs;subst hi;have hlt:st.next<body.length:=(zlE.1 ht).1;have hm:=h.many;have HT:=bV ((Gf hL ht (c:=6) dZ).2 hk);rw[show De 6=[102,117,110] by decide]at HT;have HS:=bV hs;have HX:=bV h;have HTK:=bV ht;have HEX:Hid (RfEx s body n):=@hX;rw[funS]at hf;obtain⟨b,hb,hf⟩:=zbE.1 hf;obtain⟨bd,hbd,hf⟩:=zbE.1 hf;obtain⟨ra,hra,hf⟩:=zbE.1 hf;obtain⟨x,hx,hf⟩:=zbE.1 hf;obtain⟨se,he,hf⟩:=zbE.1 hf;cases hf;have HB:=bV hb;obtain⟨st1,r1,hst1,hr1,rfl⟩:=Pe hb;obtain⟨rb,hrb,rfl⟩:=Ut hbd;have HE:=bV hst1;have HR:=bV hr1;have HBD:=bV hrb;have HRA:=bV hra;have HXX:=bV hx;have HEN:=bV he;obtain⟨c0,c1,_,_,_,_,c6⟩:=h.cells
 go_in;go_wp2_with fail;have S:=bV (RS.new (uh HX) #[vU 0,vI (-1),vI (-1),vI (-1),vI st.next,vI 0,vI 0,vI 0,.bool false]);obtain⟨w1,hw1⟩:∃w1,w.alloc (.cells #[vU 0,vI (-1),vI (-1),vI (-1),vI st.next,vI 0,vI 0,vI 0,.bool false] 276)=w1:=⟨_,rfl⟩;obtain⟨nb,hnb⟩:∃nb,w.heap.size=nb:=⟨_,rfl⟩;rw[hw1,hnb]at S ⊢;refine(Bl S.o.x).mono ?_;rintro e1 w2 ⟨rfl,hg⟩;have S2:=bV (S.o.grown hg);rw[uh HT];simp only[ug];go_wp2_with fail;refine(Sn S2.o.x (uh HS) (uh HE)).mono ?_;rintro e1 w3 ⟨rfl,hp⟩;obtain⟨i3,er3,hi3,hS⟩:=S2.o.post hp;have S3:=bV hS;go_wp2_with fail;refine(Gg hL S3.o.x (c:=6) dZ (uh HR) rfl).mono ?_;rintro e1 w4 ⟨rfl,hp⟩;obtain⟨i4,er4,hi4,hS⟩:=S3.o.post hp;have S4:=bV hS;have z0:=S4.o.cell (j:=0) rfl;have y0:=S4.o.frozen 0;have S5:=bV (S4.o.set 0 (vU 70));have J4:=bV (Jb.start (N0:=N.length) dZ (uh HB) oM (λe=>(S4.o.x.good e).1));go_wp2_with fail;refine(zfm S5.o.x (uh HBD)).mono ?_;rintro e1 w6 ⟨rfl,hp⟩;obtain⟨i6,er6,hi6,hS⟩:=S5.o.post hp;have S6:=bV hS;have z1:=S6.o.cell (j:=6) rfl;have y1:=S6.o.frozen 6;have S7:=bV (S6.o.set 6 (vI i4));go_wp2_with fail;refine(Gg hL S7.o.x (c:=14) dZ (uh HRA) rfl).mono ?_;rintro e1 w8 ⟨rfl,hp⟩;obtain⟨i8,er8,hi8,hS⟩:=S7.o.post hp;have S8:=bV hS;have hi8l:=S8.o.x.ile;go_wp2_with fail;refine(uh HEX S8.o.x oM (uh HXX)).mono ?_;rintro e1 w9 ⟨k9,N9,nv9,i9,er9,rfl,hk,ho,hi9,hx,hc1,hc2,hc3⟩;have S9:=bV (S8.o.next hk ho hx);have JQ:=bV (((J4.o.tok hi6 (Ah (t:=rb.1) (st':=rb.2) (uh HBD))).tok hi8 (Ah (t:=ra.1) (st':=ra.2) (uh HRA))).ex hi9 hc1 hc2 (λe=>(hc3 e).1));have C3:=bV hc3;have MX:=bV ((Bw _ _ n).expr (t:=x.1) (st':=x.2) (uh HXX));have z1:=S9.o.cell (j:=1) rfl;have y1:=S9.o.frozen 1;have S10:=bV (S9.o.set 1 (vI k9));have SD:=bV (S10.o.setD (uh HEN));have hdp:=S10.o.x.dep;have hdz:st'.depth+1=x.2.depth:=(Aw (uh HEN)).2.symm;obtain⟨a0,_,a2,_,_,_,_⟩:=S10.o.x.cells;obtain⟨_,b2,_,_⟩:=S10.o.x.frozen;have d0:=SD.o.cell (j:=0) rfl;have d1:=SD.o.cell (j:=1) rfl;have d2:=SD.o.cell (j:=2) rfl;have d3:=SD.o.cell (j:=3) rfl;have d4:=SD.o.cell (j:=4) rfl;have d5:=SD.o.cell (j:=5) rfl;have d6:=SD.o.cell (j:=6) rfl;have d7:=SD.o.cell (j:=7) rfl;have d8:=SD.o.cell (j:=8) rfl;have hqi:=S10.o.x.ile;have hqj:=JQ.o.2.1;have hNb:N.length<=2*st.next+1000:=hN;go_wp2_with fail;have hRN:=kB hqj (show _<=5000 by omega);refine(Dy SD.o.x hRN ⟨70,k9,-1,-1,st.next,0,i4,0⟩ 0 0).mono ?_;rintro e1 we ⟨rfl,hk,nve,ho,hx⟩;have KE:=bV (SD.o.k.trans hk SD.o.o);have OE:=bV (SD.o.o.trans ho SD.o.k.size);have XE:=bV hx;go_wp2_with fail;go_ret;refine RfTree.of hL (x:=⟨70,k9,-1,-1,st.next,0,i4,0⟩) (uh KE) (uh OE) (uh XE) (JQ.o.fin (uh HEN)) (λe=>?_);have e1:x.2.stuck=false:=by rw[<-(Aw (uh HEN)).1];exact e
 have e2:=MX.o.1 e1;obtain⟨f1,f2,f3,f4⟩:=Gn dZ (uh HRA) e2;obtain⟨p1,p2,p3,p4⟩:=Gn dZ (uh HBD) f1;obtain⟨q1,q2,q3,q4,_⟩:=Ko dZ (uh HB) p1;have p5:=Jp p3 (by rw[p4];decide);have g4:=(S4.o.x.good p1).1;rw[iA hlt,uh HTK]at q3;cases q3;rw[<-g4]at p5;obtain⟨v1,v2,v3,v4,_,v6⟩:=C3.o e1;have hl:=congrArg List.length v2;rw[eA]at hl;dsimp only at q1 q4 p2;have j1:=JQ.o.1;refine⟨_,v2,?_,oM,oM,⟨tk,uh HTK,q4.symm⟩,v6⟩;rw[flat,q4,Ds hL (uh HTK),Ds hL p5,v3];rfl
end
section
open Tw Tw.Rf Go.Proofs.Tryz
open Go.RowKit
theorem zll{s:ByteArray}{body:List Tw.Tok}(hL:Lex 0 s.data.toList body){n:Nat}(hX:RfEx s body n){w:World}{B br bt:Nat}{st:PS}{N:List RN}{tv nv:Value}{i:Nat}{er root:Int}{t:Tw.T}{st':PS}(h:RCtx w B br bt s body st N tv nv i er root)(hs:st.stuck=false)(hN:N.length<=2*i+1000){tk:Tw.Tok}(ht:body[i]?=some tk)(hk:tk.sort=7)(hf:Ee s.data.toList (A9 s body) (n+1) st=some (t,st')):
  Calls prog 120 #[pT br] w (RfTree w B br bt s body st' t N tv nv i root):=by
 obtain⟨hi,rfl⟩:=h.good hs;subst hi;have hlt:st.next<body.length:=(zlE.1 ht).1;have hm:=h.many;have HT:=bV ((Gf hL ht (c:=7) dZ).2 hk);rw[show De 7=[105,102] by decide]at HT;have HS:=bV hs;have HX:=bV h;have HTK:=bV ht;have HEX:Hid (RfEx s body n):=@hX;rw[Ee]at hf;obtain⟨b,hb,hf⟩:=zbE.1 hf;obtain⟨x,hx,hf⟩:=zbE.1 hf;obtain⟨ra,hra,hf⟩:=zbE.1 hf;obtain⟨y,hy,hf⟩:=zbE.1 hf;obtain⟨rb,hrb,hf⟩:=zbE.1 hf;obtain⟨z,hz,hf⟩:=zbE.1 hf;obtain⟨se,he,hf⟩:=zbE.1 hf;cases hf;have HB:=bV hb;obtain⟨st1,r1,hst1,hr1,rfl⟩:=Pe hb;have HE:=bV hst1;have HR:=bV hr1;have HRB:=bV hrb;have HRA:=bV hra;have HXX:=bV hx;have HYY:=bV hy;have HZZ:=bV hz;have HEN:=bV he;obtain⟨c0,c1,_,_,_,_,c6⟩:=h.cells
 go_in;go_wp2_with fail;have S:=bV (RS.new (uh HX) #[vU 0,vI (-1),vI (-1),vI (-1),vI st.next,vI 0,vI 0,vI 0,.bool false]);obtain⟨w1,hw1⟩:∃w1,w.alloc (.cells #[vU 0,vI (-1),vI (-1),vI (-1),vI st.next,vI 0,vI 0,vI 0,.bool false] 276)=w1:=⟨_,rfl⟩;obtain⟨nb,hnb⟩:∃nb,w.heap.size=nb:=⟨_,rfl⟩;rw[hw1,hnb]at S ⊢;refine(Bl S.o.x).mono ?_;rintro e1 w2 ⟨rfl,hg⟩;have S2:=bV (S.o.grown hg);rw[uh HT];simp only[ug];go_wp2_with fail;refine(Sn S2.o.x (uh HS) (uh HE)).mono ?_;rintro e1 w3 ⟨rfl,hp⟩;obtain⟨i3,er3,hi3,hS⟩:=S2.o.post hp;have S3:=bV hS;go_wp2_with fail;refine(Gg hL S3.o.x (c:=7) dZ (uh HR) rfl).mono ?_;rintro e1 w4 ⟨rfl,hp⟩;obtain⟨i4,er4,hi4,hS⟩:=S3.o.post hp;have S4:=bV hS;have z0:=S4.o.cell (j:=0) rfl;have y0:=S4.o.frozen 0;have S5:=bV (S4.o.set 0 (vU 73));have J4:=bV (Jb.start (N0:=N.length) dZ (uh HB) oM (λe=>(S4.o.x.good e).1));go_wp2_with fail;refine(uh HEX S5.o.x oM (uh HXX)).mono ?_;rintro e1 w6 ⟨k6,N6,nv6,i6,er6,rfl,hk,ho,hi6,hx,hc1,hc2,hc3⟩;have S6:=bV (S5.o.next hk ho hx);have J6:=bV (J4.o.ex hi6 hc1 hc2 (λe=>(hc3 e).1));have C6:=bV hc3;have MX:=bV ((Bw _ _ n).expr (t:=x.1) (st':=x.2) (uh HXX));have z1:=S6.o.cell (j:=1) rfl;have y1:=S6.o.frozen 1;have S7:=bV (S6.o.set 1 (vI k6));go_wp2_with fail;refine(Gg hL S7.o.x (c:=8) dZ (uh HRA) rfl).mono ?_;rintro e1 w8 ⟨rfl,hp⟩;obtain⟨i8,er8,hi8,hS⟩:=S7.o.post hp;have S8:=bV hS;have J8:=bV (J6.o.tok hi8 (Ah (t:=ra.1) (st':=ra.2) (uh HRA)));have hi8l:=S8.o.x.ile;have hj8:=J8.o.2.1;go_wp2_with fail;refine(uh HEX S8.o.x oM (uh HYY)).mono ?_;rintro e1 w9 ⟨k9,N9,nv9,i9,er9,rfl,hk,ho,hi9,hx,hc1,hc2,hc3⟩;have S9:=bV (S8.o.next hk ho hx);have J9:=bV (J8.o.ex hi9 hc1 hc2 (λe=>(hc3 e).1));have C9:=bV hc3;have MY:=bV ((Bw _ _ n).expr (t:=y.1) (st':=y.2) (uh HYY));have z1:=S9.o.cell (j:=2) rfl;have y1:=S9.o.frozen 2;have S10:=bV (S9.o.set 2 (vI k9));go_wp2_with fail;refine(Gg hL S10.o.x (c:=9) dZ (uh HRB) rfl).mono ?_;rintro e1 w11 ⟨rfl,hp⟩;obtain⟨i11,er11,hi11,hS⟩:=S10.o.post hp;have S11:=bV hS;have J11:=bV (J9.o.tok hi11 (Ah (t:=rb.1) (st':=rb.2) (uh HRB)));have hi11l:=S11.o.x.ile;have hj11:=J11.o.2.1;go_wp2_with fail;refine(uh HEX S11.o.x oM (uh HZZ)).mono ?_;rintro e1 w12 ⟨k12,N12,nv12,i12,er12,rfl,hk,ho,hi12,hx,hc1,hc2,hc3⟩;have S12:=bV (S11.o.next hk ho hx);have JQ:=bV (J11.o.ex hi12 hc1 hc2 (λe=>(hc3 e).1));have C12:=bV hc3;have MZ:=bV ((Bw _ _ n).expr (t:=z.1) (st':=z.2) (uh HZZ));have z1:=S12.o.cell (j:=3) rfl;have y1:=S12.o.frozen 3;have S13:=bV (S12.o.set 3 (vI k12));have SD:=bV (S13.o.setD (uh HEN));have hdp:=S13.o.x.dep;have hdz:st'.depth+1=z.2.depth:=(Aw (uh HEN)).2.symm;obtain⟨a0,_,a2,_,_,_,_⟩:=S13.o.x.cells;obtain⟨_,b2,_,_⟩:=S13.o.x.frozen;have d0:=SD.o.cell (j:=0) rfl;have d1:=SD.o.cell (j:=1) rfl;have d2:=SD.o.cell (j:=2) rfl;have d3:=SD.o.cell (j:=3) rfl;have d4:=SD.o.cell (j:=4) rfl;have d5:=SD.o.cell (j:=5) rfl;have d6:=SD.o.cell (j:=6) rfl;have d7:=SD.o.cell (j:=7) rfl;have d8:=SD.o.cell (j:=8) rfl;have hqi:=S13.o.x.ile;have hqj:=JQ.o.2.1;have hNb:N.length<=2*st.next+1000:=hN;go_wp2_with fail;have hRN:=kB hqj (show _<=5000 by omega);refine(Dy SD.o.x hRN ⟨73,k6,k9,k12,st.next,0,0,0⟩ 0 0).mono ?_;rintro e1 we ⟨rfl,hk,nve,ho,hx⟩;have KE:=bV (SD.o.k.trans hk SD.o.o);have OE:=bV (SD.o.o.trans ho SD.o.k.size);have XE:=bV hx;go_wp2_with fail;go_ret;refine RfTree.of hL (x:=⟨73,k6,k9,k12,st.next,0,0,0⟩) (uh KE) (uh OE) (uh XE) (JQ.o.fin (uh HEN)) (λe=>?_);have e1:z.2.stuck=false:=by rw[<-(Aw (uh HEN)).1];exact e
 have e2:=MZ.o.1 e1;obtain⟨f1,f2,f3,f4⟩:=Gn dZ (uh HRB) e2;have e3:=MY.o.1 f1;obtain⟨p1,p2,p3,p4⟩:=Gn dZ (uh HRA) e3;have e4:=MX.o.1 p1;obtain⟨q1,q2,q3,q4,_⟩:=Ko dZ (uh HB) e4;have g4:=(S4.o.x.good e4).1;rw[iA hlt,uh HTK]at q3;cases q3;dsimp only at q1 q4;obtain⟨u1,u2,u3,u4,_⟩:=C6.o p1;obtain⟨v1,v2,v3,v4,_⟩:=C9.o f1;obtain⟨t1,t2,t3,t4,_,t6⟩:=C12.o e1;have hl:=congrArg List.length u2;have hl2:=congrArg List.length v2;have hl3:=congrArg List.length t2;rw[eA,Ak]at hl hl2 hl3;refine⟨flat (ixF body) (ixT body) x.1 N.length++flat (ixF body) (ixT body) y.1 (N.length+Rf.T.sz x.1)++flat (ixF body) (ixT body) z.1 (N.length+Rf.T.sz x.1+Rf.T.sz y.1),?_,?_,oM,?_,⟨tk,uh HTK,q4.symm⟩,t6⟩
 ·rw[t2,hl2,hl];conv=>lhs;rw[v2,hl,u2]
  simp only[wA]
 ·rw[flat,q4,Ds hL (uh HTK),u3,v3,t3,hl2,hl];rfl
 ·simp only[eA,Ak];omega
end
section
open Tw Tw.Rf Go.Proofs.Tryz
open Go.RowKit
theorem zlm{s:ByteArray}{body:List Tw.Tok}(n:Lex 0 s.data.toList body){st:PS}{rc:Int×PS}{i:Nat}(o:st.stuck=false->i=st.next)(hi:i<=body.length)(q:body.length<=300)(h:Ar (A9 s body) [4] st=some rc):
  (atT s.data.toList body i=[114,101,99]/\∃r,Tw.Au (A9 s body) 4 st=some r/\r.2=rc.2/\(st.stuck=false->rc.1=4))\/(atT s.data.toList body i ≠ [114,101,99]/\rc.2=st/\rc.1=0):=by
 have f:Rf.Ends (A9 s body):=⟨⟨0,s.size,s.size⟩,sM,rfl⟩;have d:=Ct n i (c:=4) dZ;rw[show De 4=[114,101,99] by decide]at d;cases a:st.stuck with
 |true=>
  rw[Hn f a _ sM]at h;cases h;by_cases e:atT s.data.toList body i=[114,101,99]
  ·refine .inl ⟨e,?_⟩;obtain⟨t,b,m⟩:=Ft f a;exact⟨(t,st),by simp[Tw.Au,b,m,Fb,a],rfl,λe=>(by cases e)⟩
  ·exact .inr ⟨e,rfl,rfl⟩
 |false=>
  have p:=o a;subst p;rw[zae a hi q dZ]at h;by_cases e:atS body st.next=4
  ·rw[mA e]at h;cases h;refine .inl ⟨d.2 e,?_⟩;have g:st.next<body.length:=by
    rcases yB st.next body.length with b|b
    ·exact b
    ·unfold atS at e;rw[gD b]at e;cases e
   obtain⟨tk,j⟩:∃tk,body[st.next]?=some tk:=⟨_,fA g⟩;have k:tk.sort=4:=(by unfold atS at e;rw[j]at e;exact e);refine⟨(tk,{st with next:=st.next+1}),?_,rfl,λ_=>rfl⟩;unfold Tw.Au;rw[show tokS (A9 s body) st=some tk by simp only[tokS,a];rw[<-j];exact iA g,zbS,mA k,jA dZ,mA oM]
  ·rw[jA e]at h;cases h;exact .inr ⟨λl=>e (d.1 l),rfl,rfl⟩
theorem zmx{s:ByteArray}{body:List Tw.Tok}(hL:Lex 0 s.data.toList body){n:Nat}(hX:RfEx s body n){w:World}{B br bt:Nat}{st:PS}{N:List RN}{tv nv:Value}{i:Nat}{er root:Int}{t:Tw.T}{st':PS}(h:RCtx w B br bt s body st N tv nv i er root)(hs:st.stuck=false)(hN:N.length<=2*i+1000){tk:Tw.Tok}(ht:body[i]?=some tk)(hk:tk.sort=3)(hf:letS s.data.toList (A9 s body) (n+1) st=some (t,st')):
  Calls prog 120 #[pT br] w (RfTree w B br bt s body st' t N tv nv i root):=by
 obtain⟨hi,rfl⟩:=h.good hs;subst hi;have hlt:st.next<body.length:=(zlE.1 ht).1;have hm:=h.many;have HT:=bV ((Gf hL ht (c:=3) dZ).2 hk);rw[show De 3=[108,101,116] by decide]at HT;have HS:=bV hs;have HX:=bV h;have HTK:=bV ht;have HEX:Hid (RfEx s body n):=@hX;rw[letS]at hf;obtain⟨b,hb,hf⟩:=zbE.1 hf;obtain⟨rc,hrc,hf⟩:=zbE.1 hf;obtain⟨bd,hbd,hf⟩:=zbE.1 hf;obtain⟨ra,hra,hf⟩:=zbE.1 hf;obtain⟨y,hy,hf⟩:=zbE.1 hf;obtain⟨ri,hri,hf⟩:=zbE.1 hf;obtain⟨x,hx,hf⟩:=zbE.1 hf;obtain⟨se,he,hf⟩:=zbE.1 hf;cases hf;have HB:=bV hb;obtain⟨st1,r1,hst1,hr1,rfl⟩:=Pe hb;obtain⟨rb,hrb,rfl⟩:=Ut hbd;have HE:=bV hst1;have HR:=bV hr1;have HBD:=bV hrb;have HRA:=bV hra;have HRC:=bV hrc;have HYY:=bV hy;have HRI:=bV hri;have HXX:=bV hx;have HEN:=bV he;obtain⟨c0,c1,_,_,_,_,c6⟩:=h.cells;clear h hs ht hk hX hst1 hr1 hx hrb hra hbd hb he hrc hy hri
 go_in;go_wp2_with fail;have S:=bV (RS.new (uh HX) #[vU 0,vI (-1),vI (-1),vI (-1),vI st.next,vI 0,vI 0,vI 0,.bool false]);obtain⟨w1,hw1⟩:∃w1,w.alloc (.cells #[vU 0,vI (-1),vI (-1),vI (-1),vI st.next,vI 0,vI 0,vI 0,.bool false] 276)=w1:=⟨_,rfl⟩;obtain⟨nb,hnb⟩:∃nb,w.heap.size=nb:=⟨_,rfl⟩;rw[hw1,hnb]at S ⊢;clear hw1 hnb c0 c1 c6;refine(Bl S.o.x).mono ?_;rintro e1 w2 ⟨rfl,hg⟩;have S2:=bV (S.o.grown hg);rw[uh HT];clear hg S;simp only[ug];go_wp2_with fail;refine(Sn S2.o.x (uh HS) (uh HE)).mono ?_;rintro e1 w3 ⟨rfl,hp⟩;obtain⟨i3,er3,hi3,hS⟩:=S2.o.post hp;have S3:=bV hS;clear hp hS S2;go_wp2_with fail;refine(Gg hL S3.o.x (c:=3) dZ (uh HR) rfl).mono ?_;rintro e1 w4 ⟨rfl,hp⟩;obtain⟨i4,er4,hi4,hS⟩:=S3.o.post hp;have S4:=bV hS;have z0:=S4.o.cell (j:=0) rfl;have y0:=S4.o.frozen 0;have S5:=bV (S4.o.set 0 (vU 108));have J4:=bV (Jb.start (N0:=N.length) dZ (uh HB) oM (λe=>(S4.o.x.good e).1));clear hp hS S3;go_wp2_with fail;refine(Bl S5.o.x).mono ?_;rintro e1 w6 ⟨rfl,hg⟩;have S6:=bV (S5.o.grown hg);clear hg z0 y0 S5;have hE:Rf.Ends (A9 s body):=⟨⟨0,s.size,s.size⟩,sM,rfl⟩;have hrec:=@zlm s body hL r1.2 rc i4 (λe=>(S6.o.x.good e).1) S6.o.x.ile hm (uh HRC);simp only[ug];rcases hrec with⟨hT,rr,hr,hrs,hr4⟩|⟨hT,hrs,hr0⟩
 case' inl=>
  have HRR:=bV hr;have R4:=bV hr4;rw[hT];clear hT hr hr4;have z0:=S6.o.cell (j:=0) rfl;have y0:=S6.o.frozen 0;have S7:=bV (S6.o.set 0 (vU 114));go_wp2_with fail;refine(Gg hL S7.o.x (c:=4) dZ (uh HRR) rfl).mono ?_;rintro e1 w8 ⟨rfl,hp⟩;obtain⟨i8,er8,hi8,hS⟩:=S7.o.post hp;rw[hrs]at hS;have S8:=bV hS;have J8:=bV (J4.o.tok hi8 (show Mild r1.2 rc.2 from hrs ▸ Ah (t:=rr.1) (st':=rr.2) (uh HRR)));have MR:Hid (Mild r1.2 rc.2):=bV (hrs ▸ Ah (t:=rr.1) (st':=rr.2) (uh HRR));have SO:Hid (r1.2.stuck=false->(if rc.1==4 then 114 else 108:Nat)=114):=bV λe=>(by rw[uh R4 e];rfl);clear hp hS z0 y0 S6 S7;go_wp2_with fail
 case' inr=>
  have n1:(atT s.data.toList body i4 == [114,101,99])=false:=by simpa using hT
  have S8:=S6;rw[<-hrs]at S8;have J8:=J4;rw[<-hrs]at J8;have MR:Hid (Mild r1.2 rc.2):=bV (by rw[hrs];exact⟨id,rfl⟩);have SO:Hid (r1.2.stuck=false->(if rc.1==4 then 114 else 108:Nat)=108):=bV λ_=>(by rw[hr0];rfl);obtain⟨i8,hi8⟩:∃i8,i4=i8:=⟨_,rfl⟩;rw[hi8]at S8 J8;clear hi8;clear hT hrs hr0 S6 J4;go_wp2_with fail
 all_goals as_aux_lemma=>
  have hj8:=J8.o.2.1;have hj8':=J8.o.1;refine(zfm S8.o.x (uh HBD)).mono ?_;rintro e1 w9 ⟨rfl,hp⟩;obtain⟨i9,er9,hi9,hS⟩:=S8.o.post hp;have S9:=bV hS;have J9:=bV (J8.o.tok hi9 (Ah (t:=rb.1) (st':=rb.2) (uh HBD)));have z1:=S9.o.cell (j:=6) rfl;have y1:=S9.o.frozen 6;have S10:=bV (S9.o.set 6 (vI i8));clear hp hS;go_wp2_with fail;refine(Gg hL S10.o.x (c:=15) dZ (uh HRA) rfl).mono ?_;rintro e1 w11 ⟨rfl,hp⟩;obtain⟨i11,er11,hi11,hS⟩:=S10.o.post hp;have S11:=bV hS;have J11:=bV (J9.o.tok hi11 (Ah (t:=ra.1) (st':=ra.2) (uh HRA)));clear hp hS z1 y1;go_wp2_with fail;refine(uh HEX S11.o.x oM (uh HYY)).mono ?_;rintro e1 w12 ⟨k12,N12,nv12,i12,er12,rfl,hk,ho,hi12,hx,hc1,hc2,hc3⟩;have S12:=bV (S11.o.next hk ho hx);have J12:=bV (J11.o.ex hi12 hc1 hc2 (λe=>(hc3 e).1));have C12:=bV hc3;have MY:=bV ((Bw _ _ n).expr (t:=y.1) (st':=y.2) (uh HYY));have z1:=S12.o.cell (j:=1) rfl;have y1:=S12.o.frozen 1;have S13:=bV (S12.o.set 1 (vI k12));clear hk ho hx hc1 hc2 hc3;go_wp2_with fail;refine(Gg hL S13.o.x (c:=5) dZ (uh HRI) rfl).mono ?_;rintro e1 w14 ⟨rfl,hp⟩;obtain⟨i14,er14,hi14,hS⟩:=S13.o.post hp;have S14:=bV hS;have J14:=bV (J12.o.tok hi14 (Ah (t:=ri.1) (st':=ri.2) (uh HRI)));have hj14:=J14.o.2.1;clear hp hS z1 y1;go_wp2_with fail;refine(uh HEX S14.o.x oM (uh HXX)).mono ?_;rintro e1 w15 ⟨k15,N15,nv15,i15,er15,rfl,hk,ho,hi15,hx,hc1,hc2,hc3⟩;have S15:=bV (S14.o.next hk ho hx);have JQ:=bV (J14.o.ex hi15 hc1 hc2 (λe=>(hc3 e).1));have C15:=bV hc3;have MX:=bV ((Bw _ _ n).expr (t:=x.1) (st':=x.2) (uh HXX));have z1:=S15.o.cell (j:=2) rfl;have y1:=S15.o.frozen 2;have S16:=bV (S15.o.set 2 (vI k15));have SD:=bV (S16.o.setD (uh HEN));have hdp:=S16.o.x.dep;have hdz:st'.depth+1=x.2.depth:=(Aw (uh HEN)).2.symm;obtain⟨a0,_,a2,_,_,_,_⟩:=S16.o.x.cells;obtain⟨_,b2,_,_⟩:=S16.o.x.frozen;have d0:=SD.o.cell (j:=0) rfl;have d1:=SD.o.cell (j:=1) rfl;have d2:=SD.o.cell (j:=2) rfl;have d3:=SD.o.cell (j:=3) rfl;have d4:=SD.o.cell (j:=4) rfl;have d5:=SD.o.cell (j:=5) rfl;have d6:=SD.o.cell (j:=6) rfl;have d7:=SD.o.cell (j:=7) rfl;have d8:=SD.o.cell (j:=8) rfl;have hqi:=S16.o.x.ile;have hqj:=JQ.o.2.1;have hNb:N.length<=2*st.next+1000:=hN;clear hk ho hx hc1 hc2 hc3;go_wp2_with fail;have hRN:=kB hqj (show _<=5000 by omega)
  first
   |(have _:=HRR;refine(Dy SD.o.x hRN ⟨114,k12,k15,-1,st.next,0,i8,0⟩ 0 0).mono ?_)
   |refine(Dy SD.o.x hRN ⟨108,k12,k15,-1,st.next,0,i8,0⟩ 0 0).mono ?_
  rintro e1 we ⟨rfl,hk,nve,ho,hx⟩;have KE:=bV (SD.o.k.trans hk SD.o.o);have OE:=bV (SD.o.o.trans ho SD.o.k.size);have XE:=bV hx;clear hk ho hx d0 d1 d2 d3 d4 d5 d6 d7 d8 a0 a2 b2 z1 y1;go_wp2_with fail;go_ret
  first
   |refine RfTree.of hL (x:=⟨114,k12,k15,-1,st.next,0,i8,0⟩) (uh KE) (uh OE) (uh XE) (JQ.o.fin (uh HEN)) (λe=>?_)
   |refine RfTree.of hL (x:=⟨108,k12,k15,-1,st.next,0,i8,0⟩) (uh KE) (uh OE) (uh XE) (JQ.o.fin (uh HEN)) (λe=>?_)
  have e1:x.2.stuck=false:=by rw[<-(Aw (uh HEN)).1];exact e
  have e2:=MX.o.1 e1;obtain⟨f1,_,_,_⟩:=Gn dZ (uh HRI) e2;have e3:=MY.o.1 f1;obtain⟨l1,_,_,_⟩:=Gn dZ (uh HRA) e3;obtain⟨p1,p2,p3,p4⟩:=Gn dZ (uh HBD) l1;have m1:=MR.o.1 p1;obtain⟨q1,q2,q3,q4,_⟩:=Ko dZ (uh HB) m1;have p5:=Jp p3 (by rw[p4];decide);have g4:=(S8.o.x.good p1).1;rw[iA hlt,uh HTK]at q3;cases q3;rw[<-g4]at p5;obtain⟨u1,u2,u3,u4,_⟩:=C12.o f1;obtain⟨v1,v2,v3,v4,_,v6⟩:=C15.o e1;have hl:=congrArg List.length u2;have hl2:=congrArg List.length v2;rw[eA,Ak]at hl hl2;dsimp only at q1 q4;have j1:=J8.o.1;refine⟨flat (ixF body) (ixT body) y.1 N.length++flat (ixF body) (ixT body) x.1 (N.length+Rf.T.sz y.1),?_,?_,oM,?_,⟨tk,uh HTK,q4.symm⟩,v6⟩
  ·rw[v2,hl];conv=>lhs;rw[u2]
   rw[wA]
  ·rw[flat,SO.o m1,q4,Ds hL (uh HTK),Ds hL p5,u3,v3,hl];rfl
  ·rw[eA,Ak,Ak];have h8:=J8.o.2.2 p1;omega
end
end Go.Proofs.YtckhafpejefbbaaGreatDoor
