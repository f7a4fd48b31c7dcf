import Derived.Test.YtckhafpejefbbaaGreatDoorB35

set_option maxRecDepth 100000
set_option maxHeartbeats 16000000
namespace Go.Proofs.YtckhafpejefbbaaGreatDoor
section
open Tw Tw.Rf Go.Proofs.Tryz
open Go.RowKit
section
variable{w w0 w':World}{Z Z':Nat->Prop}{bw count N b lo hi:Nat}{tx bn bm nu nm l a0 a1 v:Value}{BN BM NU MV R':List Value}{X:List LTx}{E:List (Tw.T×Value)}{t:TypeId}{L:List Tw.T}
theorem LS.lists(h:LS w Z bw tx bn bm nu nm count BN BM NU MV)(e:BM.length=BN.length):(∀v∈NU,∀g,v.ownBlock=some g->g<w.heap.size)/\∀v∈BN,∀g,v.ownBlock=some g->g<w.heap.size:=by
 constructor
 ·intro v d g a;obtain⟨i,hi,rfl⟩:=eE d;have c:i<MV.length:=by rw[h.Yi];exact hi
  have⟨k,_,f⟩:=h.zbj i NU[i] MV[i] (fA hi) (fA c);exact f.lt a
 ·intro v d g a;obtain⟨i,hi,rfl⟩:=eE d;have c:i<BM.length:=by rw[e];exact hi
  exact(h.zbo i BN[i] BM[i] (fA hi) (fA c)).2.lt a
theorem LW.zvz(h:LW w0 w Z bw tx bn bm nu nm X N count BN BM NU MV)(d:zG w w'):LW w0 w' (λg=>w.heap.size<=g/\g<w'.heap.size) bw tx bn bm nu nm X N count BN BM NU MV:=by
 have c:=h.Hv d (znL _);have⟨i,j⟩:=h.ls.lists h.Yg;refine{c with ls:={c.ls with Rb:=λg f=>⟨f.2,λe=>?_,λv a e=>?_,λv a e=>?_⟩}}
 ·have:=(h.ls.marks.lt g e).2;omega
 ·have:=i v a g e;omega
 ·have:=j v a g e;omega
theorem LF.tk{R:List Value}(F:LF w w' bw R R'){o:Array Value}(q:zH w bw o 61)(p:∀v∈R,∀g,v.ownBlock=some g->∃c t,zH w g c t/\zlr.contains t=true):TK 0 zlr w w':=by
 have ne:∀ {k:Nat},(∀c t,zlr.contains t=true->w.heap[k]? ≠ some (.cells c t (0,0)))->k<w.heap.size->w'.heap[k]?=w.heap[k]? :=λ{k} i j=>F.block j (λe=>by subst e;exact i _ _ dZ q) (λv s e=>by
  have⟨c,t,d,h⟩:=p v s k e;exact i c t h d)
 refine⟨λ{k} j _=>oM,F.os,F.tape,F.output,F.size,λ{k c t y} d h=>?_,λ{k z} f r=>?_⟩
 ·refine(ne (λn x m a=>?_) (zgE.1 d).1).trans d;rw[d]at a;cases a;rw[h]at m;cases m
 ·exact(ne (λn x _ a=>by rw[f]at a;cases a;exact r _ _ _ rfl) (zgE.1 f).1).trans f
theorem LS.typed(h:LS w Z bw tx bn bm nu nm count BN BM NU MV)(i:w.ownsRow 0 48 3 l E.length (Cn E))(j:∀e∈E,Bf w 0 3 e.2 (Sv e)):∀v∈Rm bn bm nu nm l E,∀g,v.ownBlock=some g->∃c t,zH w g c t/\zlr.contains t=true:=by
 intro v f g d;simp only[Rm,zmA,zmC,tD,or_false,List.mem_map]at f;rcases f with(rfl|rfl|rfl|rfl|rfl)|⟨e,he,rfl⟩
 ·have⟨c,a⟩:=h.bns.blk d;exact⟨c,_,a,dZ⟩
 ·have⟨c,a⟩:=h.bms.blk d;exact⟨c,_,a,dZ⟩
 ·have⟨c,a⟩:=h.Jc.blk d;exact⟨c,_,a,dZ⟩
 ·have⟨c,a⟩:=h.marks.blk d;exact⟨c,_,a,dZ⟩
 ·have⟨_,c,a⟩:=Qy i d;exact⟨c,_,a,dZ⟩
 ·have⟨c,a⟩:=(j e he).blk d;exact⟨c,_,a,dZ⟩
theorem LW.lists{n m r q:Value}{N' o:Nat}{f i j s:List Value}(h:LW w0 w Z bw tx bn bm nu nm X N count BN BM NU MV)(D:w.ownsRow 0 48 3 l E.length (Cn E))(p:∀e∈E,Bf w 0 3 e.2 (Sv e))
  (G:∀g,l.ownBlock=some g->w0.heap.size<=g) (H:∀e∈E,∀g,e.2.ownBlock=some g->w0.heap.size<=g) (M:LS w' Z' bw tx n m r q o f i j s) (F:LF w w' bw (Rm bn bm nu nm l E) [n,m,r,q]) (z:i.length=f.length) (A:o<=N'/\j.length<=N'/\f.length<=N') :
  LW w0 w' Z' bw tx n m r q X N' o f i j s:=by
 have tk:=F.tk h.ls.lw (h.ls.typed D p);have J:=h.grown.size;have x:∀v∈Rm bn bm nu nm l E,∀g,v.ownBlock=some g->w0.heap.size<=g:=by
  intro v d g a;simp only[Rm,zmA,zmC,tD,or_false,List.mem_map]at d;rcases d with(rfl|rfl|rfl|rfl|rfl)|⟨e,he,rfl⟩
  ·exact h.new.2 _ sM g a
  ·exact h.new.2 _ sM g a
  ·exact h.new.2 _ sM g a
  ·exact h.new.2 _ sM g a
  ·exact G g a
  ·exact H e he g a
 refine⟨M,Ai h.texts λg c B=>tk.cells B dZ,λP I=>(h.at' P I).tk tk dZ dZ,h.many,z,A,⟨F.os.trans h.grown.os,F.tape.trans h.grown.tape,F.output.trans h.grown.output,kB J F.size,λk C _=>?_⟩,h.new.1,λv d g a=>?_⟩
 ·refine(F.block oM (λe=>by have:=h.new.1;omega) (λv d e=>?_)).trans (h.grown.block k C sM)
  have:=x v d k e;omega
 ·simp only[zmC]at d;rcases d with rfl|d
  ·exact h.new.2 _ sM g a
  ·rcases F.next v (by simpa using d) g a with⟨O,p,y⟩|Q
   ·exact x O p g y
   ·omega
theorem Jp{a2 a:Value}(h:zH w b #[a0,a1,a2,a] t):w.cell? (aD b 0)=some a0/\w.cell? (aD b 1)=some a1/\w.cell? (aD b 2)=some a2/\w.cell? (aD b 3)=some a:=by
 refine⟨?_,?_,?_,?_⟩<;>(rw[mB _ _ _ _ _ _ h];rfl)
theorem Ky(h:zH w b #[a0,a1] t):w.cell? (aD b 0)=some a0/\w.cell? (aD b 1)=some a1:=by
 refine⟨?_,?_⟩<;>(rw[mB _ _ _ _ _ _ h];rfl)
theorem LW.sub(h:LW w0 w Z bw tx bn bm nu nm X N count BN BM NU MV)(a:∀g,Z' g->Z g):LW w0 w Z' bw tx bn bm nu nm X N count BN BM NU MV:={h with ls:=h.ls.sub a}
theorem Yh.slice(h:Yh w v L):∃p c,v=.slice p L.length c:=by
 have⟨E,a,d,_⟩:=h;have⟨p,c,e⟩:=Ij d;exact⟨p,c,by rw[e,<-a,uD]⟩
structure Uq(w:World)(lo hi:Nat)(l:Value)(E:List (Tw.T×Value)):Prop where
 row:w.ownsRow 0 48 3 l E.length (Cn E)
 Fm:∀e∈E,Bf w 0 3 e.2 (Sv e)
 pw:E.Pairwise fun a b=>∀g,a.2.ownBlock=some g->b.2.ownBlock≠some g
 atl:∀g,l.ownBlock=some g->lo<=g/\g<hi
 atu:∀e∈E,∀g,e.2.ownBlock=some g->lo<=g/\g<hi
theorem Uq.of{B:Nat}(h:zht w B v L)(a:zG w w'):∃E:List (Tw.T×Value),E.map (·.1)=L/\Uq w' B w.heap.size v E:=by
 have⟨E,m,i,n,o⟩:=h;have j:∀e∈E,w.ownsRow B 3 1 e.2 (Sv e).length (Sv e):=λe d=>by
  have:=n e d;rw[Sv,uD];exact this
 refine⟨E,m,⟨Bs (Lu i) a,λe d=>Bs (Lu (j e d)) a,o,λk a=>?_,λe d k a=>?_⟩⟩
 ·have⟨f,c,g⟩:=Qy i a;exact⟨f,(zgE.1 g).1⟩
 ·have⟨f,c,g⟩:=Qy (j e d) a;exact⟨f,(zgE.1 g).1⟩
theorem Uq.stays{q:Value}{n:List (Tw.T×Value)}{i:Nat}(h:LW w0 w Z bw tx bn bm nu nm X N count BN BM NU MV)(o:Uq w lo i l E)(a:Uq w i hi q n)(y:∀g,i<=g->g<hi->Z g)(F:LF w w' bw (Rm bn bm nu nm l E) R'):Uq w' i hi q n:=by
 have Aq:∀ {g:Nat} {c:Array Value} {m:TypeId},(m=48\/m=3)->zH w g c m->i<=g->g<hi->w'.heap[g]?=w.heap[g]? :=λ{g c m} k d r s=>by
  refine F.block (zgE.1 d).1 (h.ls.bw (by rcases k with rfl|rfl<;>decide) d) (λv p e=>?_);simp only[Rm,zmA,zmC,tD,or_false,List.mem_map]at p;rcases p with(rfl|rfl|rfl|rfl|rfl)|⟨x,hx,rfl⟩
  ·exact h.ls.bns.ne (by rcases k with rfl|rfl<;>decide) d e.symm
  ·exact h.ls.bms.ne (by rcases k with rfl|rfl<;>decide) d e.symm
  ·exact h.ls.Jc.ne (by rcases k with rfl|rfl<;>decide) d e.symm
  ·exact(h.ls.Rb g (y g r s)).2.1 e
  ·have:=(o.atl g e).2;omega
  ·have:=(o.atu x hx g e).2;omega
 refine⟨zq0 a.row λg f=>?_,λe j=>(a.Fm e j).kept λg f=>?_,a.pw,a.atl,a.atu⟩
 ·have⟨_,c,d⟩:=Qy a.row f;exact Aq (.inl rfl) d (a.atl g f).1 (a.atl g f).2
 ·have⟨c,d⟩:=(a.Fm e j).blk f;exact Aq (.inr rfl) d (a.atu e j g f).1 (a.atu e j g f).2
theorem zdh(h:LW w0 w Z bw tx bn bm nu nm X N count BN BM NU MV)(b:Uq w lo hi l E)(r:∀g,lo<=g->g<hi->Z g)(q:w0.heap.size<=lo)(z:E.length<=300)(s:∀e∈E,e.1.useS.length<=300)(A:N<=100000000000):
  Calls prog 70 #[pT bw,l] w λe w'=>e=.returned (.tuple #[])/\∃f d j i m k o n p,LW w0 w' (λg=>Z g/\¬(lo<=g/\g<hi)) bw tx f d j i X (N+1500) p m k o n/\LF w w' bw (Rm bn bm nu nm l E) [f,d,j,i]:=by
 have⟨B,C,D⟩:=h.small;go_call (zoe h.ls b.row b.Fm b.pw (λg a=>r g (b.atl g a).1 (b.atl g a).2) (λe c g a=>r g (b.atu e c g a).1 (b.atu e c g a).2) oM (λe c=>kB (s e c) dZ) oM oM h.Yg oM) as e w' ⟨rfl,f,d,j,i,m,k,o,n,p,hS,hF,l1,l2,l3,l4⟩;refine⟨rfl,f,d,j,i,m,k,o,n,p,?_,hF⟩
 have:=LW.lists (N':=N+1500) h b.row b.Fm (λg a=>kB q (b.atl g a).1) (λe c g a=>kB q (b.atu e c g a).1) hS hF l2 ⟨oM,oM,oM⟩;exact this.sub λg a=>⟨a.1,λe=>a.2 (b.atl g e),λy x e=>a.2 (b.atu y x g e)⟩
theorem zkf(h:Lawful w0 w bw X N)(hN:N<=50000000000){x:LTx}(hx:x∈X):
  Calls prog 42 #[pT bw,.agg #[pT x.bt,pT x.br]] w λe w'=>e=.returned (.bool true)/\Lawful w0 w' bw X (N+3000):=by
 have⟨tx,bn,bm,nu,nm,count,BN,BM,NU,MV,h⟩:=h;have hA:=h.at' x hx;have⟨bt,br,s,t,sh,fo⟩:=x;have⟨body,hop⟩:=zni (hA.opn fo (znL _));have hnn:=zjt (hA.opn fo (znL _));dsimp only at hop hnn;have g0:=zwA w (.cells #[pT bt,pT br] 98) none;have A1:=hA.grown g0;have nb:=Ac w (.cells #[pT bt,pT br] 98);have hNl:t.binds.length<=300:=by
  have:=(Fx t).length_le;rw[uD]at this;exact kB this hop.small
 have HUL:∀m∈t.binds,m.useS.length<=300:=λm hm=>kB (Kd t m hm).length_le hop.small;clear hA;go_in;go_upto_region 1 with fail;generalize w.alloc (.cells #[pT bt,pT br] 98)=w1 at A1 nb g0 ⊢;generalize w.heap.size=bx at nb ⊢;have⟨x0,x1⟩:=Ky nb;go_wp21;go_call Rj A1.text hop hnn as e1 w2 ⟨⟨l1,rfl,hB1⟩,hg2⟩;have S2:=hg2.size;have G2:=Ab g0 hg2;have A2:=A1.grown hg2;have NB2:=zbG hg2 nb;have⟨x0,x1⟩:=Ky NB2;clear hg2 nb A1;go_wp21;go_call Rj A2.text hop hnn as e1 w3 ⟨⟨l2,rfl,hB2⟩,hg3⟩;have G3:=Ab G2 hg3;have A3:=A2.grown hg3;have⟨x0,x1⟩:=Ky (zbG hg3 NB2);clear NB2 A2;go_wp21;go_call ze3 A3.tree hop as e1 w4 ⟨⟨l3,rfl,hB3⟩,hg4⟩;have G4:=Ab G3 hg4;have C1:=hB1.at.grown (Ab hg3 hg4);have C2:=hB2.at.grown hg4;obtain⟨p1,k1,rfl⟩:=C1.slice;obtain⟨p2,k2,rfl⟩:=C2.slice;obtain⟨p3,k3,rfl⟩:=hB3.slice;clear A3 x0 x1 G3;go_wp21;go_loopg[8,9] t.binds.length (λm ok iv wr=>∃i:Nat,ok=.bool true/\iv=vI i/\i+m=t.binds.length/\Hid (zG w4 wr))
 case atStart=>exact⟨0,sM,rfl,oM,bV (Aa w4)⟩
 case round=>
  obtain⟨i,rfl,rfl,him,GR⟩:=hrel;rcases jD (show i<=t.binds.length by omega)with he|hlt
  ·have hil:¬(i:Int)<(t.binds.length:Int):=oM;have⟨E1,hE1,D1⟩:=Uq.of hB1 (Ab (Ab hg3 hg4) GR.o);have⟨E2,hE2,D2⟩:=Uq.of hB2 (Ab hg4 GR.o);have e1l:E1.length=t.binds.length:=(by rw[<-hE1,uD]);have e2l:E2.length=t.binds.length:=(by rw[<-hE2,uD]);have u1:∀e∈E1,e.1.useS.length<=300:=λe he=>HUL _ (by rw[<-hE1];exact List.mem_map_of_mem he);have u2:∀e∈E2,e.1.useS.length<=300:=λe he=>HUL _ (by rw[<-hE2];exact List.mem_map_of_mem he);have H5:=h.zvz (Ab G4 GR.o);have z1:=g0.size;have z2:=S2;have z3:=hg3.size;have z4:=hg4.size;have z5:=GR.o.size;have z0:=h.grown.size;have LN:=zdh H5 D1 (λg q1 q2=>⟨oM,oM⟩) oM oM u1 oM;have Z25:=show w0.heap.size<=w2.heap.size/\w.heap.size<=w2.heap.size/\w3.heap.size<=wr.heap.size/\w1.heap.size<=w2.heap.size from⟨oM,oM,oM,oM⟩;clear hE1 hE2 u1 z0 z1 z2 z3 z4 z5 C1 C2 hB3 hB1 hB2;go_wp21;go_call LN as e1 w6 ⟨rfl,bn',bm',nu',nm',BN',BM',NU',MV',count',hL6,hF6⟩;have D6:=Uq.stays H5 D1 D2 (λg q1 q2=>⟨by have:=Z25;omega,by have:=Z25;omega⟩) hF6;have LN6:=zdh hL6 D6 (λg q1 q2=>⟨⟨by have:=Z25;omega,by have:=Z25;omega⟩,oM⟩) (by have:=Z25;omega) oM u2 oM;clear hF6 hL6 D6 LN;go_wp21;go_call LN6 as e1 w7 ⟨rfl,bn7,bm7,nu7,nm7,BN7,BM7,NU7,MV7,count7,hL7,-⟩;clear LN6;go_wp21;go_ret;exact⟨rfl,_,_,_,_,_,_,_,_,_,_,(hL7.sub λg hg=>hg.elim).Hv (Aa _) oM⟩
  ·have hil:(i:Int)<(t.binds.length:Int):=oM;obtain⟨m,rfl⟩:∃m,gk=m+1:=⟨gk-1,oM⟩;obtain⟨b,hb⟩:∃b,t.binds[i]?=some b:=⟨_,fA hlt⟩;have hbu:=HUL b (dD hb);have⟨g1,_,v1,q,n1,a1,r1,us1⟩:=C1.get hb;cases q;have⟨g2,_,v2,q,n2,a2,r2,us2⟩:=C2.get hb;cases q;have⟨g3,_,v3,q,n3,a3,r3,us3⟩:=hB3.get hb;cases q;obtain⟨s1,y1,rfl,f1⟩:=us1.get;obtain⟨s2,y2,rfl,f2⟩:=us2.get;obtain⟨s3,y3,rfl,f3⟩:=us3.get;simp[ug]at n1 n2 n3;have CL:∀W,zG w4 W->(W.cell? (aD g1 (i*3))=some (.string ⟨b.bname.toArray⟩)/\W.cell? (aD g1 (i*3+1))=some (vI b.bpl)/\W.cell? (aD g1 (i*3+2))=some (.slice s1 b.useS.length y1))/\(W.cell? (aD g2 (i*3))=some (.string ⟨b.bname.toArray⟩)/\W.cell? (aD g2 (i*3+1))=some (vI b.bpl)/\W.cell? (aD g2 (i*3+2))=some (.slice s2 b.useS.length y2))/\W.cell? (aD g3 (i*3))=some (.string ⟨b.bname.toArray⟩)/\W.cell? (aD g3 (i*3+1))=some (vI b.bpl)/\W.cell? (aD g3 (i*3+2))=some (.slice s3 b.useS.length y3):=λW hW=>⟨⟨cell_kept n1 hW sM,cell_kept a1 hW sM,cell_kept r1 hW sM⟩,⟨cell_kept n2 hW sM,cell_kept a2 hW sM,cell_kept r2 hW sM⟩,cell_kept n3 hW sM,cell_kept a3 hW sM,cell_kept r3 hW sM⟩;have FF:∀(k f:Nat),b.useS[k]?=some f->(∃g,s1=some (aD g 0)/\w4.cell? (aD g k)=some (vI f))/\(∃g,s2=some (aD g 0)/\w4.cell? (aD g k)=some (vI f))/\∃g,s3=some (aD g 0)/\w4.cell? (aD g k)=some (vI f):=λk f hf=>⟨f1 k f hf,f2 k f hf,f3 k f hf⟩;clear n1 n2 n3 a1 a2 a3 r1 r2 r3 us1 us2 us3 f1 f2 f3 hb;obtain⟨⟨n1,a1,r1⟩,-,n3,a3,r3⟩:=CL _ GR.o;go_wp21;go_quiet (fail);obtain⟨W2,hW2⟩:∃W2,wr.drewN nq=W2:=⟨_,rfl⟩;have G5:zG w4 W2:=(Ab GR.o (by rw[<-hW2];exact Cc _ _));rw[hW2];clear hW2 n1 n3 a1 a3 r1 r3 GR;obtain⟨-,⟨n2,a2,r2⟩,n3,a3,r3⟩:=CL _ G5;go_wp21;go_quiet (fail);obtain⟨W3,hW3⟩:∃W3,W2.drewN nq=W3:=⟨_,rfl⟩;have G6:zG w4 W3:=(Ab G5 (by rw[<-hW3];exact Cc _ _));rw[hW3];clear hW3 n2 n3 a2 a3 r2 r3 G5;go_wp21;go_loopg[8,10] b.useS.length (λm2 ok kv wy=>∃k:Nat,ok=.bool true/\kv=vI k/\k+m2=b.useS.length/\Hid (zG w4 wy))
   case atStart=>exact⟨0,sM,rfl,oM,G6⟩
   case round=>
    obtain⟨k,rfl,rfl,hkm,GY⟩:=hrel;obtain⟨⟨-,-,r1⟩,⟨-,-,r2⟩,-,-,r3⟩:=CL _ GY.o;rcases jD (show k<=b.useS.length by omega)with he|hlt2
    ·have hkl:¬(k:Int)<(b.useS.length:Int):=oM;go_wp21;go_roundg m
     case measure=>omega
     case rel=>exact⟨i+1,rfl,by push_cast;rfl,oM,GY⟩
    ·have hkl:(k:Int)<(b.useS.length:Int):=oM;obtain⟨f,hf⟩:∃f,b.useS[k]?=some f:=⟨_,fA hlt2⟩;obtain⟨⟨q1,rfl,f1⟩,⟨q2,rfl,f2⟩,q3,rfl,f3⟩:=FF k f hf;have f1:=cell_kept f1 GY.o sM;have f2:=cell_kept f2 GY.o sM;have f3:=cell_kept f3 GY.o sM;clear hf;go_wp21;go_quiet (fail);obtain⟨W4,hW4⟩:∃W4,wr.drewN nq=W4:=⟨_,rfl⟩;have G7:zG w4 W4:=(Ab GY.o (by rw[<-hW4];exact Cc _ _));rw[hW4];clear hW4 f1 f2 f3 r1 r2 r3 GY;go_wp21;go_roundg (b.useS.length-(k+1))
     case measure=>omega
     case rel=>exact⟨k+1,sM,by push_cast;rfl,oM,G7⟩
end
namespace Tw
def GI(P:Nat->Int->Prop)(k:GK)(t:T):Prop:=match k with
 |.chF _ _ a|.caF a=>Jk P a->Jk P t
 |_=>Jk P t
theorem zq3{l:List UInt8}{P:Nat->Int->Prop}{k:GK}{c:List Tok}{t:T}(h:G l k c t):(∀tk∈c,tk.sort=2->∀v,Me (Bv l tk.fr tk.to)=some v->P tk.fr v)->GI P k t:=by
 induction h with
 |Am hl hrc hn he hi hp D B iD iB=>exact λH=>⟨iD λtk h=>H tk (by simp[h]),iB λtk h=>H tk (by simp[h])⟩
 |fn hl hn b hp B iB=>exact λH=>iB λtk h=>H tk (by simp[h])
 |cond hl h1 h2 C X Y iC iX iY=>exact λH=>⟨iC λtk h=>H tk (by simp[h]),iX λtk h=>H tk (by simp[h]),iY λtk h=>H tk (by simp[h])⟩
 |zkp h ih|zkr h ih=>exact ih
 |zhs X hs Y iX iY=>exact λH=>⟨iX λtk h=>H tk (by simp[h]),iY λtk h=>H tk (by simp[h])⟩
 |sum X C iX iC|term X C iX iC|call X C iX iC=>exact λH=>iC (λtk h=>H tk (by simp[h])) (iX λtk h=>H tk (by simp[h]))
 |chN|caN=>exact λ_ h=>h
 |@chC p g a sg w1 w2 y t hs Y C iY iC=>
  intro H b;have e:Jk P y:=by have:=iY λtk h=>H tk (by simp[h]);cases p<;>exact this
  exact iC (λtk h=>H tk (by simp[h])) ⟨b,e⟩
 |caC Y C iY iC=>exact λH b=>iC (λtk h=>H tk (by simp[h])) ⟨b,iY λtk h=>H tk (by simp[h])⟩
 |@leaf tk x hb h16 h=>
  intro H;show Jk P x;unfold Lv at h
  repeat' split at h
  all_goals first
   |(cases h;done)
   |(cases h;trivial)
   |(obtain⟨v,d,h⟩:=zbE.1 h;cases h;exact H tk sM (by assumption) v d)
 |bracket b hc X iX=>exact λH=>iX λtk h=>H tk (by simp[h])
 |pair b hm hc X Y iX iY=>exact λH=>⟨iX λtk h=>H tk (by simp[h]),iY λtk h=>H tk (by simp[h])⟩
end Tw
theorem zq4{w:World}{bt fuel:Nat}{s:ByteArray}{t:Tw.T}(hT:Rl w bt s t){a:Ty}(ht:Typ t .nil a)(n:Int){kind:Int}{steps:Nat}{shown:zU}(hf:zfc fuel t (Lb n)=some (kind,steps,shown)):
  Calls prog 44 #[pT bt,vI n] w λe w'=>e=.returned (.agg #[vI kind,vI steps,ug shown])/\zG w w':=by
 obtain⟨body,tv,nv,hL,hR,hG⟩:=hT;unfold zfc at hf;obtain⟨⟨r,st⟩,ha,hf⟩:=zbE.1 hf;have hb:Lb n<=3000:=by unfold Lb;omega
 have hb2:((Lb n:Nat):Int)=min (max n 0) 3000:=by unfold Lb;omega
 have hrn:=(zth _ _ _ _ _ _ _ _ _ (λ_ _=>False) ha ht (λx=>⟨λa h=>by simp[TEn.look]at h,λt o h=>by simp[TEn.look]at h⟩) ⟨λ_ _ h=>h.elim,λ_ _ _ h=>h.elim⟩).1;obtain⟨bud,hbud⟩:∃bud,Lb n=bud:=⟨_,rfl⟩;rw[hbud]at hb hb2 hrn;obtain⟨bo,hbo⟩:∃bo,w.heap.size=bo:=⟨_,rfl⟩;have key:∀W:World,zG w W->W.heap[bo+1]?=some (.cells #[pT bt,vI 0,vI bud,vI 0] 164 (0,0))->Calls prog 74 #[.pointer (some ⟨bo+1,0,none⟩),vI ((Rf.T.sz t-1:Nat):Int),.pointer none] W λe w'=>∃v,e=.returned v/\W.grownBy w' (some (bo+1))/\w'.heap[bo+1]?=some (.cells #[pT bt,vI st.steps,vI bud,vI st.fin] 164 (0,0))/\(r=none->v=.pointer none)/\∀x,r=some x->(∃b,v=pT b)/\TC w' v [] (Fa x [])/\(Fa x []).length<=1700:=by
  refine bV λW hW hr=>?_;let C:Tc:=⟨bo+1,bt,s,body,fill (ixF body) (ixT body) t 0 [],tv,nv,((Rf.T.sz t-1:Nat):Int),-1,ixF body,ixT body,bud⟩;have hP:Plc C t 0 []:=⟨λi x hi=>by rw[Nat.zero_add];exact hi,zqt hG,zq3 hG λtk hk h2 v hv=>by
   obtain⟨i,hi⟩:=List.getElem?_of_mem hk
   have:=(hL.Eh.1 tk hk).int h2;exact⟨tk,by rw[show C.f tk.fr=i from Fe hL hi];exact hi,hv,by simpa using this.2⟩,λq hq=>by cases hq⟩
  have HO:=zti (C:=C) hb hrn (yD _) 0 [] hP;rw[Nat.zero_add]at HO;go_call (HO W [] (.pointer none) ⟨hR.grown hW,hr,rfl,List.Pairwise.nil,λi b v h=>by simp at h⟩ .nil) as e w' ⟨v,K2,rfl,hg,hRW,hno,hso⟩;refine⟨v,rfl,hg,hRW.run,hno,λx hx=>⟨(hso x hx).blk,zn7 (hso x hx) [] sM,?_⟩⟩
  have:=((hso x hx).len []).2.2 sM;omega
 obtain⟨-,-,-,t3,-⟩:=hR.cells;have A1:=zwA w (.cells #[vI 0,vI 0,.string ⟨#[]⟩] 39) none;have A2:=Aj A1 (.cells #[pT bt,vI 0,vI n,vI 0] 164);have N1:=(Below.heap_alloc (w.alloc (.cells #[vI 0,vI 0,.string ⟨#[]⟩] 39)) (.cells #[pT bt,vI 0,vI n,vI 0] 164) w.heap.size sM).trans (Ac w _);have N2:=Ac (w.alloc (.cells #[vI 0,vI 0,.string ⟨#[]⟩] 39)) (.cells #[pT bt,vI 0,vI n,vI 0] 164);rw[World.size_alloc]at N2;go_in;go_upto_region 2 with fail;generalize (w.alloc (.cells #[vI 0,vI 0,.string ⟨#[]⟩] 39)).alloc (.cells #[pT bt,vI 0,vI n,vI 0] 164)=w2 at A2 N1 N2 ⊢;rw[hbo]at N1 N2;have hlow:w.heap.size<=bo:=oM;obtain⟨d0,d1,d2,d3⟩:=Jp N2;have f2:w2.frozen? ⟨bo+1,2,none⟩=false:=eB _ _ _ _ _ N2;rcases(show n<0/\bud=0\/¬n<0/\3000<n/\bud=3000\/¬n<0/\¬3000<n/\n=(bud:Int) by omega)with⟨h1,rfl⟩|⟨h1,h2,rfl⟩|⟨h1,h2,rfl⟩
 all_goals clear hb2 hbud hbo
 go_upto_region 6 with fail;have G3:=Hf A2 (g:=bo+1) oM 2 (vI 0);have R3:=Bu (j:=2) N2 (vI 0);have O3:=(aA w2 ⟨bo+1,2,none⟩ bo (vI 0) sM).trans N1;generalize w2.setCell ⟨bo+1,2,none⟩ (vI 0)=w3 at G3 R3 O3 ⊢;rotate_left;have G3:=Hf A2 (g:=bo+1) oM 2 (vI 3000);have R3:=Bu (j:=2) N2 (vI 3000);have O3:=(aA w2 ⟨bo+1,2,none⟩ bo (vI 3000) sM).trans N1;generalize w2.setCell ⟨bo+1,2,none⟩ (vI 3000)=w3 at G3 R3 O3 ⊢;rotate_left;have G3:=A2;have R3:=N2;have O3:=N1
 all_goals
  obtain⟨-,-,-,t3,-⟩:=(hR.grown G3).cells;go_wp21;go_call key _ G3 R3 as e1 w4 ⟨v,rfl,hg,hr,hno,hso⟩;have G4:zG w w4:=⟨hg.os.trans G3.os,hg.tape.trans G3.tape,hg.output.trans G3.output,kB G3.size hg.size,λk hk _=>(hg.block k (aB hk G3.size) (by simp;omega)).trans (G3.block k hk sM)⟩;have O4:=(hg.block bo (zgE.1 O3).1 sM).trans O3;obtain⟨c0,c1,c2,f0,f1,f2⟩:=Ag O4;obtain⟨d0,d1,d2,d3⟩:=Jp hr;cases r with
  |none=>
   obtain rfl:=hno rfl;obtain⟨rfl,rfl,rfl⟩:st.fin=kind/\st.steps=steps/\[]=shown:=(by simpa using hf);go_wp21;go_region;go_wp21;obtain⟨e0,e1,e2,_,_,_⟩:=Ag (Px O4 (vI st.fin) (vI st.steps) (.string ⟨#[]⟩));refine bodyPost_ret (v:=.agg #[vI st.fin,vI st.steps,ug []]) (by simp[results,results44,go_sem,e0,e1,e2]) rfl ⟨rfl,?_⟩;exact Ad (Hf (Hf (Hf G4 oM 0 _) oM 1 _) oM 2 _)
  |some x=>
   obtain⟨rfl,rfl,hsh⟩:0=kind/\st.steps=steps/\Lx 400 (Gk x [])=shown:=(by simpa using hf);obtain⟨⟨b,rfl⟩,hT,hlen⟩:=hso x rfl;have TT:=hT w4 (Aa _);rw[zn6]at hsh;generalize Fa x []=S at TT hlen hsh;have hlz:S.toArray.size=S.length:=sM;go_wp21;go_call TT as e1 w5 ⟨rfl,hg⟩;have G5:=Ab G4 hg;have O5:=(hg.block bo (zgE.1 O4).1 sM).trans O4;obtain⟨d0,d1,d2,d3⟩:=Jp ((hg.block _ (zgE.1 hr).1 sM).trans hr);obtain⟨c0,c1,c2,f0,f1,f2⟩:=Ag O5;have fin:∀W:World,∀l:zU,W=((w5.setCell (aD bo 0) (vI 0)).setCell (aD bo 1) (vI st.steps)).setCell (aD bo 2) (ug l)->zG w W/\W.cell? (aD bo 0)=some (vI 0)/\W.cell? (aD bo 1)=some (vI st.steps)/\W.cell? (aD bo 2)=some (ug l):=by
    rintro W l rfl;obtain⟨e0,e1,e2,_,_,_⟩:=Ag (Px O5 (vI 0) (vI st.steps) (ug l));exact⟨Hf (Hf (Hf G5 oM 0 _) oM 1 _) oM 2 _,e0,e1,e2⟩
   by_cases hl:400<S.length
   ·have hli:(400:Int)<(S.length:Int):=oM;obtain rfl:[46,46,46]=shown:=(by rw[<-hsh,Lx,mA hl]);go_wp21;obtain⟨g,e0,e1,e2⟩:=fin _ _ rfl;exact bodyPost_ret (v:=.agg #[vI 0,vI st.steps,ug [46,46,46]]) (by simp[results,results44,go_sem,e0,e1,e2]) rfl ⟨rfl,g⟩
   ·have hli:¬(400:Int)<(S.length:Int):=oM;obtain rfl:S=shown:=(by rw[<-hsh,Lx,jA hl]);go_wp21;obtain⟨g,e0,e1,e2⟩:=fin _ _ rfl;exact bodyPost_ret (v:=.agg #[vI 0,vI st.steps,ug S]) (by simp[results,results44,go_sem,e0,e1,e2]) rfl ⟨rfl,g⟩
end
section
open Tw Go.Proofs.Tryz
open Go.RowKit
section
variable{w0 w:World}{bw N:Nat}{X:List LTx}
theorem zog(c:Int)(n:Nat)(f :-9223372036854775808<=c)(g:c<=9223372036854775807)(b:0<n)(i:n<=1000000):
  ∃r:Nat,r<n/\∀w:World,Calls prog 41 #[vI c,vI n] w λe w'=>e=.returned (vI r)/\w=w':=by
 by_cases h:c<0
 ·have⟨r,d,a⟩:=zgb (-(c+1)) n oM b;rw[Int.neg_tmod]at d;refine⟨r,a,λw=>?_⟩;go_in;go_wp21;go_ret;exact⟨rfl,rfl⟩
 ·have⟨r,d,a⟩:=zgb c n oM b;refine⟨r,a,λw=>?_⟩;go_in;go_wp21;go_ret;exact⟨rfl,rfl⟩
theorem zq5:∀(X:List LTx) (i:Nat) (h:i<X.length),(txC X)[i*2]?=some (.pointer (some ⟨X[i].bt,0,none⟩))/\(txC X)[i*2+1]?=some (.pointer (some ⟨X[i].br,0,none⟩))
 |c::cs,0,_=>⟨rfl,rfl⟩
 |c::cs,i+1,h=>by
  have:=zq5 cs i (by simpa using h);rw[show(i+1)*2=(i*2)+2 by omega,show i*2+2+1=(i*2+1)+2 by omega];exact this
theorem Lawful.grown{w':World}{N':Nat}(h:Lawful w0 w bw X N)(b:zG w w')(a:N<=N'):Lawful w0 w' bw X N':=by
 have⟨m,i,g,l,k,j,d,c,f,e,h⟩:=h;exact⟨_,_,_,_,_,_,_,_,_,_,h.Hv b a⟩
theorem zhk{b:Nat}{l:zU}{t:Tw.T}{sh:zU}(h:∀n,b<=n->Kf 6100 n l=some (.Ja t sh)):∃c a,t.freeS []=none/\Ah t .nil=some c/\c<=2000/\ofS b t=some (some a.shown)/\Ws t a:=by
 have⟨_,_,_,_,_,o⟩:=Kr (h b (znL _));have⟨_,g,⟨c,e,f⟩,i⟩:=Qo o;have⟨q,r,j,k⟩:=zd6 e f;have⟨_,_,_,_,_,p⟩:=Kr (h (max b q) (Nat.le_max_left _ _));have d:=(Qo p).2.2.2;rw[j _ (Nat.le_max_right _ _)]at d;rcases k with⟨rfl,_⟩|⟨a,rfl,m⟩
 ·cases d
 ·cases d;exact⟨c,a,g,e,f,i,m⟩
def zrn(w0:World)(bw:Nat)(X:List LTx)(N:Nat)(e:Ending)(w':World):Prop:=e=.returned (.bool true)/\∃a,Lawful w0 w' bw a (N+3000)/\X.length<=a.length
theorem zkg(L:zwe)(h:Lawful w0 w bw X N){on at':Int}(s:ByteArray):
  Calls prog 30 #[pT bw,.agg #[vI 1,vI on,vI at',.string s]] w (zrn w0 bw X N):=by
 have b:=zwA w (.cells #[vI 1,vI on,vI at',.string s] 65) none;have H:=h.grown b (znL _);have a:=Ac w (.cells #[vI 1,vI on,vI at',.string s] 65);go_in;go_upto_region 1 with fail;generalize w.alloc (.cells #[vI 1,vI on,vI at',.string s] 65)=w1 at H a ⊢;generalize w.heap.size=bo at a ⊢;have⟨c,d,e,f⟩:=Jp a;go_wp21;go_call zdg L H s as e1 w2 ⟨rfl,X',hL,hX⟩;go_wp21;go_ret;exact⟨rfl,X',hL.grown (Aa _) oM,hX⟩
end
theorem zbc(L:zt9){w0 w:World}(hT:Tab w0)(hG:1<w0.heap.size){bw:Nat}{X:List LTx}{N:Nat}(h:Lawful w0 w bw X N)(hN:N<=50000000000){k on at':Int}(s:ByteArray)(hk:k<=5)(ho1 :-9223372036854775808<=on)(ho2:on<=9223372036854775807):
  Calls prog 30 #[pT bw,.agg #[vI k,vI on,vI at',.string s]] w (zrn w0 bw X N):=by
 by_cases hk1:k=1
 ·subst hk1;exact zkg ⟨L.ib,L.pi,L.it⟩ h s
 have hk1b:(k==1)=false:=by simpa using hk1
 have g0:=zwA w (.cells #[vI k,vI on,vI at',.string s] 65) none;have⟨tx,bn,bm,nu,nm,count,BN,BM,NU,MV,h⟩:=h;have H:=h.Hv g0 (znL _);have nb:=Ac w (.cells #[vI k,vI on,vI at',.string s] 65);obtain⟨pt,ct,rfl⟩:=Ij h.texts;have hXm:=h.many;go_in;go_upto_region 1 with fail;generalize w.alloc (.cells #[vI k,vI on,vI at',.string s] 65)=w1 at H nb ⊢;generalize w.heap.size=bo at nb ⊢;have⟨c0,c1,c2,c3⟩:=Jp nb;obtain⟨t0,-⟩:=H.ls.lw.cells;by_cases hX:X.length=0
 ·have hXb:((X.length:Int)==0)=true:=by simp[hX]
  go_wp21;go_ret;exact⟨rfl,X,⟨_,_,_,_,_,_,_,_,_,_,H.Hv (Aa _) oM⟩,znL _⟩
 ·have hXb:((X.length:Int)==0)=false:=by rw[beq_eq_false_iff_ne];omega
  have⟨r,hr,hpick⟩:=zog on X.length ho1 ho2 oM oM;go_wp21;go_quiet (first|(go_at_call 41;refine Calls.quiet_of_same ((hpick _).mono λ_ _ ⟨he,hw⟩=>⟨he,hw.symm⟩)));obtain⟨w2,hw2⟩:∃w2,w1.drewN nq=w2:=⟨_,rfl⟩;have g2:zG w1 w2:=by rw[<-hw2];exact Cc _ _
  rw[hw2];have⟨a1,a2⟩:=zq5 X r hr;have H2:=H.Hv g2 (znL _);have NB2:=zbG g2 nb;obtain⟨gt,rfl,y0,-⟩:=Ya H2.texts a1;obtain⟨_,q,y1,-⟩:=Ya H2.texts a2;cases q;obtain⟨t0,-⟩:=H2.ls.lw.cells;have hri:(r:Int)<(X.length:Int):=oM;obtain⟨x,hx⟩:∃x,X[r]=x:=⟨_,rfl⟩;have hxm:x∈X:=by rw[<-hx];exact List.getElem_mem hr
  rw[hx]at y0 y1;have g3:=zwA w2 (.cells #[pT x.bt,pT x.br] 98) none;have H3:=H2.Hv g3 (znL _);have n3:=Ac w2 (.cells #[pT x.bt,pT x.br] 98);have NB3:=zbG g3 NB2;go_upto_region 7 with fail;generalize w2.alloc (.cells #[pT x.bt,pT x.br] 98)=w3 at H3 n3 NB3 ⊢;generalize w2.heap.size=bx at n3 ⊢;have⟨x0,x1⟩:=Ky n3;have⟨c0,c1,c2,c3⟩:=Jp NB3;have AX:=H3.at' x hxm;by_cases hk2:k=2
  ·subst hk2;go_wp21;go_call zi8 AX.text as e1 w4 ⟨rfl,rfl⟩;have⟨_,_,_,_,hRT,_⟩:=AX.tree;obtain⟨y0,-⟩:=hRT.cells;go_wp21;go_ret;exact⟨rfl,X,⟨_,_,_,_,_,_,_,_,_,_,H3.Hv (Aa _) oM⟩,znL _⟩
  have hk2b:(k==2)=false:=by simpa using hk2
  by_cases hk3:k=3
  ·subst hk3;go_wp21;go_call zkf ⟨_,_,_,_,_,_,_,_,_,_,H3⟩ hN hxm as e1 w4 ⟨rfl,h4⟩;go_wp21;go_ret;exact⟨rfl,X,h4,znL _⟩
  have hk3b:(k==3)=false:=by simpa using hk3
  by_cases hk4:k=4
  ·subst hk4;have⟨wt,a,hfree,hwt,hwl,hof,hmost⟩:=zhk AX.opn;go_wp21;go_call (zpl (S:=WtS) AX.text (zjo L.it hof)) as e1 w4 ⟨rfl,hk⟩;have H4:=H3.Hv hk.grown (znL _);have A4:=AX.grown hk.grown;have⟨x0,x1⟩:=Ky (zbG hk.grown n3);go_wp21;go_call zdd A4.tree hfree hwt hwl as e1 w5 ⟨hg,⟨rfl,hno⟩|⟨a',hM,rfl⟩⟩
   ·exact absurd (Wl hmost) (hno _)
   ·rw[show a'.shown=a.shown from zjm hmost hM λb=>Iff.rfl];have H5:=H4.Hv hg (Nat.le_add_right N 3000);go_wp21;go_ret;exact⟨rfl,X,⟨_,_,_,_,_,_,_,_,_,_,H5⟩,znL _⟩
  have hk4b:(k==4)=false:=by simpa using hk4
  by_cases hk5:k=5
  ·subst hk5;obtain⟨wt,a,-,-,-,-,hmost⟩:=zhk AX.opn;have⟨fuel,⟨kd,sp,sw⟩,hrun⟩:=zp0 (AX.opn _ (znL _)) (Lb at');have HM:=Wl hmost;have GW:=H3.grown;have TW:=hT.tk (TK.Ae w0.heap.size [] GW) hG;have hGW:1<w3.heap.size:=aB hG GW.size;go_wp21;go_call zsj L.fi L.fb at' AX.text TW hGW hrun as e1 w4 ⟨rfl,hk⟩;have H4:=H3.Hv hk.grown (znL _);have A4:=AX.grown hk.grown;have N4:=zbG hk.grown n3;have B4:=zbG hk.grown NB3;have⟨x0,x1⟩:=Ky N4;have⟨c0,c1,c2,c3⟩:=Jp B4;have g5:=zwA w4 (.cells #[vI kd,vI sp,ug sw] 39) none;have n5:=Ac w4 (.cells #[vI kd,vI sp,ug sw] 39);have H5:=H4.Hv g5 (znL _);have A5:=A4.grown g5;have N5:=zbG g5 N4;have B5:=zbG g5 B4;go_upto_region 19 with fail;generalize w4.alloc (.cells #[vI kd,vI sp,ug sw] 39)=w5 at H5 A5 N5 B5 n5 ⊢;generalize w4.heap.size=ba at n5 ⊢;have⟨x0,x1⟩:=Ky N5;have⟨c0,c1,c2,c3⟩:=Jp B5;go_wp21;go_call zq4 A5.tree HM at' hrun as e1 w6 ⟨rfl,hg⟩;have H6:=H5.Hv hg (Nat.le_add_right N 3000);have O6:=zbG hg n5;have g7:=zwA w6 (.cells #[vI kd,vI sp,ug sw] 39) none;have n7:=Ac w6 (.cells #[vI kd,vI sp,ug sw] 39);have H7:=H6.Hv g7 (znL _);have O7:=zbG g7 O6;go_upto_region 20 with fail;generalize w6.alloc (.cells #[vI kd,vI sp,ug sw] 39)=w7 at H7 O7 n7 ⊢;generalize w6.heap.size=bb at n7 ⊢;obtain⟨p0,p1,p2,-,-,-⟩:=Ag O7;obtain⟨q0,q1,q2,-,-,-⟩:=Ag n7;go_wp21;go_ret;exact⟨rfl,X,⟨_,_,_,_,_,_,_,_,_,_,H7⟩,znL _⟩
  have hk5b:(k==5)=false:=by simpa using hk5
  have hk6b:(k==6)=false:=by simp;omega
  have hk7b:(k==7)=false:=by simp;omega
  go_wp21;go_ret;exact⟨rfl,X,⟨_,_,_,_,_,_,_,_,_,_,H3.Hv (Aa _) oM⟩,znL _⟩
end
section
open Go.Proofs.Tryz
open Go.RowKit
section
variable{w w0:World}{bw N:Nat}{X:List LTx}
structure zbn(w:World)(ar:Option Addr)(len:Nat):Prop where
 small:len<=2000000
 get:∀i,i<len->∃a k on at' s,ar=some a/\w.cell? (a.add (i*4))=some (.int .i64 k)/\w.cell? ⟨(a.add (i*4)).block,(a.add (i*4)).off+1,none⟩=some (.int .i64 on)/\w.cell? ⟨(a.add (i*4)).block,(a.add (i*4)).off+2,none⟩=some (.int .i64 at')/\w.cell? ⟨(a.add (i*4)).block,(a.add (i*4)).off+3,none⟩=some (.string s)/\(-9223372036854775808<=on/\on<=9223372036854775807) /\ -9223372036854775808<=at'/\at'<=9223372036854775807
theorem zbn.grown{w':World}{b:Option Addr}{len:Nat}(h:zbn w b len)(a:zG w w'):zbn w' b len:=by
 refine⟨h.small,λm l=>?_⟩;have⟨c,k,n,at',s,d,e,f,g,i,j⟩:=h.get m l;exact⟨c,k,n,at',s,d,cell_kept e a sM,cell_kept f a sM,cell_kept g a sM,cell_kept i a sM,j⟩
theorem Lawful.low(h:Lawful w0 w bw X N):zG w0 w:=by
 have⟨k,f,e,j,i,g,b,a,d,c,h⟩:=h;exact h.grown
theorem Lawful.start(w:World):Lawful w (w.alloc (.cells #[zN,zN,zN,zN,zN,vI 0] 61)) w.heap.size [] 0:=by
 refine⟨zN,zN,zN,zN,zN,0,[],[],[],[],⟨⟨Ac w _,mD _ _ _ _,mD _ _ _ _,mD _ _ _ _,mD _ _ _ _,λi v m h=>(by simp at h),λi v m h=>(by simp at h),λv h=>(by cases h),rfl,znL _,λg a=>a.elim⟩,mD _ _ _ _,λx c=>(by cases c),sM,rfl,⟨znL _,znL _,znL _⟩,zwA _ _ none,znL _,λv b g a=>?_⟩⟩;simp[List.mem_cons,List.not_mem_nil,or_false]at b;rcases b with rfl|rfl|rfl|rfl|rfl<;>simp[Value.ownBlock]at a
theorem zkh(h:Lawful w0 w bw X N)(j:N<=1000000000000):
  Calls prog 31 #[pT bw] w λe w'=>e=.returned (.bool true)/\Lawful w0 w' bw X N:=by
 have⟨p,g,f,o,n,i,b,a,d,c,h⟩:=h;have⟨k,l,m⟩:=h.small;go_call zof h.ls h.Yg oM oM as e w' ⟨rfl,hg⟩;exact⟨rfl,_,_,_,_,_,_,_,_,_,_,h.Hv hg (znL _)⟩
end
section
variable{w:World}{ar:Option Addr}{len cap:Nat}
theorem zhl(L:zt9)(g:Tab w)(d:1<w.heap.size)(f:zbn w ar len){last:Nat}(D:3<=last)(E:last<=5):
  Calls prog 14 #[.slice ar len cap,vI last] w λe w'=>e=.returned (.bool true)/\zG w w':=by
 have F:=f.small;have c:=Lawful.start w;go_in;go_upto_region 2 with fail;generalize w.alloc (.cells #[zN,zN,zN,zN,zN,vI 0] 61)=w1 at c ⊢;generalize w.heap.size=bw at c ⊢;go_wp21;go_call zdg ⟨L.ib,L.pi,L.it⟩ c _ as e1 w2 ⟨rfl,X2,h2,-⟩;go_wp21;go_loopg[6,7] (last-1) (λm ok r wr=>∃(k:Nat) (X:List LTx),ok=.bool true/\r=vI k/\2<=k/\k+m=last+1/\(Lawful w wr bw X (3000*k)))
 case atStart=>exact⟨2,X2,rfl,rfl,znL _,oM,(h2.grown (Aa _) oM)⟩
 case round=>
  obtain⟨k,X,rfl,rfl,z,C,a⟩:=hrel;rcases jD (show k<=last+1 by omega)with l|h;rotate_left
  ·have p:(k:Int)<=(last:Int):=oM;have A:(k:Int)<=5:=oM;obtain⟨m,rfl⟩:∃m,gk=m+1:=⟨gk-1,oM⟩;go_wp21;go_call (zbc L g d a oM (k:=(k:Int)) (on:=0) (at':=9) _ oM oM oM) as e1 w4 ⟨rfl,X4,h4,-⟩;go_wp21;go_roundg m
   case measure=>omega
   case rel=>exact⟨k+1,X4,rfl,by push_cast;rfl,oM,oM,(h4.grown (Aa _) oM)⟩
  ·have p:¬(k:Int)<=(last:Int):=oM;go_wp21;go_loopg[6,8] len (λm ok q wr=>∃(i:Nat) (X:List LTx),ok=.bool true/\q=vI i/\i+m=len/\(Lawful w wr bw X (3000*(i+10))))
   case atStart=>exact⟨0,X,rfl,rfl,oM,(a.grown (Aa _) oM)⟩
   case round=>
    obtain⟨i,j,rfl,rfl,y,a⟩:=hrel;rcases jD (show i<=len by omega)with l|h
    ·have o:¬(i:Int)<(len:Int):=oM;go_wp21;go_ret;exact⟨rfl,a.low⟩
    ·have o:(i:Int)<(len:Int):=oM;obtain⟨m,rfl⟩:∃m,gk=m+1:=⟨gk-1,oM⟩;obtain⟨x,b,on,at',v,rfl,G,H,I,J,⟨s,t⟩,-⟩:=(f.grown a.low).get i h;by_cases B:b<=(last:Int)
     ·have n:¬b>(last:Int):=oM;go_wp21;go_call (zbc L g d a oM (k:=b) (on:=on) (at':=at') v oM s t) as e1 w4 ⟨rfl,X4,h4,-⟩;go_wp21;go_call zkh h4 oM as e1 w5 ⟨rfl,h5⟩;go_wp21;go_roundg m
      case measure=>omega
      case rel=>exact⟨i+1,X4,sM,by push_cast;rfl,oM,(h5.grown (Aa _) oM)⟩
     ·have n:b>(last:Int):=oM;go_wp21;go_roundg m
      case measure=>omega
      case rel=>exact⟨i+1,j,rfl,by push_cast;rfl,oM,(a.grown (Aa _) oM)⟩
theorem zq6(L:zt9)(c:Tab w)(a:1<w.heap.size)(b:zbn w ar len):
  Calls prog 5 #[.slice ar len cap] w λe w'=>e=.returned (.bool true)/\zG w w':=by
 have P:=zhl (cap:=cap) L c a b (last:=5) oM oM;go_in;go_wp21;go_call P as e1 w2 ⟨rfl,hg⟩;go_wp21;go_ret;exact⟨rfl,hg⟩
end
end
end Go.Proofs.YtckhafpejefbbaaGreatDoor
