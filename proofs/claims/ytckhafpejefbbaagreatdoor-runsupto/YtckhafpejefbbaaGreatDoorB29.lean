import Derived.Test.YtckhafpejefbbaaGreatDoorB28
import Derived.Laws.AppendOwnNone

set_option maxRecDepth 100000
set_option maxHeartbeats 16000000
namespace Go.Proofs.YtckhafpejefbbaaGreatDoor
section
open Tw Tw.Rf Go.Proofs.Tryz
open Go.RowKit
section
structure RT(w:World)(B bt:Nat)(s:ByteArray)(body:List Tw.Tok)(N:List RN)(tv nv:Value)(root er:Int):Prop where
 tree:w.heap[bt]?=some (.cells #[.string s,tv,nv,.int .i64 root,.int .i64 er] 102 (0,0))
 Eh:w.ownsRow 0 273 3 tv body.length (Dk s.data.toList body)
 nodes:w.ownsRow B 276 9 nv N.length (Fo N)
 many:body.length<=300
 few:N.length<=5000
section
variable {w:World}{B bt:Nat}{s:ByteArray}{body:List Tw.Tok}{N:List Tw.Rf.RN}{tv nv:Value}{root er:Int}
variable{w' w a b c:World}{k size:Nat}{v:Value}{L:List Nat}{e:TypeId}{xs:List Value}{o:Option Nat}
theorem RT.cells(h:RT w B bt s body N tv nv root er):w.cell? (aD bt 0)=some (.string s)/\w.cell? (aD bt 1)=some tv/\w.cell? (aD bt 2)=some nv/\w.cell? (aD bt 3)=some (vI root)/\w.cell? (aD bt 4)=some (vI er):=by
 refine⟨?_,?_,?_,?_,?_⟩<;>(rw[mB _ _ _ _ _ _ h.tree];rfl)
theorem RT.zv1(h:RT w B bt s body N tv nv root er):some bt≠nv.ownBlock:=λe=>by
 rcases h.nodes.2 with⟨d,_⟩|⟨j,g,i,d,_,f,_⟩
 ·rw[d]at e;simp[Value.ownBlock]at e
 ·rw[d]at e;simp[Value.ownBlock]at e;rw[<-e]at f;have:=h.tree;rw[f]at this;cases this
theorem RT.zwf(h:RT w B bt s body N tv nv root er){g:Nat}{c:Array Value}{u:TypeId}(j:u≠276)(i:zH w g c u):some g≠nv.ownBlock:=λe=>by
 rcases h.nodes.2 with⟨d,_⟩|⟨n,l,m,d,_,f,_⟩
 ·rw[d]at e;simp[Value.ownBlock]at e
 ·rw[d]at e;simp[Value.ownBlock]at e;rw[<-e,i]at f;cases f;exact j rfl
theorem RT.grown(h:RT w B bt s body N tv nv root er)(f:zG w w'):RT w' B bt s body N tv nv root er:=
 {h with
  tree:=zbG f h.tree
  Eh:=Ai h.Eh λ_ _ d=>zbG f d
  nodes:=Ai h.nodes λ_ _ d=>zbG f d}
theorem zj3{N:List RN}:∀ {j:Nat} {x:RN},N[j]?=some x->∀m,m<9->(Fo N)[j*9+m]?=(Pe x)[m]? :=by
 induction N with
 |nil=>intro j x h;simp at h
 |cons y N ih=>
  intro j x h m d;cases j with
  |zero=>
   cases h;rw[Fo,Nat.zero_mul,Nat.zero_add,iA (by simpa[Pe]using d)]
  |succ j=>
   rw[Fo,fB (by simp[Pe];omega)];rw[show(j+1)*9+m-(Pe y).length=j*9+m by simp[Pe];omega];exact ih (by simpa using h) m d
theorem RT.node(h:RT w B bt s body N tv nv root er){x:RN}(d:N[k]?=some x):∃g cap,nv=sL g N.length cap/\w.cell? (aD g (k*9))=some (vU x.sort)/\w.cell? (aD g (k*9+1))=some (vI x.a)/\w.cell? (aD g (k*9+2))=some (vI x.b)/\w.cell? (aD g (k*9+3))=some (vI x.c)/\w.cell? (aD g (k*9+4))=some (vI x.first)/\w.cell? (aD g (k*9+5))=some (vI x.last)/\w.cell? (aD g (k*9+6))=some (vI x.name)/\w.cell? (aD g (k*9+7))=some (vI x.binder)/\w.cell? (aD g (k*9+8))=some (.bool false)/\w.frozen? (aD g (k*9+7))=false:=by
 have q:=(zlE.1 d).1;have j:=zj3 d;have f:=h.nodes;rcases h.nodes.2 with⟨_,p⟩|⟨g,cap,n,e,_,i,_⟩
 ·omega
 ·rw[e]at f;have c:∀m,m<9->w.cell? ⟨g,k*9+m,none⟩=(Pe x)[m]? :=λm l=>(f.cellAt _ oM).trans (j m l);exact⟨g,cap,e,c 0 oM,c 1 oM,c 2 oM,c 3 oM,c 4 oM,c 5 oM,c 6 oM,c 7 oM,c 8 oM,eB _ _ _ _ _ i⟩
def LAt(W:World)(v:Value)(l:List Nat):Prop:=W.ownsRow 0 3 1 v l.length (l.map λf:Nat=>Value.int .i64 f)
theorem LAt.kept(h:LAt w v L)(f:RT w B bt s body N tv nv root er)(g:w.grownBy w' nv.ownBlock):LAt w' v L:=
 Ai h λ_ _ d=>(g.block _ (zgE.1 d).1 (f.zwf dZ d)).trans d
theorem LAt.grown(g:LAt w v L)(f:zG w w'):LAt w' v L:=
 Ai g λ_ _ d=>zbG f d
theorem Lu{B:Nat}(h:w.ownsRow B e size v k xs):w.ownsRow 0 e size v k xs:=by
 refine⟨h.1,?_⟩;rcases h.2 with h|⟨i,d,f,g,_,r⟩
 ·exact .inl h
 ·exact .inr ⟨i,d,f,g,yD _,r⟩
theorem A6(h:a.grownBy b o)(k:b.grownBy c o):a.grownBy c o:=
 ⟨k.os.trans h.os,k.tape.trans h.tape,k.output.trans h.output,kB h.size k.size,λi d f=>(k.block i (aB d h.size) f).trans (h.block i d f)⟩
theorem He(h:zG a b):a.grownBy b o:=⟨h.os,h.tape,h.output,h.size,λi d _=>h.block i d sM⟩
theorem zj4(h:zG a b)(g:b.ownsRow a.heap.size e size v k xs)(d:b.grownBy c v.ownBlock):zG a c:=
 ⟨d.os.trans h.os,d.tape.trans h.tape,d.output.trans h.output,kB h.size d.size,λi f _=>(d.block i (aB f h.size) (λe=>by have:=(g.lt i e.symm).1;omega)).trans (h.block i f sM)⟩
theorem J7(w:World)(a:Value)(t:TypeId):∀j u,[a][j]?=some u->(w.alloc (.cells #[a] t)).cell? (((aD w.heap.size 0):Addr).add j)=some u:=by
 intro j u h;cases j with
 |zero=>
  cases h;exact(Hg (Ac w _)).1
 |succ j=>simp at h
theorem zg3{P:Program}{D:Array Oper}{rest:List Oper}{o:Oper}{a:Act}{Q:Exit->Act->World->Prop}(q:o.guard=none)(s x:Operand)(t:TypeId)
  (r:o.op=.call {callee:=.builtin .append,args:=#[s,x],argTypes:=#[t,t]})
  (base:Nat) (e:TypeId) (i:TypeInfo) (z:Value) (j:Nat) (A:P.underlying t=some (.slice e)) (hi:P.info? e=some i) (S:i.zero=some z)
  (R:i.size=1) (M:i.bytes=j) (T:z.cells.size=1)
  (v:Value) (n:Nat) (xs:List Value) (y:a.eval s=v) (p:w.ownsRow base e 1 v n xs)
  (lv:Value) (m:Nat) (f:List Value) (C:a.eval x=lv) (d:w.ownsRow 0 e 1 lv m f) (H:∀u∈f,u.oneCell'=true)
  (I:n+m<=maxLen) (O:(n+m)*j<=140737488355328) (J:base<=w.heap.size)
  (h:∀g w',w'.ownsRow base e 1 g (n+m) (xs++f)->w.grownBy w' v.ownBlock->wpList P D Q rest (a.put o.dst g) w'):wpList P D Q (o::rest) a w:=by
 rcases d.2 with⟨l,rfl⟩|⟨G,E,U,l,_⟩
 ·have F:=List.eq_nil_of_length_eq_zero (by simpa using d.1);subst F;refine wpList_append_own_none q s x t r base e i 1 A hi v n xs y p (C.trans l) (h v w (by simpa using p) ⟨rfl,rfl,rfl,znL _,λ_ _ _=>rfl⟩)
 ·subst l;exact wpList_append_own w q s x t r base e i z 1 j A hi S R M T dZ v n xs y p (aD G 0) m E f C d.1 (d.cells rfl) H I O J (λg w' a b _=>h g w' a b)
def BC(B bt:Nat)(s:ByteArray)(body:List Tw.Tok)(tv nv:Value)(root er:Int)(k:Int)(L:List Nat)(N N':List RN):Prop:=
 ∀ {w:World} {d:Value},RT w B bt s body N tv nv root er->LAt w d L->Calls prog 122 #[.pointer (some ⟨bt,0,none⟩),.int .i64 k,d] w λe w'=>e=.returned (.tuple #[])/\w.grownBy w' nv.ownBlock/\RT w' B bt s body N' tv nv root er
theorem Xs(L:List Nat):BC B bt s body tv nv root er (-1) L N N:=by
 intro w f h d;go_in;go_wp21
 (try simp[Exit.inBlock,Exit.then]);refine bodyPost_ret (results_none rfl _ _ _) rfl ?_;exact⟨rfl,⟨rfl,rfl,rfl,znL _,λ_ _ _=>rfl⟩,h⟩
theorem Qv {k:Nat} {x:RN} {L:List Nat} {N':List RN} (hk:N[k]? = some x) (hL:L.length<=5000) (hsx:x.sort≠120)
    (hways:(x.sort=108/\∃N1,BC B bt s body tv nv root er x.a L N N1/\BC B bt s body tv nv root er x.b (L++[k]) N1 N')\/(x.sort=114/\∃N1,BC B bt s body tv nv root er x.a (L++[k]) N N1/\BC B bt s body tv nv root er x.b (L++[k]) N1 N')\/(x.sort=70/\BC B bt s body tv nv root er x.a (L++[k]) N N')\/((x.sort≠108/\x.sort≠114/\x.sort≠70)/\∃N1 N2,BC B bt s body tv nv root er x.a L N N1/\BC B bt s body tv nv root er x.b L N1 N2/\BC B bt s body tv nv root er x.c L N2 N')):BC B bt s body tv nv root er k L N N':=by
  intro w lv h hl
  have hklt:=(zlE.1 hk).1
  have⟨_,_,a2,_,_⟩:=h.cells
  obtain⟨g,cap,rfl,d0,d1,d2,d3,d4,d5,d6,d7,d8,_⟩:=h.node hk
  have hglt:=(h.nodes.lt g rfl).2
  have H:=bV h
  have HL:=bV hl
  have s1:¬(x.sort:Int)=120:=oM
  have hkl:(k:Int)<(N.length:Int):=oM
  have hk0:¬(k:Int)<0:=oM
  have hii:(prog.info? 3).map (λi=>(i.zero,i.size,i.bytes))=some (some (vI 0),1,8):=kR
  have⟨i0,hi,hz0,hz1,hz2⟩:=info_parts hii
  have HW:=bV hways
  have g1:=zwA w (.cells #[vU x.sort,vI x.a,vI x.b,vI x.c,vI x.first,vI x.last,vI x.name,vI x.binder,.bool false] 276) none
  have n1:=Ac w (.cells #[vU x.sort,vI x.a,vI x.b,vI x.c,vI x.first,vI x.last,vI x.name,vI x.binder,.bool false] 276)
  have l1:=hl.grown g1
  have hnb:w.heap.size<(w.alloc (.cells #[vU x.sort,vI x.a,vI x.b,vI x.c,vI x.first,vI x.last,vI x.name,vI x.binder,.bool false] 276)).heap.size:=sM
  obtain⟨w1,hw1⟩:∃w1,w.alloc (.cells #[vU x.sort,vI x.a,vI x.b,vI x.c,vI x.first,vI x.last,vI x.name,vI x.binder,.bool false] 276)=w1:=⟨_,rfl⟩
  rw[hw1]at g1 n1 l1 hnb
  have HW1:=bV hw1
  have G1:=bV g1
  have N1:=bV n1
  have HL1:=bV l1
  have hLm:L.length+1<=maxLen:=by unfold maxLen;omega
  clear h hl hways hw1 g1 n1 l1
  rcases HW.o with⟨e1,Na,hA,hB⟩|⟨e1,Na,hA,hB⟩|⟨e1,hA⟩|⟨⟨e1,e2,e3⟩,Na,Nb,hA,hB,hC⟩
  case' inl=>
    have S2:=bV (show(x.sort:Int)=108 by omega)
    have HA:=@hA
    have HB:=@hB
    clear hA hB e1
  case' inr.inl=>
    have S2:=bV (show(x.sort:Int)=114 by omega)
    have HA:=@hA
    have HB:=@hB
    clear hA hB e1
  case' inr.inr.inl=>
    have S2:=bV (show(x.sort:Int)=70 by omega)
    have HA:=@hA
    clear hA e1
  case' inr.inr.inr=>
    have s2:¬(x.sort:Int)=108:=oM
    have s3:¬(x.sort:Int)=114:=oM
    have s4:¬(x.sort:Int)=70:=oM
    have HA:=@hA
    have HB:=@hB
    have HC:=@hC
    clear hA hB hC e1 e2 e3
  all_goals
    go_in
    go_wp2_with (first
      | (at_builtin
         rw [uh HW1]
         refine zg3 rfl _ _ 33 rfl w1.heap.size 3 i0 (vI 0) 8 underlying33 hi hz0 hz1 hz2 rfl zN 0 [] rfl (mD _ _ _ _) lv L.length (L.map fun f:Nat=>vI f) rfl (uh HL1) (by intro u hu; simp at hu; obtain ⟨f,_,rfl⟩:=hu; rfl) oM oM (znL _) ?_
         intro v2 w2 hown2 hgrow2
         rw [Nat.zero_add,rD] at hown2
         have hz2':=hgrow2.size
         obtain ⟨p2,c2,rfl⟩:∃p c,v2 = .slice p L.length c:=by
           rcases hown2.2 with ⟨e1,e2⟩ | ⟨g2,cap2,_,e1,_⟩
           · exact ⟨_,_,by rw [e1,e2]⟩
           · exact ⟨_,_,e1⟩
         clear HW1)
      | (at_builtin
         refine wpList_append_own _ rfl _ _ 33 rfl w1.heap.size 3 i0 (vI 0) 1 8 underlying33 hi hz0 hz1 hz2 rfl dZ (.slice p2 L.length c2) L.length (L.map fun f:Nat=>vI f) rfl (hown2.alloc _) (aD w2.heap.size 0) 1 1 [vI k] rfl rfl (J7 _ _ _) (by intro u hu; simp at hu; subst hu; rfl) hLm oM (by simp; omega) ?_
         intro v3 w3 hown3 hgrow3 _
         have G3:=bV (zj4 (Ab hgrow2 (zwA w2 _ none)) (hown2.alloc _) hgrow3)
         have L3:=bV (show LAt w3 v3 (L ++ [k]) by have:=Lu hown3; simpa [LAt] using this)
         have GA:=bV (Ab G1.o G3.o)
         have TA:=bV (H.o.grown GA.o)
         have LA:=bV (HL.o.grown GA.o)
         have N3:=(G3.o.block _ hnb sM).trans N1.o
         have m0:w3.cell? (aD w.heap.size 0)=some (vU x.sort):=zcR N3
         have m1:w3.cell? (aD w.heap.size 1)=some (vI x.a):=zcR N3
         try have s2:=S2.o
         clear hown3 hgrow3 hown2 hgrow2))
  · go_call HA TA.o LA.o as e1 w4 ⟨rfl,hg4,hT4⟩
    have N4:=(hg4.block _ (zgE.1 N3).1 (by simp[Value.ownBlock];omega)).trans N3
    have m2:w4.cell? (aD w.heap.size 2)=some (vI x.b):=zcR N4
    have L4:=LA.o.kept TA.o hg4
    go_wp21
    go_call HB hT4 L4 as e1 w5 ⟨rfl,hg5,hT5⟩
    have N5:=(hg5.block _ (zgE.1 N4).1 (by simp[Value.ownBlock];omega)).trans N4
    have m3:w5.cell? (aD w.heap.size 3)=some (vI x.c):=zcR N5
    have L5:=L4.kept hT4 hg5
    clear N5
    go_wp21
    go_call HC hT5 L5 as e1 w6 ⟨rfl,hg6,hT6⟩
    go_wp21
    go_end0
    exact⟨rfl,A6 (He GA.o) (A6 hg4 (A6 hg5 hg6)),hT6⟩
  · go_call HA TA.o L3.o as e1 w4 ⟨rfl,hg4,hT4⟩
    go_wp21
    go_end0
    exact⟨rfl,A6 (He GA.o) hg4,hT4⟩
  · go_call HA TA.o L3.o as e1 w4 ⟨rfl,hg4,hT4⟩
    have N4:=(hg4.block _ (zgE.1 N3).1 (by simp[Value.ownBlock];omega)).trans N3
    have m2:w4.cell? (aD w.heap.size 2)=some (vI x.b):=zcR N4
    have L4:=L3.o.kept TA.o hg4
    clear N4
    go_wp21
    go_call HB hT4 L4 as e1 w5 ⟨rfl,hg5,hT5⟩
    go_wp21
    go_end0
    exact⟨rfl,A6 (He GA.o) (A6 hg4 hg5),hT5⟩
  · go_call HA TA.o LA.o as e1 w4 ⟨rfl,hg4,hT4⟩
    have N4:=(hg4.block _ (zgE.1 N3).1 (by simp[Value.ownBlock];omega)).trans N3
    have m2:w4.cell? (aD w.heap.size 2)=some (vI x.b):=zcR N4
    have L4:=L3.o.kept TA.o hg4
    clear N4
    go_wp21
    go_call HB hT4 L4 as e1 w5 ⟨rfl,hg5,hT5⟩
    go_wp21
    go_end0
    exact⟨rfl,A6 (He GA.o) (A6 hg4 hg5),hT5⟩
end
end
end
abbrev aE:=@List.set_append_right
section
open Tw Tw.Rf Go.Proofs.Tryz
open Go.RowKit
section
theorem za2:∀ {N:List RN} {k:Nat} {x:RN},N[k]?=some x->∀b:Int,(Fo N).set (k*9+7) (vI b)=Fo (N.set k {x with binder:=b})
 |[],k,x,h,b=>by simp at h
 |y::N,0,x,h,b=>by
  cases h;simp[Fo,Pe]
 |y::N,k+1,x,h,b=>by
  have a:=za2 (N:=N) (k:=k) (x:=x) (by simpa using h) b;simp[List.set_cons_succ,Fo];rw[aE _ _ (by simp[Pe];omega),show(k+1)*9+7-(Pe y).length=k*9+7 by simp[Pe];omega,a]
section
variable {w:World}{B bt:Nat}{s:ByteArray}{body:List Tw.Tok}{N:List Tw.Rf.RN}{tv nv:Value}{root er:Int}
theorem RT.zwp(h:RT w B bt s body N tv nv root er){k:Nat}{x:RN}(r:N[k]?=some x){g cap:Nat}(d:nv=sL g N.length cap)(b:Int):RT (w.setCell (aD g (k*9+7)) (vI b)) B bt s body (N.set k {x with binder:=b}) tv nv root er:=by
 have Aq:∀ {j:Nat} {o:Obj},some j≠nv.ownBlock->w.heap[j]?=some o->(w.setCell (aD g (k*9+7)) (vI b)).heap[j]?=some o:=λq v=>(aA w (aD g (k*9+7)) _ _ (by rintro rfl;exact q (by rw[d];rfl))).trans v;refine⟨Aq h.zv1 h.tree,Ai h.Eh λj c a=>Aq (h.zwf dZ a) a,?_,h.many,by rw[jB];exact h.few⟩;have t:=h.nodes;subst d;rcases t.2 with⟨e,_⟩|⟨A,y,z,e,f,i,l,m,n,p⟩
 ·cases e
 ·cases e;rw[jB];refine⟨by rw[zcg,jB],.inr ⟨g,cap,_,rfl,f,Bu i _,l,m,by simpa using n,?_⟩⟩;rw[bE,List.take_set,p];exact za2 r b
def Tw.Rf.lastOf(nm:Nat->zU)(x:zU):List Nat->Int->Int
 |[],b=>b
 |j::L,b=>lastOf nm x L (if nm j=x then(j:Int)else b)
theorem Tw.Rf.O8(nm:Nat->zU)(x:zU):∀(L:List Nat) (j:Nat) (b:Int),lastOf nm x (L++[j]) b=if nm j=x then(j:Int)else lastOf nm x L b
 |[],_,_=>rfl
 |_::L,j,_=>O8 nm x L j _
theorem zs0{k:Nat}{x:RN}{L:List Nat}(nm:Nat->zU)(hk:N[k]?=some x)(hL:L.length<=5000)(hsx:x.sort=120)(hf:x.first<body.length)
  (hnm:∀j∈L,j≠k/\∃y,N[j]?=some y/\y.name<body.length/\atT s.data.toList body y.name=nm j) :
  BC B bt s body tv nv root er k L N (N.set k {x with binder:=lastOf nm (atT s.data.toList body x.first) L x.binder}):=by
 intro w lv h hl;have hklt:=(zlE.1 hk).1;have⟨_,_,a2,_,_⟩:=h.cells;obtain⟨g,cap,rfl,d0,d1,d2,d3,d4,d5,d6,d7,d8,_⟩:=h.node hk;obtain⟨t0,ht0⟩:∃t0,body[x.first]?=some t0:=⟨_,fA hf⟩;have hglt:=(h.nodes.lt g rfl).2;obtain⟨pl,cl,rfl⟩:∃p c,lv=.slice p L.length c:=by
  rcases hl.2 with⟨e1,e2⟩|⟨g2,cap2,_,e1,_⟩
  ·exact⟨_,_,by rw[e1,e2]⟩
  ·exact⟨_,_,e1⟩
 have s1:(x.sort:Int)=120:=oM;have hkl:(k:Int)<(N.length:Int):=oM;have hk0:¬(k:Int)<0:=oM;obtain⟨X,hX⟩:∃X,atT s.data.toList body x.first=X:=⟨_,rfl⟩;rw[hX];go_in;go_wp21;have g1:=zwA w (.cells #[vU x.sort,vI x.a,vI x.b,vI x.c,vI x.first,vI x.last,vI x.name,vI x.binder,.bool false] 276) none;have n1:=Ac w (.cells #[vU x.sort,vI x.a,vI x.b,vI x.c,vI x.first,vI x.last,vI x.name,vI x.binder,.bool false] 276);rw[s1]at g1 n1;obtain⟨w1,hw1⟩:∃w1,w.alloc (.cells #[vU 120,vI x.a,vI x.b,vI x.c,vI x.first,vI x.last,vI x.name,vI x.binder,.bool false] 276)=w1:=⟨_,rfl⟩;obtain⟨nb,hnb⟩:∃nb,w.heap.size=nb:=⟨_,rfl⟩;rw[hw1]at g1;rw[hw1,hnb]at n1;rw[hw1,hnb];have T1:=h.grown g1;have L1:=hl.grown g1;have hne:nb≠g:=oM;obtain⟨M,hM⟩:∃M:Nat->List RN,∀i,M i=N.set k {x with binder:=lastOf nm X (L.take i) x.binder}:=⟨_,λ_=>rfl⟩;have M0:M 0=N:=by
  rw[hM];simp[List.take_zero,lastOf]
  have:=hk;have⟨h1,h2⟩:=zlE.1 this;rw[<-h2];exact List.set_getElem_self h1
 go_loopg[7] L.length (λj iv wr=>∃i:Nat,j+i=L.length/\iv=vI i/\(w1.grownBy wr (some g))/\(RT wr B bt s body (M i) tv (sL g N.length cap) root er)/\(LAt wr (.slice pl L.length cl) L))
 case atStart=>exact⟨0,oM,rfl,⟨rfl,rfl,rfl,znL _,λ_ _ _=>rfl⟩,(by rw[M0];exact T1),L1⟩
 case round=>
  obtain⟨i,hj,rfl,GR,TR,LR⟩:=hrel;have hnL:(M i).length=N.length:=by rw[hM,jB]
  by_cases hlt:i<L.length
  ·have hli:(i:Int)<(L.length:Int):=oM;obtain⟨gl,capl,e0⟩:∃gl capl,Value.slice pl L.length cl=sL gl L.length capl:=by
    rcases LR.2 with⟨_,e2⟩|⟨g2,cap2,_,e1,_⟩
    ·omega
    ·exact⟨_,_,e1⟩
   cases e0;obtain⟨j,hjL⟩:∃j,L[i]?=some j:=⟨_,fA hlt⟩;have lc:wr.cell? (aD gl i)=some (vI j):=(LR.cellAt _ oM).trans (by rw[sD,hjL];rfl);have⟨hjk,y,hy,hyn,hyt⟩:=hnm j (dD hjL);have hjlt:=(zlE.1 hy).1;have hMj:(M i)[j]?=some y:=(by rw[hM,qD (λe=>hjk e.symm)];exact hy);have hMk:(M i)[k]?=some {x with binder:=lastOf nm X (L.take i) x.binder}:=(by rw[hM,List.getElem?_set_self hklt]);have⟨_,a1,a2,_,_⟩:=TR.cells;have⟨g',cap',e,_,_,_,_,_,_,y6,_,_,_⟩:=TR.node hMj;rw[hnL]at e;cases e;have⟨g',cap',e,_,_,_,_,_,_,_,k7,_,kf⟩:=TR.node hMk;rw[hnL]at e;cases e;obtain⟨t1,ht1⟩:∃t1,body[y.name]?=some t1:=⟨_,fA hyn⟩;have⟨_,hcell⟩:=Hr TR.Eh;have⟨gt,capt,e,q0,_,_⟩:=hcell _ _ ht1;have⟨gt',capt',e',r0,_,_⟩:=hcell _ _ ht0;have e2:=e.symm.trans e';cases e2;rw[e]at a1;have hNm:Bv s.data.toList t1.fr t1.to=nm j:=(by rw[<-hyt];unfold atT;rw[ht1]);have hX0:Bv s.data.toList t0.fr t0.to=X:=(by rw[<-hX];unfold atT;rw[ht0]);rw[hNm]at q0;rw[hX0]at r0;have Nr:=(GR.block nb (zgE.1 n1).1 (by simpa using hne)).trans n1;have m4:wr.cell? (aD nb 4)=some (vI x.first):=zcR Nr;have hjl:(j:Int)<(N.length:Int):=oM;have hyl:(y.name:Int)<(body.length:Int):=oM;have hxl:(x.first:Int)<(body.length:Int):=oM;have hTk:L.take (i+1)=L.take i++[j]:=(by rw[List.take_add_one,hjL];rfl);by_cases heq:nm j=X
   ·rw[heq]at q0;go_wp21;go_quiet (fail);obtain⟨W2,hW2⟩:∃W2,wr.drewN nq=W2:=⟨_,rfl⟩;have g2:zG wr W2:=(by rw[<-hW2];exact Cc _ _);rw[hW2];have T2:=TR.grown g2;have L2:=LR.grown g2;have G2:=A6 GR (He g2);have lc':=cell_kept lc g2 sM;have⟨_,_,a2',_,_⟩:=T2.cells;have⟨g',cap',e,_,_,_,_,_,_,_,k7',_,kf'⟩:=T2.node hMk;rw[hnL]at e;cases e;have TD:=(T2.zwp hMk (by rw[hnL]) (j:Int)).grown (Ad (Aa _));have GD:W2.grownBy (W2.setCell (aD g (k*9+7)) (vI j)).drew (some g):=⟨rfl,rfl,rfl,sM,λq _ hq=>aA W2 (aD g (k*9+7)) q _ (by rintro rfl;exact hq rfl)⟩;have LD:=L2.kept T2 GD;go_wp21;go_region;go_wp21;go_roundg (gk-1)
    case measure=>omega
    case rel=>
     refine⟨i+1,oM,sM,(A6 G2 GD),bV ?_,LD⟩
     have:=TD;rw[hM,List.set_set]at this;rw[hM,hTk,O8,mA heq];exact this
   ·have hbq:(nm j==X)=false:=(by simpa using heq);go_wp21;go_quiet (fail);obtain⟨W2,hW2⟩:∃W2,wr.drewN nq=W2:=⟨_,rfl⟩;have g2:zG wr W2:=(by rw[<-hW2];exact Cc _ _);rw[hW2];have T2:=TR.grown g2;have L2:=LR.grown g2;have G2:=A6 GR (He g2);go_wp21;go_roundg (gk-1)
    case measure=>omega
    case rel=>
     refine⟨i+1,oM,sM,G2,bV ?_,L2⟩
     have:=T2;rw[hM]at this;rw[hM,hTk,O8,jA heq];exact this
  ·have hli:¬(i:Int)<(L.length:Int):=oM;go_wp21
   (try simp[Exit.inBlock,Exit.then]);refine bodyPost_ret (results_none rfl _ _ _) rfl ?_;have hiL:i=L.length:=oM;subst hiL;refine⟨rfl,A6 (He g1) GR,?_⟩
   have:=TR;rw[hM,List.take_length,hsx]at this;exact this
end
end
end
section
open Tw Tw.Rf
open Go.RowKit
section
def Wu(l:zU)(body:List Tw.Tok)(n:Nat)(Q:List RN)(e:Sc):Prop:=
 ∀p∈e,∃q y,p.2=n+q/\Q[q]?=some y/\y.name<body.length/\atT l body y.name=p.1
theorem Wu.pre{l:zU}{body:List Tw.Tok}{n n':Nat}{R Q:List RN}{e:Sc}(h:Wu l body n Q e)(g:n=n'+R.length):Wu l body n' (R++Q) e:=λp d=>by
 obtain⟨q,y,f,a,c⟩:=h p d;exact⟨R.length+q,y,oM,by rw[fB oM,show R.length+q-R.length=q by omega];exact a,c⟩
theorem Wu.cons{l:zU}{body:List Tw.Tok}{n':Nat}{R Q:List RN}{e:Sc}{y:RN}{bn:zU}(h:Wu l body (n'+R.length+1) Q e)(c:y.name<body.length)(d:atT l body y.name=bn):Wu l body n' (R++(y::Q)) ((bn,n'+R.length)::e):=λp a=>by
 rcases zmC.1 a with rfl|a
 ·exact⟨R.length,y,rfl,sM,c,d⟩
 ·have:=h.pre (n':=n') (R:=R++[y]) (by simp;omega) p a;simpa using this
theorem Y7{nm:Nat->zU}(x:zU):∀ {e:Sc},(∀p∈e,nm p.2=p.1)->lastOf nm x (e.reverse.map (·.2)) (-1)=Cy e x
 |[],_=>rfl
 |(y,j)::e,h=>by
  have a:=h (y,j) sM;rw[List.reverse_cons,vB,List.map_cons,List.map_nil,O8,Cy,Y7 x (λp c=>h p (by simp[c]))];simp only at a;simp[a]
theorem Xt{a :Type}(P A Q:List a)(x :a):(P++(A++[x])++Q)[P.length+A.length]?=some x:=by
 rw[wA,fB oM,show P.length+A.length-P.length=A.length by omega];simp
section
variable {B bt:Nat}{s:ByteArray}{body:List Tw.Tok}{tv nv:Value}{root er:Int}
variable{t l r b:Tw.T}{x:Nat->Tw.Rf.RN}{fr bat:Nat}{bn:List UInt8}
def SpT(l:zU)(body:List Tw.Tok)(t:Tw.T):Prop:=∀sp∈t.spans,ixF body sp.1<body.length/\atT l body (ixF body sp.1)=sp.2.2
def Tx(B bt:Nat)(s:ByteArray)(body:List Tw.Tok)(tv nv:Value)(root er:Int)(t:Tw.T):Prop:=
 ∀(P Q:List RN) (e:Sc) (n:Nat),n=P.length->SpT s.data.toList body t->Wu s.data.toList body (n+Rf.T.sz t) Q e->e.length+Rf.T.sz t<=5000 ->
  BC B bt s body tv nv root er ((n+Rf.T.sz t-1:Nat):Int) (e.reverse.map (·.2)) (P++flat (ixF body) (ixT body) t n++Q) (P++fill (ixF body) (ixT body) t n e++Q)
theorem BC.to{k k':Int}{L:List Nat}{N N' M a:List RN}(h:BC B bt s body tv nv root er k L N N')(e:k'=k)(c:M=N)(d:a=N'):BC B bt s body tv nv root er k' L M a:=by
 subst e c d;exact@h
theorem Xu{x:RN}(g:∀n,flat (ixF body) (ixT body) t n=[x])(h:∀n e,fill (ixF body) (ixT body) t n e=[x])(j:Rf.T.sz t=1)(c:x.a = -1)(d:x.b = -1)(f:x.c = -1)(a:x.sort≠120/\x.sort≠108/\x.sort≠114/\x.sort≠70):Tx B bt s body tv nv root er t:=by
 intro P Q e n i _ _ k;subst i;rw[g,h,j];refine@Qv _ _ _ _ _ _ _ _ _ _ x _ _ sM (by simp;omega) a.1 (.inr (.inr (.inr ⟨a.2,P++[x]++Q,P++[x]++Q,?_,?_,?_⟩)))
 ·rw[c];exact Xs _
 ·rw[d];exact Xs _
 ·rw[f];exact Xs _
theorem za3(z:∀n,flat (ixF body) (ixT body) t n=flat (ixF body) (ixT body) l n++flat (ixF body) (ixT body) r (n+Rf.T.sz l)++[x n])(A:∀n e,fill (ixF body) (ixT body) t n e=fill (ixF body) (ixT body) l n e++fill (ixF body) (ixT body) r (n+Rf.T.sz l) e++[x n])(F:Rf.T.sz t=Rf.T.sz l+Rf.T.sz r+1)(j:t.spans=l.spans++r.spans)(v:∀n,(x n).a=(n+Rf.T.sz l-1:Nat))(w:∀n,(x n).b=(n+Rf.T.sz l+Rf.T.sz r-1:Nat))(y:∀n,(x n).c = -1)(i:∀n,(x n).sort≠120/\(x n).sort≠108/\(x n).sort≠114/\(x n).sort≠70)
  (C:Tx B bt s body tv nv root er l) (E:Tx B bt s body tv nv root er r):Tx B bt s body tv nv root er t:=by
 intro P Q e n D g q G;subst D;have o:=Ao (ixF body) (ixT body) l P.length;have f:=Ao (ixF body) (ixT body) r (P.length+Rf.T.sz l);have p:=Af (ixF body) (ixT body) l P.length e;have h:Wu s.data.toList body (P.length+Rf.T.sz l+Rf.T.sz r) (x P.length::Q) e:=q.pre (R:=[x P.length]) (by simp;omega);have k:=@C P (flat (ixF body) (ixT body) r (P.length+Rf.T.sz l)++(x P.length::Q)) e P.length rfl (λsp d=>g sp (by rw[j];simp[d])) (h.pre (by rw[f])) oM;have m:=@E (P++fill (ixF body) (ixT body) l P.length e) (x P.length::Q) e (P.length+Rf.T.sz l) (by rw[eA,p]) (λsp d=>g sp (by rw[j];simp[d])) h oM;rw[z,A,F];refine@Qv _ _ _ _ _ _ _ _ _ _ (x P.length) _ _ ?_ (by simp;omega) (i _).1 (.inr (.inr (.inr ⟨(i _).2,P++fill (ixF body) (ixT body) l P.length e++(flat (ixF body) (ixT body) r (P.length+Rf.T.sz l)++(x P.length::Q)),P++fill (ixF body) (ixT body) l P.length e++fill (ixF body) (ixT body) r (P.length+Rf.T.sz l) e++(x P.length::Q),BC.to @k (v _) sM rfl,BC.to @m (w _) sM rfl,?_⟩)))
 ·have:=Xt P (flat (ixF body) (ixT body) l P.length++flat (ixF body) (ixT body) r (P.length+Rf.T.sz l)) Q (x P.length);rw[eA,o,f]at this;rw[show P.length+(Rf.T.sz l+Rf.T.sz r+1)-1=P.length+(Rf.T.sz l+Rf.T.sz r) by omega];exact this
 ·rw[y];exact@BC.to _ _ _ _ _ _ _ _ _ _ _ _ _ _ _ (Xs _) rfl rfl sM
theorem zqg{i:Tw.T}(p:∀n,flat (ixF body) (ixT body) t n=flat (ixF body) (ixT body) i n++[x n])(q:∀n e,fill (ixF body) (ixT body) t n e=fill (ixF body) (ixT body) i n e++[x n])(z:Rf.T.sz t=Rf.T.sz i+1)(y:t.spans=i.spans)(k:∀n,(x n).a=(n+Rf.T.sz i-1:Nat))(m:∀n,(x n).b = -1)(o:∀n,(x n).c = -1)(d:∀n,(x n).sort≠120/\(x n).sort≠108/\(x n).sort≠114/\(x n).sort≠70)
  (hi:Tx B bt s body tv nv root er i):Tx B bt s body tv nv root er t:=by
 intro P Q e n w h j A;subst w;have g:=Ao (ixF body) (ixT body) i P.length;have f:=@hi P (x P.length::Q) e P.length rfl (λsp v=>h sp (by rw[y];exact v)) (j.pre (R:=[x P.length]) (by simp;omega)) oM;rw[p,q,z];refine@Qv _ _ _ _ _ _ _ _ _ _ (x P.length) _ _ ?_ (by simp;omega) (d _).1 (.inr (.inr (.inr ⟨(d _).2,P++fill (ixF body) (ixT body) i P.length e++(x P.length::Q),P++fill (ixF body) (ixT body) i P.length e++(x P.length::Q),BC.to @f (k _) sM rfl,?_,?_⟩)))
 ·have:=Xt P (flat (ixF body) (ixT body) i P.length) Q (x P.length);rw[g]at this;exact this
 ·rw[m];exact Xs _
 ·rw[o];exact@BC.to _ _ _ _ _ _ _ _ _ _ _ _ _ _ _ (Xs _) rfl rfl sM
theorem znx{to:Nat}{c:Tw.T}(z:Tx B bt s body tv nv root er c)(A:Tx B bt s body tv nv root er l)(D:Tx B bt s body tv nv root er r):Tx B bt s body tv nv root er (.cond fr to c l r):=by
 intro P Q e E C f j y;subst C;simp only[Rf.T.sz]at j y;have q:=Ao (ixF body) (ixT body) c P.length;have g:=Ao (ixF body) (ixT body) l (P.length+Rf.T.sz c);have h:=Ao (ixF body) (ixT body) r (P.length+Rf.T.sz c+Rf.T.sz l);have i:=Af (ixF body) (ixT body) c P.length e;have v:=Af (ixF body) (ixT body) l (P.length+Rf.T.sz c) e;obtain⟨x,a⟩:∃x:RN,x=⟨73,(P.length+Rf.T.sz c-1:Nat),(P.length+Rf.T.sz c+Rf.T.sz l-1:Nat),(P.length+Rf.T.sz c+Rf.T.sz l+Rf.T.sz r-1:Nat),ixF body fr,ixT body to,0,-1⟩:=⟨_,rfl⟩;have m:Wu s.data.toList body (P.length+Rf.T.sz c+Rf.T.sz l+Rf.T.sz r) (x::Q) e:=j.pre (R:=[x]) (by simp;omega);have k:=m.pre (n':=P.length+Rf.T.sz c+Rf.T.sz l) (R:=flat (ixF body) (ixT body) r (P.length+Rf.T.sz c+Rf.T.sz l)) (by rw[h]);have w:=k.pre (n':=P.length+Rf.T.sz c) (R:=flat (ixF body) (ixT body) l (P.length+Rf.T.sz c)) (by rw[g]);have n:=@z P _ e P.length rfl (λsp d=>f sp (by simp[Tw.T.spans,d])) w oM;have o:=@A (P++fill (ixF body) (ixT body) c P.length e) _ e (P.length+Rf.T.sz c) (by rw[eA,i]) (λsp d=>f sp (by simp[Tw.T.spans,d])) k oM;have p:=@D (P++fill (ixF body) (ixT body) c P.length e++fill (ixF body) (ixT body) l (P.length+Rf.T.sz c) e) _ e (P.length+Rf.T.sz c+Rf.T.sz l) (by rw[eA,eA,i,v]) (λsp d=>f sp (by simp[Tw.T.spans,d])) m oM;rw[flat,fill,<-a,Rf.T.sz];refine@Qv _ _ _ _ _ _ _ _ _ _ x _ _ ?_ (by simp;omega) (by rw[a];simp) (.inr (.inr (.inr ⟨by rw[a];simp,_,_,BC.to @n (by rw[a]) sM rfl,BC.to @o (by rw[a]) sM rfl,BC.to @p (by rw[a]) sM sM⟩)))
 have:=Xt P (flat (ixF body) (ixT body) c P.length++flat (ixF body) (ixT body) l (P.length+Rf.T.sz c)++flat (ixF body) (ixT body) r (P.length+Rf.T.sz c+Rf.T.sz l)) Q x;rw[eA,eA,q,g,h]at this;rw[show P.length+(Rf.T.sz c+Rf.T.sz l+Rf.T.sz r+1)-1=P.length+(Rf.T.sz c+Rf.T.sz l+Rf.T.sz r) by omega];exact this
theorem zs1{to:Nat}(k:Tx B bt s body tv nv root er b):Tx B bt s body tv nv root er (.fn fr to bn bat b):=by
 intro P Q e q n d f j;subst n;simp only[Rf.T.sz]at f j;have h:=Ao (ixF body) (ixT body) b P.length;obtain⟨x,a⟩:∃x:RN,x=⟨70,(P.length+Rf.T.sz b-1:Nat),-1,-1,ixF body fr,ixT body to,ixF body bat,-1⟩:=⟨_,rfl⟩;obtain⟨o,p⟩:=d (bat,bat+bn.length,bn) (by simp[Tw.T.spans]);have i:Wu s.data.toList body (P.length+Rf.T.sz b) ([]++(x::Q)) ((bn,P.length+Rf.T.sz b+([]:List RN).length)::e):=Wu.cons (R:=[]) f (by rw[a];exact o) (by rw[a];exact p);have c:=@k P _ _ P.length rfl (λsp m=>d sp (by simp[Tw.T.spans,m])) i (by simp;omega);rw[flat,fill,<-a,Rf.T.sz];refine@Qv _ _ _ _ _ _ _ _ _ _ x _ _ ?_ (by simp;omega) (by rw[a];simp) (.inr (.inr (.inl ⟨by rw[a],?_⟩)))
 ·have:=Xt P (flat (ixF body) (ixT body) b P.length) Q x;rw[h]at this;exact this
 ·have g:(List.reverse ((bn,P.length+Rf.T.sz b+([]:List RN).length)::e)).map (·.2)=e.reverse.map (·.2)++[P.length+(Rf.T.sz b+1)-1]:=sM;rw[g]at c;refine@BC.to _ _ _ _ _ _ _ _ _ _ _ _ _ _ _ @c ?_ ?_ ?_
  ·rw[a]
  ·simp
  ·simp
theorem zqh{to:Nat}{rc:Bool}{d:Tw.T}(q:Tx B bt s body tv nv root er d)(p:Tx B bt s body tv nv root er b):Tx B bt s body tv nv root er (.Am fr to rc bn bat d b):=by
 intro P Q e F C g m A;subst C;simp only[Rf.T.sz]at m A;have v:=Ao (ixF body) (ixT body) d P.length;have j:=Ao (ixF body) (ixT body) b (P.length+Rf.T.sz d);obtain⟨x,a⟩:∃x:RN,x=⟨if rc then 114 else 108,(P.length+Rf.T.sz d-1:Nat),(P.length+Rf.T.sz d+Rf.T.sz b-1:Nat),-1,ixF body fr,ixT body to,ixF body bat,-1⟩:=⟨_,rfl⟩;obtain⟨D,E⟩:=g (bat,bat+bn.length,bn) (by simp[Tw.T.spans]);have w:Wu s.data.toList body (P.length+Rf.T.sz d+Rf.T.sz b) (x::Q) e:=m.pre (R:=[x]) (by simp;omega);have i:Wu s.data.toList body (P.length+Rf.T.sz d+Rf.T.sz b) ([]++(x::Q)) ((bn,P.length+Rf.T.sz d+Rf.T.sz b+([]:List RN).length)::e):=Wu.cons (R:=[]) (by simpa[Nat.add_assoc]using m) (by rw[a];exact D) (by rw[a];exact E);rw[rD,zD,Nat.add_zero]at i;have o:(List.reverse ((bn,P.length+Rf.T.sz d+Rf.T.sz b)::e)).map (·.2)=e.reverse.map (·.2)++[P.length+(Rf.T.sz d+Rf.T.sz b+1)-1]:=by simp;omega
 have n:=Xt P (flat (ixF body) (ixT body) d P.length++flat (ixF body) (ixT body) b (P.length+Rf.T.sz d)) Q x;rw[eA,v,j]at n;have y:=i.pre (n':=P.length+Rf.T.sz d) (R:=flat (ixF body) (ixT body) b (P.length+Rf.T.sz d)) (by rw[j]);have z:=w.pre (n':=P.length+Rf.T.sz d) (R:=flat (ixF body) (ixT body) b (P.length+Rf.T.sz d)) (by rw[j]);rw[flat,fill,<-a,Rf.T.sz];cases rc with
 |true=>
  have k:=Af (ixF body) (ixT body) d P.length ((bn,P.length+Rf.T.sz d+Rf.T.sz b)::e);have h:=@q P _ _ P.length rfl (λsp c=>g sp (by simp[Tw.T.spans,c])) y (by simp;omega);have f:=@p (P++fill (ixF body) (ixT body) d P.length ((bn,P.length+Rf.T.sz d+Rf.T.sz b)::e)) _ _ (P.length+Rf.T.sz d) (by rw[eA,k]) (λsp c=>g sp (by simp[Tw.T.spans,c])) i (by simp;omega);rw[o]at h f;refine@Qv _ _ _ _ _ _ _ _ _ _ x _ _ ?_ (by simp;omega) (by rw[a];simp) (.inr (.inl ⟨by rw[a];rfl,_,BC.to @h (by rw[a]) sM rfl,BC.to @f (by rw[a]) sM sM⟩));rw[show P.length+(Rf.T.sz d+Rf.T.sz b+1)-1=P.length+(Rf.T.sz d+Rf.T.sz b) by omega];exact n
 |false=>
  have k:=Af (ixF body) (ixT body) d P.length e;have h:=@q P _ _ P.length rfl (λsp c=>g sp (by simp[Tw.T.spans,c])) z oM;have f:=@p (P++fill (ixF body) (ixT body) d P.length e) _ _ (P.length+Rf.T.sz d) (by rw[eA,k]) (λsp c=>g sp (by simp[Tw.T.spans,c])) i (by simp;omega);rw[o]at f;refine@Qv _ _ _ _ _ _ _ _ _ _ x _ _ ?_ (by simp;omega) (by rw[a];simp) (.inl ⟨by rw[a];rfl,_,BC.to @h (by rw[a]) sM rfl,BC.to @f (by rw[a]) sM sM⟩);rw[show P.length+(Rf.T.sz d+Rf.T.sz b+1)-1=P.length+(Rf.T.sz d+Rf.T.sz b) by omega];exact n
theorem zqi(s:Int):Gf s≠120/\Gf s≠108/\Gf s≠114/\Gf s≠70:=by
 unfold Gf
 repeat' split
 all_goals decide
theorem Gb:∀t:Tw.T,Tx B bt s body tv nv root er t
 |.name fr to z=>by
  intro P Q e n o k m D;subst o;obtain⟨A,C⟩:=k (fr,to,z) (by simp[Tw.T.spans]);have h:∀p∈e,p.2≠P.length/\∃y,(P++flat (ixF body) (ixT body) (.name fr to z) P.length++Q)[p.2]?=some y/\y.name<body.length/\atT s.data.toList body y.name=p.1:=λp a=>by
   obtain⟨w,y,f,b,c⟩:=m p a;simp only[Rf.T.sz]at f;exact⟨oM,y,by rw[fB (by simp[flat];omega),show p.2-(P++flat (ixF body) (ixT body) (.name fr to z) P.length).length=w by simp[flat];omega];exact b,c⟩
  have q:=@zs0 B bt s body (P++flat (ixF body) (ixT body) (.name fr to z) P.length++Q) tv nv root er P.length ⟨120,-1,-1,-1,ixF body fr,ixF body fr,0,-1⟩ (e.reverse.map (·.2)) (λj=>atT s.data.toList body (((P++flat (ixF body) (ixT body) (.name fr to z) P.length++Q)[j]?.map (·.name)).getD 0)) (Xt P [] Q _) (by simp;omega) rfl A (λj g=>by
   simp only[List.mem_map,List.mem_reverse]at g;obtain⟨p,a,rfl⟩:=g;obtain⟨f,y,b,c,d⟩:=h p a;exact⟨f,y,b,c,by rw[b];rfl⟩)
  refine@BC.to _ _ _ _ _ _ _ _ _ _ _ _ _ _ _ @q ?_ rfl ?_
  ·simp[Rf.T.sz]
  rw[C,Y7 z (λp a=>by obtain⟨_,y,b,_,d⟩:=h p a;rw[b];exact d)];simp only[flat,fill,wA,aE _ _ (znL _),Nat.sub_self];rfl
 |.int fr to v=>Xu (λ_=>rfl) (λ_ _=>rfl) rfl rfl rfl rfl sM
 |.Ak fr to b=>Xu (λ_=>rfl) (λ_ _=>rfl) rfl rfl rfl rfl (by cases b<;>simp)
 |.side fr to b=>Xu (λ_=>rfl) (λ_ _=>rfl) rfl rfl rfl rfl (by cases b<;>simp)
 |.pair fr to l r=>za3 (λ_=>rfl) (λ_ _=>rfl) rfl rfl (λ_=>rfl) (λ_=>rfl) (λ_=>rfl) (λ_=>sM) (Gb l) (Gb r)
 |.call fr to l r=>za3 (λ_=>rfl) (λ_ _=>rfl) rfl rfl (λ_=>rfl) (λ_=>rfl) (λ_=>rfl) (λ_=>sM) (Gb l) (Gb r)
 |.binary fr to sg l r=>za3 (λ_=>rfl) (λ_ _=>rfl) rfl rfl (λ_=>rfl) (λ_=>rfl) (λ_=>rfl) (λ_=>zqi _) (Gb l) (Gb r)
 |.bracket fr to i=>zqg (λ_=>rfl) (λ_ _=>rfl) rfl rfl (λ_=>rfl) (λ_=>rfl) (λ_=>rfl) (λ_=>sM) (Gb i)
 |.cond fr to c t d=>znx (Gb c) (Gb t) (Gb d)
 |.fn fr to bn bat b=>zs1 (Gb b)
 |.Am fr to rc bn bat d b=>zqh (Gb d) (Gb b)
end
end
end
section
open Tw Tw.Rf Go.Proofs.Tryz
open Go.RowKit
section
section
variable {w:World}{B bt:Nat}{s:ByteArray}{body:List Tw.Tok}{N:List Tw.Rf.RN}{tv nv kv:Value}{root er:Int}
variable{v:Value}{K:List Nat}{g k r:Nat}
theorem LAt.ne(h:LAt w v K){c:Array Value}{u:TypeId}(f:u≠3)(d:zH w g c u):some g≠v.ownBlock:=λe=>by
 rcases h.2 with⟨a,_⟩|⟨l,i,j,a,_,b,_⟩
 ·rw[a]at e;simp[Value.ownBlock]at e
 ·rw[a]at e;simp[Value.ownBlock]at e;rw[<-e,d]at b;cases b;exact f rfl
theorem RT.zro(h:RT w B bt s body N tv nv root er)(hv:LAt w v K){w':World}(b:w.grownBy w' v.ownBlock):RT w' B bt s body N tv nv root er:=
 {h with
  tree:=(b.block _ (zgE.1 h.tree).1 (hv.ne dZ h.tree)).trans h.tree
  Eh:=Ai h.Eh λg c a=>(b.block _ (zgE.1 a).1 (hv.ne dZ a)).trans a
  nodes:=Ai h.nodes λg c a=>(b.block _ (zgE.1 a).1 (hv.ne dZ a)).trans a}
theorem LAt.at(h:LAt w v K)(b:K[k]?=some r):∃g cap,v=sL g K.length cap/\w.cell? (aD g k)=some (vI r)/\w.frozen? (aD g k)=false:=by
 have i:=(zlE.1 b).1;rcases h.2 with⟨_,f⟩|⟨g,cap,d,e,_,c,_⟩
 ·omega
 ·have a:=h;unfold LAt at a;rw[e]at a;exact⟨g,cap,e,(a.cellAt _ oM).trans (by rw[sD,b];rfl),eB _ _ _ _ _ c⟩
theorem LAt.set(h:LAt w v K){cap:Nat}(hv:v=sL g K.length cap)(r:Nat):LAt (w.setCell (aD g k) (vI r)) v (K.set k r):=by
 subst hv;rcases h.2 with⟨e,_⟩|⟨m,j,l,e,a,b,c,d,f,i⟩
 ·cases e
 ·cases e;unfold LAt;rw[jB];refine⟨sM,.inr ⟨g,cap,_,rfl,a,Bu b _,c,d,by simpa using f,?_⟩⟩;rw[bE,List.take_set,i,List.map_set]
def WC(B bt:Nat)(s:ByteArray)(body:List Tw.Tok)(N:List RN)(tv nv kv:Value)(root er:Int)(k:Int)(K:List Nat)(r:Nat)(K':List Nat):Prop:=
 ∀ {w:World},RT w B bt s body N tv nv root er->LAt w kv K->Calls prog 123 #[.pointer (some ⟨bt,0,none⟩),.int .i64 k,kv] w λe a=>e=.returned (.int .i64 r)/\w.grownBy a kv.ownBlock/\LAt a kv K'
theorem Qw(K:List Nat):WC B bt s body N tv nv kv root er (-1) K 0 K:=by
 intro w h a;go_in;go_wp21;go_ret;exact⟨rfl,⟨rfl,rfl,rfl,znL _,λ_ _ _=>rfl⟩,a⟩
theorem zg4(a:K[k]?=some r)(j:0<r):WC B bt s body N tv nv kv root er k K r K:=by
 intro w h b;obtain⟨g,c,rfl,d,_⟩:=b.at a;have i:=(zlE.1 a).1;have e:¬(k:Int)<0:=oM;have f:(k:Int)<(K.length:Int):=oM;go_in;go_wp21;go_ret;exact⟨rfl,⟨rfl,rfl,rfl,znL _,λ_ _ _=>rfl⟩,b⟩
theorem Tt{k:Nat}{x:RN}{K o K2 c:List Nat}{a r2 b:Nat}(E:N[k]?=some x)(H:K[k]?=some 0)(X:∃q,c[k]?=some q)(F:c.length=K.length)(aa:x.sort≠120)(b1:a<=2001)(b2:r2<=2001)(b3:b<=2001)
  (R:WC B bt s body N tv nv kv root er x.a K a o) (S:WC B bt s body N tv nv kv root er x.b o r2 K2) (T:WC B bt s body N tv nv kv root er x.c K2 b c):WC B bt s body N tv nv kv root er k K (min (1+a+r2+b) 2001) (c.set k (min (1+a+r2+b) 2001)):=by
 intro w h i;have a8:=(zlE.1 E).1;have⟨_,_,Z,_,_⟩:=h.cells;obtain⟨g,a0,rfl,d0,d1,d2,d3,d4,d5,d6,d7,d8,_⟩:=h.node E;obtain⟨gk,Q,rfl,z0,_⟩:=i.at H;have ab:=(zlE.1 H).1;have s1:¬(x.sort:Int)=120:=oM;have a5:¬(k:Int)<0:=oM;have a7:(k:Int)<(N.length:Int):=oM;have a6:(k:Int)<(K.length:Int):=oM;have J:WC _ _ _ _ _ _ _ _ _ _ _ _ _ _:=@R;have L:WC _ _ _ _ _ _ _ _ _ _ _ _ _ _:=@S;have M:WC _ _ _ _ _ _ _ _ _ _ _ _ _ _:=@T;have a4:gk<w.heap.size:=(i.lt gk rfl).2;obtain⟨m,j⟩:∃m,min (1+a+r2+b) 2001=m:=⟨_,rfl⟩;rw[j];go_in;go_wp21;have e:=zwA w (.cells #[vU x.sort,vI x.a,vI x.b,vI x.c,vI x.first,vI x.last,vI x.name,vI x.binder,.bool false] 276) none;have n:=Ac w (.cells #[vU x.sort,vI x.a,vI x.b,vI x.c,vI x.first,vI x.last,vI x.name,vI x.binder,.bool false] 276);obtain⟨I,l⟩:∃I,w.alloc (.cells #[vU x.sort,vI x.a,vI x.b,vI x.c,vI x.first,vI x.last,vI x.name,vI x.binder,.bool false] 276)=I:=⟨_,rfl⟩;obtain⟨d,G⟩:∃d,w.heap.size=d:=⟨_,rfl⟩;rw[l]at e;rw[l,G]at n;rw[l,G];have a9:d≠gk:=oM;have z:=h.grown e;have p:=i.grown e;go_call J z p as e1 w2 ⟨rfl,hg2,hL2⟩;have f:=(hg2.block _ (zgE.1 n).1 (by simp[Value.ownBlock];omega)).trans n;have m2:w2.cell? (aD d 2)=some (vI x.b):=zcR f;have A:=z.zro p hg2;go_wp21;go_call L A hL2 as e1 w3 ⟨rfl,hg3,hL3⟩;have O:=(hg3.block _ (zgE.1 f).1 (by simp[Value.ownBlock];omega)).trans f;have m3:w3.cell? (aD d 3)=some (vI x.c):=zcR O;have P:=A.zro hL2 hg3;go_wp21;go_call M P hL3 as e1 w4 ⟨rfl,hg4,hL4⟩;have⟨q,W⟩:=X;have⟨a2,a1,C,k0,kf⟩:=hL4.at W;rw[F]at C;cases C;have GS:∀r:Nat,w.grownBy (w4.setCell (aD gk k) (vI r)) (some gk):=λr=>A6 (He e) (A6 hg2 (A6 hg3 (A6 hg4 ⟨rfl,rfl,rfl,sM,λY _ V=>aA w4 (aD gk k) Y _ (by rintro rfl;exact V rfl)⟩)));have LS:∀r:Nat,LAt (w4.setCell (aD gk k) (vI r)) (sL gk K.length Q) (c.set k r):=λr=>hL4.set (by rw[F]) r;by_cases a3:2000<1+a+r2+b
 ·have U:(2000:Int)<1+(a:Int)+(r2:Int)+(b:Int):=oM;obtain rfl:m=2001:=by rw[<-j];omega
  go_wp21;go_ret;exact⟨rfl,GS 2001,LS 2001⟩
 ·have U:¬(2000:Int)<1+(a:Int)+(r2:Int)+(b:Int):=oM;obtain rfl:m=1+a+r2+b:=by rw[<-j];omega
  have D:((1+a+r2+b:Nat):Int)=1+(a:Int)+(r2:Int)+(b:Int):=oM;have t:=GS (1+a+r2+b);have y:=LS (1+a+r2+b);rw[D]at t y;go_wp21;go_ret;refine⟨?_,t,y⟩;rw[D];rfl
theorem zs2{k j r:Nat}{x y:RN}{K:List Nat}(hk:N[k]?=some x)(a7:x.sort=120)(a2:x.binder=(j:Int))(Q:N[j]?=some y)(m:K[k]?=some 0)
  (a8:(y.sort=70/\r=1)\/(y.sort=114/\r=1/\∃(b:Nat) (z:RN),y.b=(b:Int)/\N[b]?=some z/\x.first<z.first)\/((y.sort=108\/y.sort=114)/\∃(V b:Nat) (z:RN),y.a=(V:Int)/\y.b=(b:Int)/\N[b]?=some z/\z.first<=x.first/\K[V]?=some r/\0<r/\r<=2000+1)) :
  WC B bt s body N tv nv kv root er k K r (K.set k r):=by
 intro w t R;have aw:=(zlE.1 hk).1;have aq:=(zlE.1 Q).1;have an:=t.few;have⟨_,_,J,_,_⟩:=t.cells;obtain⟨g,ad,rfl,d0,d1,d2,d3,L,d5,d6,d7,d8,_⟩:=t.node hk;obtain⟨gk,a1,rfl,z0,_⟩:=R.at m;have ax:=(zlE.1 m).1;have ar:¬(k:Int)<0:=oM;have ao:¬(j:Int)<0:=oM;have av:(k:Int)<(N.length:Int):=oM;have ap:(j:Int)<(N.length:Int):=oM;have au:(k:Int)<(K.length:Int):=oM;rw[a7]at d0;rw[a2]at d7;have a4:gk<w.heap.size:=(R.lt gk rfl).2;have a5:g<w.heap.size:=(t.nodes.lt g rfl).2;go_in;go_wp21;have G:=zwA w (.cells #[vU 120,vI x.a,vI x.b,vI x.c,vI x.first,vI x.last,vI x.name,vI j,.bool false] 276) none;have H:=Ac w (.cells #[vU 120,vI x.a,vI x.b,vI x.c,vI x.first,vI x.last,vI x.name,vI j,.bool false] 276);have S:(w.alloc (.cells #[vU 120,vI x.a,vI x.b,vI x.c,vI x.first,vI x.last,vI x.name,vI j,.bool false] 276)).heap.size=w.heap.size+1:=sM;generalize w.alloc (.cells #[vU 120,vI x.a,vI x.b,vI x.c,vI x.first,vI x.last,vI x.name,vI j,.bool false] 276)=w1 at G H S ⊢;generalize w.heap.size=nb at H S a4 a5 ⊢;have D:=t.grown G;have a0:=R.grown G;have m4:w1.cell? (aD nb 4)=some (vI x.first):=zcR H;have m7:w1.cell? (aD nb 7)=some (vI j):=zcR H;have⟨_,_,J,_,_⟩:=D.cells;have⟨i,f,e,d0,d1,d2,d3,L,d5,d6,d7,d8,_⟩:=D.node Q;cases e;have P:=zwA w1 (.cells #[vU 0,vI 0,vI 0,vI 0,vI 0,vI 0,vI 0,vI 0,.bool false] 276) none;have ay:=cell_kept m4 P sM;have az:=cell_kept m7 P sM;have Y:=D.grown P;have⟨_,_,ac,_,_⟩:=Y.cells;have⟨i,f,e,ae,af,ag,ah,ai,aj,ak,al,am,_⟩:=Y.node Q;cases e;go_region;have p:w1.grownBy (w1.alloc (.cells #[vU y.sort,vI y.a,vI y.b,vI y.c,vI y.first,vI y.last,vI y.name,vI y.binder,.bool false] 276)).drew none:=Ad (zwA w1 (.cells #[vU y.sort,vI y.a,vI y.b,vI y.c,vI y.first,vI y.last,vI y.name,vI y.binder,.bool false] 276) none);have A:(w1.alloc (.cells #[vU y.sort,vI y.a,vI y.b,vI y.c,vI y.first,vI y.last,vI y.name,vI y.binder,.bool false] 276)).drew.heap[w1.heap.size]?=some (.cells #[vU y.sort,vI y.a,vI y.b,vI y.c,vI y.first,vI y.last,vI y.name,vI y.binder,.bool false] 276):=Ac w1 (.cells #[vU y.sort,vI y.a,vI y.b,vI y.c,vI y.first,vI y.last,vI y.name,vI y.binder,.bool false] 276);rw[S]at A;generalize (w1.alloc (.cells #[vU y.sort,vI y.a,vI y.b,vI y.c,vI y.first,vI y.last,vI y.name,vI y.binder,.bool false] 276)).drew=w2 at p A ⊢;have ab:=cell_kept m4 p sM;have o:=D.grown p;have C:=a0.grown p;have I:=Ab G p;have E:w2.cell? ⟨nb+1,0,none⟩=some (vU y.sort):=zcR A;have b1:w2.cell? ⟨nb+1,1,none⟩=some (vI y.a):=zcR A;have Z:w2.cell? ⟨nb+1,2,none⟩=some (vI y.b):=zcR A;have GS:∀r:Nat,w.grownBy (w2.setCell (aD gk k) (vI r)).drew (some gk):=λr=>A6 (He I) ⟨rfl,rfl,rfl,sM,λq _ a=>aA w2 (aD gk k) q _ (by rintro rfl;exact a rfl)⟩;have LS:∀r:Nat,LAt (w2.setCell (aD gk k) (vI r)).drew (sL gk K.length a1) (K.set k r):=λr=>(C.set rfl r).grown (Ad (Aa _));have X:=o.grown (Ad (Aa _));have W:=C.grown (Ad (Aa _));rcases a8 with⟨h,rfl⟩|⟨h,rfl,b,z,M,F,O⟩|⟨h,V,b,z,M,F,O,e5,e6,e7,e8⟩
 ·have l:(y.sort:Int)=70:=oM;have⟨i,f,e,T,U⟩:=C.at m;cases e;rw[l]at E;go_wp21;go_region;go_wp21;go_ret;exact⟨rfl,GS 1,LS 1⟩
 ·have l:(y.sort:Int)=114:=oM;have⟨i,f,e,T,U⟩:=C.at m;cases e;have⟨_,_,J,_,_⟩:=o.cells;have⟨i,f,e,_,_,_,_,L,_,_,_,_,_⟩:=o.node F;cases e;have a9:=(zlE.1 F).1;have aa:(b:Int)<(N.length:Int):=oM;have a3:¬(z.first:Int)<=(x.first:Int):=oM;rw[M]at Z;rw[l]at E;go_wp21;go_region;go_wp21;go_ret;exact⟨rfl,GS 1,LS 1⟩
 ·have⟨_,_,J,_,_⟩:=o.cells;have⟨i,f,e,_,_,_,_,L,_,_,_,_,_⟩:=o.node O;cases e;have a9:=(zlE.1 O).1;have aa:(b:Int)<(N.length:Int):=oM;have a3:(z.first:Int)<=(x.first:Int):=oM;rw[F]at Z;rw[M]at b1;rcases h with h|h
  ·have l:(y.sort:Int)=108:=oM;rw[l]at E;go_wp21;go_region;go_wp21;go_call zg4 e6 e7 X W as h w3 ⟨rfl,hg3,hL3⟩;have⟨i,f,e,T,U⟩:=hL3.at m;cases e;have n:=A6 (He (Ad I)) hg3;by_cases hr:2000<r
   ·obtain rfl:r=2001:=oM;have c:w.grownBy (w3.setCell (aD gk k) (vI 2001)) (some gk):=(A6 n ⟨rfl,rfl,rfl,sM,λq _ a=>aA w3 (aD gk k) q _ (by rintro rfl;exact a rfl)⟩);have d:=hL3.set (k:=k) rfl 2001;go_wp21;go_ret;exact⟨rfl,c,d⟩
   ·have a6:¬(2000:Int)<(r:Int):=oM;have c:w.grownBy (w3.setCell (aD gk k) (vI r)) (some gk):=(A6 n ⟨rfl,rfl,rfl,sM,λq _ a=>aA w3 (aD gk k) q _ (by rintro rfl;exact a rfl)⟩);have d:=hL3.set (k:=k) rfl r;go_wp21;go_ret;exact⟨rfl,c,d⟩
  ·have l:(y.sort:Int)=114:=oM;rw[l]at E;go_wp21;go_region;go_wp21;go_call zg4 e6 e7 X W as h w3 ⟨rfl,hg3,hL3⟩;have⟨i,f,e,T,U⟩:=hL3.at m;cases e;have n:=A6 (He (Ad I)) hg3;by_cases hr:2000<r
   ·obtain rfl:r=2001:=oM;have c:w.grownBy (w3.setCell (aD gk k) (vI 2001)) (some gk):=(A6 n ⟨rfl,rfl,rfl,sM,λq _ a=>aA w3 (aD gk k) q _ (by rintro rfl;exact a rfl)⟩);have d:=hL3.set (k:=k) rfl 2001;go_wp21;go_ret;exact⟨rfl,c,d⟩
   ·have a6:¬(2000:Int)<(r:Int):=oM;have c:w.grownBy (w3.setCell (aD gk k) (vI r)) (some gk):=(A6 n ⟨rfl,rfl,rfl,sM,λq _ a=>aA w3 (aD gk k) q _ (by rintro rfl;exact a rfl)⟩);have d:=hL3.set (k:=k) rfl r;go_wp21;go_ret;exact⟨rfl,c,d⟩
end
end
end
section
open Tw Tw.Rf
open Go.RowKit
section
variable{N:List Tw.Rf.RN}{n lo hi:Nat}{f:Nat->Nat}{S:Nat->Prop}{K:List Nat}{e:Tw.Rf.Sc}{we:Tw.WEn}
theorem I5{a b:Option Nat}(h:a.or b=none):a=none/\b=none:=by cases a<;>simp_all
def Run(N:List RN)(n:Nat)(X:List RN):Prop:=∀i x,X[i]?=some x->N[n+i]?=some x
theorem Run.left{N A C:List RN}{n:Nat}(h:Run N n (A++C)):Run N n A:=λi x hi=>h i x (by rw[iA (zlE.1 hi).1];exact hi)
theorem Run.right{N A C:List RN}{n m:Nat}(h:Run N n (A++C))(a:m=n+A.length):Run N m C:=λi x hi=>by
 have:=h (A.length+i) x (by rw[fB oM,show A.length+i-A.length=i by omega];exact hi);rw[a,Nat.add_assoc];exact this
theorem Run.last{A:List RN}{m:Nat}{x:RN}(h:Run N n (A++[x]))(a:m=n+A.length):N[m]?=some x:=by
 have:=h.right a 0 x rfl;exact this
theorem zny(f g:Nat->Nat)(t:Tw.T)(n:Nat)(e:Sc):∃A x,fill f g t n e=A++[x]/\x.first=f t.fr/\A.length+1=Rf.T.sz t:=by
 have a:=Af f g t n e;cases t<;>refine⟨_,_,(by simp only[fill];first|rfl|exact(rD _).symm),rfl,?_⟩<;>(simp[fill]at a ⊢;omega)
def E1(N:List RN)(f:Nat->Nat)(S:Nat->Prop)(K:List Nat)(n lo hi j c:Nat):Prop:=
 ∃nd,N[j]?=some nd/\((nd.sort=70/\c=1)\/(nd.sort=114/\c=1/\∃(d:Nat) (z:RN) (a:Nat),nd.b=(d:Int)/\N[d]?=some z/\z.first=f a/\S a/\hi<=a)\/((nd.sort=108\/nd.sort=114)/\∃(h d:Nat) (z:RN) (a:Nat),nd.a=(h:Int)/\nd.b=(d:Int)/\N[d]?=some z/\z.first=f a/\S a/\a<=lo/\K[h]?=some c/\0<c/\c<=2001/\h<n))
inductive ER(N:List RN)(f:Nat->Nat)(S:Nat->Prop)(K:List Nat)(n lo hi:Nat):Sc->WEn->Prop
 |nil:ER N f S K n lo hi [] .nil
 |cons {y:List UInt8} {j wt:Nat} {e:Sc} {we:WEn} (h:E1 N f S K n lo hi j wt) (r:ER N f S K n lo hi e we):ER N f S K n lo hi ((y,j)::e) (.cons y wt we)
theorem ER.mono{K':List Nat}{n' lo' hi':Nat}(h:ER N f S K n lo hi e we)(E:n<=n')(G:lo<=lo')(H:hi'<=hi)(hK:∀j,j<n->K'[j]?=K[j]?):ER N f S K' n' lo' hi' e we:=by
 induction h with
 |nil=>exact .nil
 |cons h _ ih=>
  refine .cons ?_ ih;obtain⟨nd,a,h|⟨c,C,p,z,o,d,i,k,m,q⟩|⟨c,D,p,z,o,d,i,k,m,q,F,v,w,y,A⟩⟩:=h
  ·exact⟨nd,a,.inl h⟩
  ·exact⟨nd,a,.inr (.inl ⟨c,C,p,z,o,d,i,k,m,oM⟩)⟩
  ·exact⟨nd,a,.inr (.inr ⟨c,D,p,z,o,d,i,k,m,q,oM,by rw[hK _ A];exact v,w,y,oM⟩)⟩
theorem ER.look(h:ER N f S K n lo hi e we){x:zU}(a:(e.map (·.1)).contains x=true):∃j i:Nat,Cy e x=(j:Int)/\we.look x=some i/\E1 N f S K n lo hi j i:=by
 induction h with
 |nil=>simp at a
 |@cons y j i e we h _ ih=>
  by_cases d:y=x
  ·exact⟨j,i,by simp[Cy,d],by simp[WEn.look,d],h⟩
  ·obtain⟨m,o,k,b,c⟩:=ih (by simp at a ⊢;rcases a with a|a;exact absurd a.symm d;exact a);exact⟨m,o,by simp[Cy,d,k],by simp[WEn.look,d,b],c⟩
section
variable {B bt:Nat}{s:ByteArray}{body:List Tw.Tok}{N:List Tw.Rf.RN}{tv nv kv:Value}{root er:Int}{f g:Nat -> Nat}{S:Nat -> Prop}
variable{t l r b:Tw.T}{fr bat:Nat}{x:Nat->Tw.Rf.RN}{bn:List UInt8}
structure zv8(B bt:Nat)(s:ByteArray)(body:List Tw.Tok)(N:List RN)(tv nv kv:Value)(root er:Int)(n z:Nat)(K:List Nat)(r:Nat)(K':List Nat):Prop where
 pos:0<r
 le:r<=2001
 wc:WC B bt s body N tv nv kv root er ((n+z-1:Nat):Int) K r K'
 len:K'.length=K.length
 out:∀j,j<n\/n+z<=j->K'[j]?=K[j]?
 fin:K'[n+z-1]?=some r
theorem WC.to{k k':Int}{K K':List Nat}{r a:Nat}(h:WC B bt s body N tv nv kv root er k K r K')(c:k'=k)(d:a=r):WC B bt s body N tv nv kv root er k' K a K':=by
 subst c d;exact@h
def Sx(B bt:Nat)(s:ByteArray)(body:List Tw.Tok)(N:List RN)(tv nv kv:Value)(root er:Int)(f g:Nat->Nat)(S:Nat->Prop)(t:Tw.T):Prop:=
 ∀(n:Nat) (e:Sc) (we:WEn) (K:List Nat),WP S t->t.freeS (e.map (·.1))=none->Run N n (fill f g t n e)->ER N f S K n t.fr t.to e we->(∀i,i<Rf.T.sz t->K[n+i]?=some 0) ->
  ∃r a,Ah t we=some r/\zv8 B bt s body N tv nv kv root er n (Rf.T.sz t) K r a
theorem Nx{K:List Nat}{k:Nat}(h:K[k]?=some 0)(r:Nat):(K.set k r)[k]?=some r:=List.getElem?_set_self (zlE.1 h).1
theorem Xv{x:RN}(o:∀n e,fill f g t n e=[x])(h:Rf.T.sz t=1)(j:x.a = -1)(k:x.b = -1)(m:x.c = -1)(p:x.sort≠120)(q:∀we,Ah t we=some 1):Sx B bt s body N tv nv kv root er f g S t:=by
 intro n e we K _ _ c _ i;rw[o]at c;have d:=c 0 x rfl;have a:=i 0 oM;rw[Nat.add_zero]at d a;refine⟨1,K.set n 1,q we,oM,oM,?_,sM,?_,?_⟩
 ·refine@WC.to _ _ _ _ _ _ _ _ _ _ _ _ _ _ _ _ (@Tt _ _ _ _ _ _ _ _ _ _ n x K K K K 0 0 0 d a ⟨0,a⟩ rfl p oM oM oM (by rw[j];exact Qw K) (by rw[k];exact Qw K) (by rw[m];exact Qw K)) (by rw[h];rfl) rfl
 ·intro w v;rw[qD oM]
 ·rw[h];exact Nx a 1
theorem znz(C:∀p q,S p->S q->p<q->f p<f q){to:Nat}{z:zU}:Sx B bt s body N tv nv kv root er f g S (.name fr to z):=by
 intro n e we K v o R Q G;have D:=R 0 _ rfl;have w:=G 0 (by simp[Rf.T.sz]);rw[Nat.add_zero]at D w;have U:(e.map (·.1)).contains z=true:=by
  cases h:(e.map (·.1)).contains z
  ·simp only[Tw.T.freeS]at o;rw[h]at o;cases o
  ·rfl
 obtain⟨W,a,H,M,nd,O,E⟩:=Q.look U;have F:0<a/\a<=2001:=by
  rcases E with⟨_,h⟩|⟨_,h,_⟩|⟨_,_,_,_,_,_,_,_,_,_,_,_,h,Z,_⟩<;>omega
 refine⟨a,K.set n a,?_,F.1,F.2,?_,sM,?_,?_⟩
 ·simp only[Ah,M,zbS];rw[show min a 2001=a by omega]
 ·refine@WC.to _ _ _ _ _ _ _ _ _ _ _ _ _ _ _ _ (@zs2 B bt s body N tv nv kv root er n W a _ nd K D rfl H O w ?_) (by simp[Rf.T.sz]) rfl;rcases E with h|⟨d,P,y,z,X,i,j,k,m,c⟩|⟨d,Y,y,z,X,i,j,k,m,c,A,I,J,L,a0⟩
  ·exact .inl h
  ·refine .inr (.inl ⟨d,P,y,z,i,j,?_⟩);rw[k];exact C _ _ v.1 m (by have:=v.2;simp only[Tw.T.to]at c;omega)
  ·refine .inr (.inr ⟨d,Y,y,z,i,j,k,?_,I,J,L⟩);rw[m];simp only[Tw.T.fr]at A;rcases Nat.lt_or_eq_of_le A with h|h
   ·exact Nat.le_of_lt (C _ _ c v.1 h)
   ·rw[h];exact znL _
 ·intro a1 V;simp only[Rf.T.sz]at V;rw[qD oM]
 ·simp only[Rf.T.sz];exact Nx w a
theorem zqj{i:Tw.T}(H:∀n e,fill f g t n e=fill f g i n e++[x n])(w:Rf.T.sz t=Rf.T.sz i+1)(D:∀n,(x n).a=(n+Rf.T.sz i-1:Nat))(F:∀n,(x n).b = -1)(G:∀n,(x n).c = -1)(M:∀n,(x n).sort≠120)(A:∀E,t.freeS E=i.freeS E)(C:WP S t->WP S i/\t.fr<=i.fr/\i.to<=t.to)(O:∀we,Ah t we=(Ah i we).bind λa=>some (min (1+a) 2001))(hi:Sx B bt s body N tv nv kv root er f g S i):Sx B bt s body N tv nv kv root er f g S t:=by
 intro n e we K y o j z p;rw[H]at j;rw[A]at o;obtain⟨P,Q,R⟩:=C y;have L:=Af f g i n e;obtain⟨r,d,U,h⟩:=hi n e we K P o j.left (z.mono (znL _) Q R (λ_ _=>rfl)) (λk I=>p k oM);have J:=j.last (m:=n+Rf.T.sz i) (by rw[L]);have q:=p (Rf.T.sz i) oM;have v:d[n+Rf.T.sz i]?=some 0:=by rw[h.out _ (.inr (znL _))];exact q
 have:=h.le;refine⟨min (1+r) 2001,d.set (n+Rf.T.sz i) (min (1+r) 2001),by rw[O,U];rfl,oM,oM,?_,by simp[h.len],?_,?_⟩
 ·refine@WC.to _ _ _ _ _ _ _ _ _ _ _ _ _ _ _ _ (@Tt _ _ _ _ _ _ _ _ _ _ _ (x n) K d d d r 0 0 J q ⟨0,v⟩ h.len (M n) h.le oM oM (by rw[D];exact h.wc) (by rw[F];exact Qw d) (by rw[G];exact Qw d)) (by rw[w];rfl) rfl
 ·intro k I;rw[qD oM];exact h.out k oM
 ·rw[w];exact Nx v _
theorem za4(Q:∀n e,fill f g t n e=fill f g l n e++fill f g r (n+Rf.T.sz l) e++[x n])(D:Rf.T.sz t=Rf.T.sz l+Rf.T.sz r+1)(M:∀n,(x n).a=(n+Rf.T.sz l-1:Nat))(O:∀n,(x n).b=(n+Rf.T.sz l+Rf.T.sz r-1:Nat))(P:∀n,(x n).c = -1)(W:∀n,(x n).sort≠120)(J:∀E,t.freeS E=(l.freeS E).or (r.freeS E))(L:WP S t->(WP S l/\t.fr<=l.fr/\l.to<=t.to)/\WP S r/\t.fr<=r.fr/\r.to<=t.to)(X:∀we,Ah t we=(Ah l we).bind λa=>(Ah r we).bind λb=>some (min (1+a+b) 2001))(U:Sx B bt s body N tv nv kv root er f g S l)(V:Sx B bt s body N tv nv kv root er f g S r):Sx B bt s body N tv nv kv root er f g S t:=by
 intro n e we K I y k z p;rw[Q]at k;rw[J]at y;obtain⟨G,H⟩:=I5 y;obtain⟨⟨Z,p2,p3⟩,p4,p5,p6⟩:=L I;have F:=Af f g l n e;have Y:=Af f g r (n+Rf.T.sz l) e;obtain⟨q,w,v1,d⟩:=U n e we K Z G k.left.left (z.mono (znL _) p2 p3 (λ_ _=>rfl)) (λj o=>p j oM);obtain⟨v,i,w1,h⟩:=V (n+Rf.T.sz l) e we w p4 H (k.left.right (by rw[F])) (z.mono oM p5 p6 (λj o=>d.out j (.inl o))) (λj o=>by rw[d.out _ (.inr oM),Nat.add_assoc];exact p _ oM);have R:=k.last (m:=n+(Rf.T.sz l+Rf.T.sz r)) (by rw[eA,F,Y]);have A:=p (Rf.T.sz l+Rf.T.sz r) oM;have C:i[n+(Rf.T.sz l+Rf.T.sz r)]?=some 0:=by rw[h.out _ (.inr oM),d.out _ (.inr oM)];exact A
 have:=d.le
 have:=h.le;refine⟨min (1+q+v) 2001,i.set (n+(Rf.T.sz l+Rf.T.sz r)) (min (1+q+v) 2001),by rw[X,v1,zbS,w1];rfl,oM,oM,?_,by simp[h.len,d.len],?_,?_⟩
 ·refine@WC.to _ _ _ _ _ _ _ _ _ _ _ _ _ _ _ _ (@Tt _ _ _ _ _ _ _ _ _ _ _ (x n) K w i i q v 0 R A ⟨0,C⟩ (h.len.trans d.len) (W n) d.le h.le oM (by rw[M];exact d.wc) (by rw[O];exact h.wc) (by rw[P];exact Qw i)) (by rw[D];rfl) rfl
 ·intro j o;rw[qD oM,h.out j oM,d.out j oM]
 ·rw[D];exact Nx C _
theorem zn0{to:Nat}{c:Tw.T}(P:Sx B bt s body N tv nv kv root er f g S c)(R:Sx B bt s body N tv nv kv root er f g S l)(U:Sx B bt s body N tv nv kv root er f g S r):Sx B bt s body N tv nv kv root er f g S (.cond fr to c l r):=by
 intro n e we K O D i o k;rw[fill]at i;simp only[Tw.T.freeS]at D;obtain⟨q,M⟩:=I5 D;obtain⟨q,L⟩:=I5 q;obtain⟨_,W,p2,p3,p4,H,I,J⟩:=O;have Z:=H.lt;have o2:=I.lt;have o3:=J.lt;simp only[Tw.T.fr,Tw.T.to]at o;simp only[Rf.T.sz]at k ⊢;have v:=Af f g c n e;have G:=Af f g l (n+Rf.T.sz c) e;have V:=Af f g r (n+Rf.T.sz c+Rf.T.sz l) e;obtain⟨w,A,u1,u2⟩:=P n e we K H q i.left.left.left (o.mono (znL _) W oM (λ_ _=>rfl)) (λj d=>k j oM);obtain⟨y,C,X,a⟩:=R (n+Rf.T.sz c) e we A I L (i.left.left.right (by rw[v])) (o.mono oM oM oM (λj d=>u2.out j (.inl d))) (λj d=>by rw[u2.out _ (.inr oM),Nat.add_assoc];exact k _ oM);obtain⟨z,p,Y,h⟩:=U (n+Rf.T.sz c+Rf.T.sz l) e we C J M (i.left.right (by rw[eA,v,G,Nat.add_assoc])) (o.mono oM oM oM (λj d=>by rw[a.out j (.inl oM),u2.out j (.inl d)])) (λj d=>by rw[a.out _ (.inr oM),u2.out _ (.inr oM),Nat.add_assoc,Nat.add_assoc];exact k _ oM);have Q:=i.last (m:=n+(Rf.T.sz c+Rf.T.sz l+Rf.T.sz r)) (by rw[eA,eA,v,G,V]);have E:=k (Rf.T.sz c+Rf.T.sz l+Rf.T.sz r) oM;have F:p[n+(Rf.T.sz c+Rf.T.sz l+Rf.T.sz r)]?=some 0:=by rw[h.out _ (.inr oM),a.out _ (.inr oM),u2.out _ (.inr oM)];exact E
 have:=u2.le
 have:=a.le
 have:=h.le;refine⟨min (1+w+y+z) 2001,p.set (n+(Rf.T.sz c+Rf.T.sz l+Rf.T.sz r)) (min (1+w+y+z) 2001),by simp only[Ah,u1,X,Y,zbS],oM,oM,?_,by simp[h.len,a.len,u2.len],?_,?_⟩
 ·refine@WC.to _ _ _ _ _ _ _ _ _ _ _ _ _ _ _ _ (@Tt _ _ _ _ _ _ _ _ _ _ _ _ K A C p w y z Q E ⟨0,F⟩ (h.len.trans (a.len.trans u2.len)) sM u2.le a.le h.le (by exact u2.wc) (by exact a.wc) (by exact h.wc)) rfl rfl
 ·intro j d;rw[qD oM,h.out j oM,a.out j oM,u2.out j oM]
 ·exact Nx F _
theorem zs3{to:Nat}(w:Sx B bt s body N tv nv kv root er f g S b):Sx B bt s body N tv nv kv root er f g S (.fn fr to bn bat b):=by
 intro n e we K v i d k h;rw[fill]at d;simp only[Tw.T.freeS]at i;obtain⟨_,_,E,F,A,C⟩:=v;simp only[Tw.T.fr,Tw.T.to]at k;simp only[Rf.T.sz]at h ⊢;have z:=Af f g b n ((bn,n+Rf.T.sz b)::e);have o:=d.last (m:=n+Rf.T.sz b) (by rw[z]);obtain⟨r,a,D,c⟩:=w n ((bn,n+Rf.T.sz b)::e) (.cons bn 1 we) K C i d.left (.cons ⟨_,o,.inl ⟨rfl,rfl⟩⟩ (k.mono (znL _) oM A (λ_ _=>rfl))) (λj y=>h j oM);have p:=h (Rf.T.sz b) oM;have q:a[n+Rf.T.sz b]?=some 0:=by rw[c.out _ (.inr (znL _))];exact p
 have:=c.le;refine⟨min (1+r) 2001,a.set (n+Rf.T.sz b) (min (1+r) 2001),by simp only[Ah,D,zbS],oM,oM,?_,by simp[c.len],?_,?_⟩
 ·refine@WC.to _ _ _ _ _ _ _ _ _ _ _ _ _ _ _ _ (@Tt _ _ _ _ _ _ _ _ _ _ _ _ K a a a r 0 0 o p ⟨0,q⟩ c.len sM c.le oM oM (by exact c.wc) (by exact Qw a) (by exact Qw a)) rfl rfl
 ·intro j y;rw[qD oM];exact c.out j oM
 ·exact Nx q _
theorem zqk{to:Nat}{rc:Bool}{d:Tw.T}(hd:Sx B bt s body N tv nv kv root er f g S d)(hb:Sx B bt s body N tv nv kv root er f g S b):Sx B bt s body N tv nv kv root er f g S (.Am fr to rc bn bat d b):=by
 intro n e we K h1 h2 h3 h4 h5;rw[fill]at h3;simp only[Tw.T.freeS]at h2;obtain⟨f1,f2⟩:=I5 h2;obtain⟨_,_,p1,p2,p3,p4,p5,p6⟩:=h1;have o1:=p5.lt;have o2:=p6.lt;simp only[Tw.T.fr,Tw.T.to]at h4;simp only[Rf.T.sz]at h5 ⊢;have z1:=Rf.T.Vb d;have z2:=Rf.T.Vb b;have l0:=Af f g d n (if rc then(bn,n+Rf.T.sz d+Rf.T.sz b)::e else e);have l1:=Af f g b (n+Rf.T.sz d) ((bn,n+Rf.T.sz d+Rf.T.sz b)::e);have hk:=h3.last (m:=n+(Rf.T.sz d+Rf.T.sz b)) (by rw[eA,l0,l1]);obtain⟨A,x,e1,e2,e3⟩:=zny f g b (n+Rf.T.sz d) ((bn,n+Rf.T.sz d+Rf.T.sz b)::e);have hR2:=h3.left.right (m:=n+Rf.T.sz d) (by rw[l0]);have hx:N[n+Rf.T.sz d+Rf.T.sz b-1]?=some x:=by
  rw[e1]at hR2;exact hR2.last oM
 have hn:n+(Rf.T.sz d+Rf.T.sz b)=n+Rf.T.sz d+Rf.T.sz b:=oM;have hE1:ER N f S K n d.fr d.to (if rc then(bn,n+Rf.T.sz d+Rf.T.sz b)::e else e) (if rc then .cons bn 1 we else we):=by
  have h4':=h4.mono (n':=n) (lo':=d.fr) (hi':=d.to) (K':=K) (znL _) oM oM (λ_ _=>rfl);cases rc with
  |false=>exact h4'
  |true=>exact .cons ⟨_,by rw[<-hn];exact hk,.inr (.inl ⟨rfl,rfl,_,x,b.fr,rfl,hx,e2,p6.at,p3⟩)⟩ h4'
 obtain⟨r1,K1,v1,v2⟩:=hd n _ _ K p5 (by cases rc<;>exact f1) h3.left.left hE1 (λj hj=>h5 j oM);obtain⟨r2,K2,w1,w2⟩:=hb (n+Rf.T.sz d) ((bn,n+Rf.T.sz d+Rf.T.sz b)::e) (.cons bn r1 we) K1 p6 f2 hR2 (.cons ⟨_,by rw[<-hn];exact hk,.inr (.inr ⟨by cases rc<;>simp,_,_,x,b.fr,rfl,rfl,hx,e2,p6.at,znL _,v2.fin,v2.pos,v2.le,oM⟩)⟩ (h4.mono oM oM oM (λj hj=>v2.out j (.inl hj)))) (λj hj=>by rw[v2.out _ (.inr oM),Nat.add_assoc];exact h5 _ oM);have hk0:=h5 (Rf.T.sz d+Rf.T.sz b) oM;have hk1:K2[n+(Rf.T.sz d+Rf.T.sz b)]?=some 0:=by rw[w2.out _ (.inr oM),v2.out _ (.inr oM)];exact hk0
 have:=v2.le
 have:=w2.le;refine⟨min (1+r1+r2) 2001,K2.set (n+(Rf.T.sz d+Rf.T.sz b)) (min (1+r1+r2) 2001),by simp only[Ah,v1,w1,zbS,Nat.add_assoc],oM,oM,?_,by simp[w2.len,v2.len],?_,?_⟩
 ·refine@WC.to _ _ _ _ _ _ _ _ _ _ _ _ _ _ _ _ (@Tt _ _ _ _ _ _ _ _ _ _ _ _ K K1 K2 K2 r1 r2 0 hk hk0 ⟨0,hk1⟩ (w2.len.trans v2.len) (by cases rc<;>simp) v2.le w2.le oM (by exact v2.wc) (by exact w2.wc) (by exact Qw K2)) rfl rfl
 ·intro j hj;rw[qD oM,w2.out j oM,v2.out j oM]
 ·exact Nx hk1 _
theorem Xw{to:Nat}(h:S fr/\fr<=l.fr/\l.to<=r.fr/\r.to<=to/\WP S l/\WP S r):(WP S l/\fr<=l.fr/\l.to<=to)/\WP S r/\fr<=r.fr/\r.to<=to:=by
 obtain⟨_,d,j,i,a,c⟩:=h
 have:=a.lt
 have:=c.lt;exact⟨⟨a,d,oM⟩,c,oM,i⟩
theorem Gc(a:∀p q,S p->S q->p<q->f p<f q):∀t:Tw.T,Sx B bt s body N tv nv kv root er f g S t
 |.name fr to z=>znz a
 |.int fr to v=>Xv (λ_ _=>rfl) rfl rfl rfl rfl sM (λ_=>rfl)
 |.Ak fr to b=>Xv (λ_ _=>rfl) rfl rfl rfl rfl (by cases b<;>simp) (λ_=>rfl)
 |.side fr to b=>Xv (λ_ _=>rfl) rfl rfl rfl rfl (by cases b<;>simp) (λ_=>rfl)
 |.bracket fr to i=>zqj (λ_ _=>rfl) rfl (λ_=>rfl) (λ_=>rfl) (λ_=>rfl) (λ_=>sM) (λ_=>rfl) (λh=>⟨h.2.2.2,h.2.1,h.2.2.1⟩) (λ_=>rfl) (Gc a i)
 |.pair fr to l r=>za4 (λ_ _=>rfl) rfl (λ_=>rfl) (λ_=>rfl) (λ_=>rfl) (λ_=>sM) (λ_=>rfl) Xw (λ_=>rfl) (Gc a l) (Gc a r)
 |.call fr to l r=>za4 (λ_ _=>rfl) rfl (λ_=>rfl) (λ_=>rfl) (λ_=>rfl) (λ_=>sM) (λ_=>rfl) Xw (λ_=>rfl) (Gc a l) (Gc a r)
 |.binary fr to sg l r=>za4 (λ_ _=>rfl) rfl (λ_=>rfl) (λ_=>rfl) (λ_=>rfl) (λ_=>Wh _) (λ_=>rfl) Xw (λ_=>rfl) (Gc a l) (Gc a r)
 |.cond fr to c t d=>zn0 (Gc a c) (Gc a t) (Gc a d)
 |.fn fr to bn bat b=>zs3 (Gc a b)
 |.Am fr to rc bn bat d b=>zqk (Gc a d) (Gc a b)
end
end
end
abbrev wD:=@List.length_replicate
section
open Tw Tw.Rf Go.Proofs.Tryz
open Go.RowKit
section
def Tw.Rf.rreadS(n:Nat)(l:zU):Option (Except (Nat×Nat) Tw.T):=
 if 300<l.length then some (.error (1,0))else match split l with
  |.error p=>some (.error (2,p))
  |.ok ts=>(Gj l ts n).bind λr=>match r with
   |.error p=>some (.error (3,p))
   |.ok t=>match t.freeS []with
    |some p=>some (.error (4,p))
    |none=>(Ah t .nil).bind λk=>if 2000<k then some (.error (10,0))else some (.ok t)
def Rl(w:World)(bt:Nat)(s:ByteArray)(t:Tw.T):Prop:=
 ∃body tv nv,Lex 0 s.data.toList body/\RT w 0 bt s body (fill (ixF body) (ixT body) t 0 []) tv nv ((Rf.T.sz t-1:Nat):Int) (-1)/\G s.data.toList .expr body t
def zvh(w:World)(s:ByteArray)(a:Except (Nat×Nat) Tw.T)(e:Ending)(w':World):Prop:=w.grownBy w' none /\
 match a with
 |.error (k,p)=>e=.returned (.tuple #[.pointer none,.int .i64 k,.int .i64 p])
 |.ok t=>∃bt,e=.returned (.tuple #[.pointer (some ⟨bt,0,none⟩),.int .i64 0,.int .i64 0])/\Rl w' bt s t/\w.heap.size<=bt
section
variable {w:World}{B br bt:Nat}{s:ByteArray}{body:List Tw.Tok}{st:Tw.PS}{N:List Tw.Rf.RN}{tv nv:Value}{i:Nat}{er root:Int}
theorem Dm.ztz(h:Dm w B br bt s body st N tv nv i er root)(k:Int):Dm (w.setCell (aD bt 3) (vI k)) B br bt s body st N tv nv i er k:=by
 have b:=h.ne;refine{h with read:=(aA w (aD bt 3) br _ (by simpa using b)).trans h.read,tree:=Bu h.tree _,Eh:=Ai h.Eh λg c a=>?_,nodes:=Ai h.nodes λg c a=>?_}
 ·refine(aA w (aD bt 3) g _ ?_).trans a;rintro rfl;have:=h.tree;rw[a]at this;cases this
 ·refine(aA w (aD bt 3) g _ ?_).trans a;rintro rfl;have:=h.tree;rw[a]at this;cases this
theorem zuf{a w w':World}{v:Value}(h:zG a w)(k:RK br bt v w w')(d:a.heap.size<=br)(f:a.heap.size<=bt)(c:∀q,v.ownBlock=some q->a.heap.size<=q):zG a w':=
 ⟨k.os.trans h.os,k.tape.trans h.tape,k.output.trans h.output,kB h.size k.size,λi b _=>(k.block i (aB b h.size) oM oM (λe=>by have:=c i e.symm;omega)).trans (h.block i b sM)⟩
end
variable{s:ByteArray}{n:Nat}{l:List UInt8}
theorem zu3{body:List Tw.Tok}(e:Lex 0 s.data.toList body){t:Tw.T}(g:Gj s.data.toList (Bw s body) n=some (.ok t)):SpT s.data.toList body t:=by
 obtain⟨L,c,_,d⟩:=Y0 g;intro sp b;rw[d,List.mem_map]at b;obtain⟨k,f,rfl⟩:=b;obtain⟨i,a⟩:=List.mem_iff_getElem?.1 (c.subset f);simp only[Q7];rw[Fe e a];exact⟨(zlE.1 a).1,by unfold atT;rw[a]⟩
theorem zg5:∀ {body:List Tw.Tok} {p:Nat},body.Pairwise (λa b=>a.to<=b.fr)->(∀t∈body,t.fr<t.to)->(∀t,body.head?=some t->p<=t.fr)->Rf.Row p body
 |[],_,_,_,_=>trivial
 |t::body,p,h1,h2,h3=>by
  refine⟨h3 t rfl,h2 t sM,zg5 (List.pairwise_cons.1 h1).2 (λu c=>h2 u (by simp[c])) (λu c=>?_)⟩;exact(List.pairwise_cons.1 h1).1 u (List.mem_of_mem_head? c)
def At(body:List Tw.Tok)(p:Nat):Prop:=∃(i:Nat) (t:Tw.Tok),body[i]?=some t/\t.fr=p
theorem zvq{body:List Tw.Tok}{t:Tw.T}(a:Lex 0 l body)(b:G l .expr body t):WP (At body) t:=
 (zuy (At body) b 0 (zg5 a.apart (λt d=>(a.Eh.1 t d).lt) (λ_ _=>yD _)) (λw e=>by obtain⟨i,c⟩:=List.getElem?_of_mem e;exact⟨i,w,c,rfl⟩)).1
theorem zu4{body:List Tw.Tok}(d:Lex 0 l body)(p q:Nat)(e:At body p)(f:At body q)(h:p<q):ixF body p<ixF body q:=by
 obtain⟨i,t,c,rfl⟩:=e;obtain⟨j,g,b,rfl⟩:=f;rw[Fe d c,Fe d b];rcases Nat.lt_trichotomy i j with a|a|a
 ·exact a
 ·subst a;rw[c]at b;cases b;omega
 ·have:=Vc d a b c;omega
def Tw.Rf.plc(body:List Tw.Tok)(i:Nat):Int:=((body[i]?.map (·.fr)).getD 0:Nat)
theorem zu5{body:List Tw.Tok}(b:Lex 0 l body)(p:Nat)(c:At body p):plc body (ixF body p)=p:=by
 obtain⟨i,t,a,rfl⟩:=c;unfold plc;rw[Fe b a,a];rfl
theorem Es(f g:Nat->Nat):∀(t:Tw.T) (n:Nat) (e:Sc) (y:RN),y∈fill f g t n e->y.sort=120->∃sp∈t.spans,y.first=f sp.1
 |.name fr to z,n,e,y,h,_=>by simp[fill]at h;exact⟨(fr,to,z),by simp[Tw.T.spans],by rw[h]⟩
 |.int ..,n,e,y,h,hs=>by simp[fill]at h;rw[h]at hs;simp at hs
 |.Ak _ _ b,n,e,y,h,hs=>by simp[fill]at h;rw[h]at hs;cases b<;>simp at hs
 |.side _ _ b,n,e,y,h,hs=>by simp[fill]at h;rw[h]at hs;cases b<;>simp at hs
 |.bracket _ _ i,n,e,y,h,hs=>by
  simp only[fill,zmA,xB]at h;rcases h with h|h
  ·exact Es f g i _ _ y h hs
  ·rw[h]at hs;simp at hs
 |.pair _ _ l r,n,e,y,h,hs|.call _ _ l r,n,e,y,h,hs=>by
  simp only[fill,zmA,xB]at h;simp only[Tw.T.spans,zmA];rcases h with(h|h)|h
  ·obtain⟨sp,a,b⟩:=Es f g l _ _ y h hs;exact⟨sp,.inl a,b⟩
  ·obtain⟨sp,a,b⟩:=Es f g r _ _ y h hs;exact⟨sp,.inr a,b⟩
  ·rw[h]at hs;simp at hs
 |.binary _ _ sg l r,n,e,y,h,hs=>by
  simp only[fill,zmA,xB]at h;simp only[Tw.T.spans,zmA];rcases h with(h|h)|h
  ·obtain⟨sp,a,b⟩:=Es f g l _ _ y h hs;exact⟨sp,.inl a,b⟩
  ·obtain⟨sp,a,b⟩:=Es f g r _ _ y h hs;exact⟨sp,.inr a,b⟩
  ·rw[h]at hs;exact absurd hs (Wh _)
 |.cond _ _ c l r,n,e,y,h,hs=>by
  simp only[fill,zmA,xB]at h;simp only[Tw.T.spans,zmA];rcases h with((h|h)|h)|h
  ·obtain⟨sp,a,b⟩:=Es f g c _ _ y h hs;exact⟨sp,.inl a,b⟩
  ·obtain⟨sp,a,b⟩:=Es f g l _ _ y h hs;exact⟨sp,.inr (.inl a),b⟩
  ·obtain⟨sp,a,b⟩:=Es f g r _ _ y h hs;exact⟨sp,.inr (.inr a),b⟩
  ·rw[h]at hs;simp at hs
 |.fn _ _ _ _ b,n,e,y,h,hs=>by
  simp only[fill,zmA,xB]at h;rcases h with h|h
  ·obtain⟨sp,a,b⟩:=Es f g b _ _ y h hs;exact⟨sp,by simp[Tw.T.spans,a],b⟩
  ·rw[h]at hs;simp at hs
 |.Am _ _ rc _ _ d b,n,e,y,h,hs=>by
  simp only[fill,zmA,xB]at h;simp only[Tw.T.spans,zmC,zmA];rcases h with(h|h)|h
  ·obtain⟨sp,a,b⟩:=Es f g d _ _ y h hs;exact⟨sp,.inr (.inl a),b⟩
  ·obtain⟨sp,a,b⟩:=Es f g b _ _ y h hs;exact⟨sp,.inr (.inr a),b⟩
  ·rw[h]at hs;cases rc<;>simp at hs
theorem zj5{pl:Nat->Int}{F:List RN}{i:Nat}{y:RN}(h:F[i]?=some y)(a:Int):Jj pl (F.take (i+1)) a=if y.sort=120/\y.binder<0/\(Jj pl (F.take i) a<0\/pl y.first<Jj pl (F.take i) a)then pl y.first else Jj pl (F.take i) a:=by
 rw[List.take_add_one,h,Gr];rfl
theorem zn1(N:Nat):madeCells (vI 0).cells N=(List.replicate N (vI 0)).toArray:=by
 apply Array.ext
 ·simp[madeCells]
 ·intro i a b;simp[madeCells,Value.cells,Nat.mod_one]
theorem zn2(N:Nat)(j:N<=5000):∃a,a=(List.replicate N (vI 0)).toArray/\∀W:World,(Instr.makeSlice 33 (vI N) (vI N)).run prog W=.ok (sL W.heap.size N N) (W.alloc (.cells a 3)):=by
 have c:(prog.info? 3).map (λi=>(i.zero,i.size,i.bytes))=some (some (vI 0),1,8):=kR;obtain⟨g,b,d,e,f⟩:=info_parts c;refine⟨_,rfl,λW=>?_⟩;have h:=run_make (P:=prog) W 33 3 g (vI 0) underlying33 b d .i64 .i64 N N oM oM (by rw[f];omega) oM;rw[e]at h;simp only[Int.toNat_natCast,Nat.mul_one]at h;rw[zn1]at h;exact h
theorem LAt.made{W:World}{N:Nat}{a:Array Value}(b:N<=5000)(h:a=(List.replicate N (vI 0)).toArray):LAt (W.alloc (.cells a 3)) (sL W.heap.size N N) (List.replicate N 0):=by
 subst h;unfold LAt;rw[wD];refine⟨sM,.inr ⟨W.heap.size,N,_,rfl,yD _,Ac W _,znL _,by unfold maxLen;omega,sM,sM⟩⟩
theorem zql{res:Except (Nat×Nat) Tw.T}(h:rreadS n s.data.toList=some res)(w:World):
  Calls prog 68 #[.string s] w (zvh w s res):=by
 unfold rreadS at h;have hl:s.data.toList.length=s.size:=Array.length_toList;rw[hl]at h;by_cases hs:300<s.size
 ·rw[mA hs]at h;cases h;have hsi:(300:Int)<(s.size:Int):=oM;go_in;go_wp2_with fail;go_ret3;exact⟨⟨rfl,rfl,rfl,znL _,λ_ _ _=>rfl⟩,rfl⟩
 rw[jA hs]at h;have hsi:¬(300:Int)<(s.size:Int):=oM;have HT:=bV (zj0 s w oM);cases hsp:split s.data.toList with
 |error p=>
  rw[hsp]at h;cases h;have HSP:=bV hsp;clear hsp;go_in;go_wp2_with fail;refine(uh HT).mono ?_;rintro e1 w1 ⟨hb,he⟩;rw[HSP.o]at he;cases he;have hp0:(0:Int)<=(p:Int):=oM;have G1:=bV (show zG w w1 from⟨hb.os,hb.tape,hb.output,hb.size,λk hk _=>hb.block k hk⟩);clear hb;go_wp2_with fail;go_ret3;exact⟨G1.o,rfl⟩
 |ok ts=>
  rw[hsp]at h;dsimp only at h;obtain⟨pr,hpr,h⟩:=zbE.1 h;have HSP:=bV hsp;have HPR:=bV hpr;have HH:=bV h;clear hsp hpr h;go_in;go_wp2_with fail;refine(uh HT).mono ?_;rintro e1 w1 ⟨hb,he⟩;rw[HSP.o]at he;obtain⟨tv,body,rfl,rfl,hown⟩:=he;have hbody:=J0.1 HSP.o;obtain⟨body',hL,e0⟩:=hbody;rw[hl]at e0;obtain rfl:body=body':=List.append_cancel_right e0;obtain⟨pv,cv,rfl⟩:∃p c,tv=.slice p body.length c:=by
   rcases hown.2 with⟨e1,e2⟩|⟨g2,cap2,_,e1,_⟩
   ·exact⟨_,_,by rw[e1,e2]⟩
   ·exact⟨_,_,e1⟩
  have G1:=bV (show zG w w1 from⟨hb.os,hb.tape,hb.output,hb.size,λk hk _=>hb.block k hk⟩);have HL:=bV hL;have hz1:=hb.size;clear hb e0 hL;have hmany:body.length<=300:=by
   have:=(Ll _ _ _ _ HSP.o sM oM).2;rw[eA,wB,hl]at this;omega
  -- the tree,the reader
  have gA:=zwA w1 (.cells #[.string s,.slice pv body.length cv,zN,vI 0,vI (-1)] 102) none;have nA:=Ac w1 (.cells #[.string s,.slice pv body.length cv,zN,vI 0,vI (-1)] 102);have sA:(w1.alloc (.cells #[.string s,.slice pv body.length cv,zN,vI 0,vI (-1)] 102)).heap.size=w1.heap.size+1:=sM;have gB:=zwA (w1.alloc (.cells #[.string s,.slice pv body.length cv,zN,vI 0,vI (-1)] 102)) (.cells #[pT w1.heap.size,vI 0,vI 0] 270) none;have nB:=Ac (w1.alloc (.cells #[.string s,.slice pv body.length cv,zN,vI 0,vI (-1)] 102)) (.cells #[pT w1.heap.size,vI 0,vI 0] 270);have nA':=zbG gB nA;rw[sA]at nB;have sB:((w1.alloc (.cells #[.string s,.slice pv body.length cv,zN,vI 0,vI (-1)] 102)).alloc (.cells #[pT w1.heap.size,vI 0,vI 0] 270)).heap.size=w1.heap.size+2:=sM;have gAB:=Ab gA gB;have tB:=Ai (Lu hown) λg c hc=>(gAB.block g (zgE.1 hc).1 sM).trans hc;go_wp2_with fail;obtain⟨w3,hw3⟩:∃w3,(w1.alloc (.cells #[.string s,.slice pv body.length cv,zN,vI 0,vI (-1)] 102)).alloc (.cells #[pT w1.heap.size,vI 0,vI 0] 270)=w3:=⟨_,rfl⟩;obtain⟨bt,hbt⟩:∃bt,w1.heap.size=bt:=⟨_,rfl⟩;rw[hbt]at hw3 nB nA' gAB sB tB;rw[hw3]at nB nA' gAB sB tB;rw[hbt,hw3];rw[hbt]at hz1;have X3:Hid (Dm w3 w.heap.size (bt+1) bt s body ⟨0,0,false,0⟩ [] (.slice pv body.length cv) zN 0 (-1) 0):=bV ⟨nB,nA',tB,mD _ _ _ _,⟨oM,oM⟩,λ_=>⟨rfl,rfl⟩,λe=>(by cases e),hmany,yD _,sM,λ_=>sM⟩;have G3:=bV (Ab G1.o gAB);have hpr:=HPR.o;unfold Gj at hpr;obtain⟨x,hx,hpr⟩:=zbE.1 hpr;obtain⟨rt,hrt,hpr⟩:=zbE.1 hpr;cases hpr;have HX:=bV hx;have HRT:=bV hrt;have HTV:=bV (Lu hown);clear gA nA sA gB nB nA' sB gAB tB hw3 hbt hx hrt hown;refine((zu2 HL.o n).expr X3.o rfl sM HX.o).mono ?_;rintro e1 w4 ⟨k4,N4,nv4,i4,er4,rfl,hk,ho,hi4,hx4,hc4,hg4⟩;have G4:=bV (zuf G3.o hk oM hz1 (by simp[Value.ownBlock]));have X5:=bV (hx4.ztz k4);have r0:w4.cell? (aD bt 3)=some (vI 0):=zcR hx4.tree;have f0:w4.frozen? (aD bt 3)=false:=eB _ _ _ _ _ hx4.tree;have C4:=bV hc4;have D4:=bV hg4;obtain⟨_,c1,_,_,_,_,c6⟩:=X5.o.cells;have G5:Hid (w.grownBy (w4.setCell (aD bt 3) (vI k4)) none):=bV ⟨G4.o.os,G4.o.tape,G4.o.output,by simpa using G4.o.size,λq hq _=>(aA w4 (aD bt 3) q _ (by simp;omega)).trans (G4.o.block q hq sM)⟩;clear hk ho hx4 hc4 hg4 X3 G3 G4;have ways:x.2.stuck=true\/(x.2.stuck=false/\i4<body.length)\/(x.2.stuck=false/\i4=body.length):=by
   cases x.2.stuck
   ·rcases yB i4 body.length with h|h
    ·exact .inr (.inl ⟨rfl,h⟩)
    ·exact .inr (.inr ⟨rfl,by have:=X5.o.ile;omega⟩)
   ·exact .inl rfl
  have hE:Rf.Ends (Bw s body):=⟨⟨0,s.size,s.size⟩,sM,rfl⟩;rcases ways with hw|⟨hw,hi⟩|⟨hw,hi⟩
  case' inl=>
   obtain⟨t1,q1,q2⟩:=Hq hE hw;obtain rfl:rt=(t1,x.2):=by
    have:=HRT.o;simp[Tw.Bg,q1,q2]at this;exact this.symm
   obtain rfl:res=.error (3,x.2.fault):=by
    have:=HH.o;rw[mA hw]at this;cases this;rfl
   obtain⟨j,tj,rfl,hj1,hj2⟩:=X5.o.bad hw;have XE:=X5;have GE:=G5;have HJ1:=bV hj1;have HJ2:=bV hj2;have HWE:=bV hw;have hj0:¬(j:Int)<0:=oM;have hj00:(0:Int)<=(j:Int):=oM;clear hj1 hj2 q1 q2 hw
  case' inr.inl=>
   have hii:(i4:Int)<(body.length:Int):=oM;obtain⟨q0,rfl⟩:=X5.o.E7 hw;obtain⟨tk,htk⟩:∃tk,body[i4]?=some tk:=⟨_,fA hi⟩;have htok:Ej (Bw s body) x.2=some tk:=by
    simp only[Ej,hw];rw[<-q0,<-htk];exact iA hi
   have hfl:Hj (Bw s body) x.2=some {x.2 with stuck:=true,fault:=tk.fr}:=(by simp[Hj,hw,htok]);have hs0:tk.sort≠0:=((HL.o.Eh).1 tk (dD htk)).sort;obtain rfl:rt=(tk,{x.2 with stuck:=true,fault:=tk.fr}):=by
    have:=HRT.o;simp[Tw.Bg,htok,hs0,hfl]at this;exact this.symm
   obtain rfl:res=.error (3,tk.fr):=by
    have:=HH.o;rw[mA rfl]at this;cases this;rfl
   have HFL:=bV hfl;clear hw q0 htk htok hfl hs0;go_wp2_with fail;refine(We X5.o HFL.o).mono ?_;rintro e1 w6 ⟨rfl,hk6,er6,hx6⟩;have GE:=bV (zuf G5.o hk6 oM hz1 (λq hq=>(X5.o.nodes.lt q hq).1));obtain⟨j,tj,rfl,hj1,hj2⟩:=hx6.bad rfl;have XE:=bV hx6;have HJ1:=bV hj1;have HJ2:=bV hj2;have hj0:¬(j:Int)<0:=oM;have hj00:(0:Int)<=(j:Int):=oM;clear hj1 hj2 c1 c6 r0 f0 hx6 hk6;obtain⟨_,c1,_,_,_,_,c6⟩:=XE.o.cells
  case' inr.inr=>
   have hii:¬(i4:Int)<(body.length:Int):=oM;obtain⟨_,rfl⟩:=X5.o.E7 hw;go_wp2_with fail
  ·obtain rfl:rt=(⟨0,s.size,s.size⟩,x.2):=by
    have:=HRT.o;have htok:Ej (Bw s body) x.2=some ⟨0,s.size,s.size⟩:=by
     simp only[Ej,hw];rw[<-(X5.o.E7 hw).1,hi];simp
    simp[Tw.Bg,htok]at this;exact this.symm
   have hh:=HH.o;have hpk:=HPR.o;dsimp only at hh hpk;rw[hw]at hh hpk;simp only[xA,if_false]at hh hpk;obtain⟨d1,d2,d3,d4,_,_⟩:=D4.o hw;rw[rD,zD]at d2;rw[zD,Nat.zero_add]at d3;have hsz:N4.length=Rf.T.sz x.1:=(by rw[d2,Ao]);have T5:Hid (RT (w4.setCell (aD bt 3) (vI k4)) w.heap.size bt s body ([]++flat (ixF body) (ixT body) x.1 0++[]) (.slice pv body.length cv) nv4 k4 (-1)):=by
    have hn:=X5.o.nodes;refine bV ⟨X5.o.tree,X5.o.Eh,?_,hmany,?_⟩
    ·rw[rD,List.append_nil,<-d2];exact hn
    ·rw[rD,List.append_nil,<-d2];simp at d1;omega
   have hSp:=zu3 HL.o hpk;have hGr:=Inl.zsq HL.o (by rw[hl];exact hpk);have hWP:=bV (zvq HL.o hGr.1);have HGR:=bV hGr.1;have cB:=@Gb w.heap.size bt s body (.slice pv body.length cv) nv4 k4 (-1) x.1 [] [] [] 0 rfl hSp (λp hp=>by cases hp) (by simp at d1 ⊢;omega);rw[Nat.zero_add,<-d3]at cB;have CB:=bV (@cB _ _ T5.o (mD _ _ _ _));have HHH:=bV hh;have HSZ:=bV hsz;have hszl:Rf.T.sz x.1<=600:=(by simp at d1;omega);have HK4:=bV d3;have HSP2:=bV hSp;clear hh hpk d1 d2 d3 hSp hGr cB hsz;refine CB.o.mono ?_;rintro e1 w6 ⟨rfl,hg6,hT6⟩;rw[rD,List.append_nil]at hT6;have hFl:=Af (ixF body) (ixT body) x.1 0 [];obtain⟨F,hF⟩:∃F,fill (ixF body) (ixT body) x.1 0 []=F:=⟨_,rfl⟩;rw[hF]at hT6 hFl;have HF:=bV hF;have HFL:=bV hFl;have hFl6:F.length<=600:=oM;have T6:=bV hT6;have G6:Hid (zG w w6):=bV ⟨hg6.os.trans G5.o.os,hg6.tape.trans G5.o.tape,hg6.output.trans G5.o.output,kB G5.o.size hg6.size,λq hq _=>(hg6.block q (aB hq G5.o.size) (λe=>by have:=(X5.o.nodes.lt q e.symm).1;omega)).trans (G5.o.block q hq sM)⟩;obtain⟨pn,cn,rfl⟩:∃p c,nv4=.slice p F.length c:=by
    rcases hT6.nodes.2 with⟨e1,e2⟩|⟨g2,cap2,_,e1,_⟩
    ·exact⟨_,_,by rw[e1,e2]⟩
    ·exact⟨_,_,e1⟩
   obtain⟨c0,c1,c2,c3,_⟩:=hT6.cells;clear hT6 hg6 hF hFl r0 f0 X5 G5 CB T5 C4 D4 HT hii;have HNM:Hid (∀y∈F,y.sort=120->y.first<body.length):=bV λy hy hs=>by
    rw[<-HF.o]at hy;obtain⟨sp,h1,h2⟩:=Es _ _ _ _ _ y hy hs;rw[h2];exact(HSP2.o sp h1).1
   go_wp2_with fail;go_loopg[10,11] F.length (λj av kv wr=>∃i:Nat,j+i=F.length/\kv=vI i/\av=vI (Jj (plc body) (F.take i) (-1))/\Hid (zG w6 wr)/\Hid (RT wr w.heap.size bt s body F (.slice pv body.length cv) (.slice pn F.length cn) k4 (-1)))
   case atStart=>exact⟨0,oM,rfl,rfl,bV ⟨rfl,rfl,rfl,znL _,λ_ _ _=>rfl⟩,T6⟩
   case round=>
    obtain⟨i,hj,rfl,rfl,GR,TR⟩:=hrel;obtain⟨c0',c1',c2',c3',_⟩:=TR.o.cells;clear c0 c1 c2 c3;obtain⟨a,ha⟩:∃a,Jj (plc body) (F.take i) (-1)=a:=⟨_,rfl⟩;rw[ha];have HA:=bV ha;clear ha;by_cases hlt:i<F.length
    ·obtain⟨y,hy⟩:∃y,F[i]?=some y:=⟨_,fA hlt⟩;have hsn:=zj5 (pl:=plc body) hy (-1);rw[HA.o]at hsn;have HSN:=bV hsn;have hli:(i:Int)<(F.length:Int):=oM;have cT:prog.cellsOf 276=9:=kR;have cK:prog.cellsOf 273=3:=kR;obtain⟨g,cap,e,d0,d1,d2,d3,d4',d5,d6,d7,d8,_⟩:=TR.o.node hy;cases e;by_cases hx:y.sort=120/\y.binder<0
     ·obtain⟨hx1,hx2⟩:=hx;have hfl:=HNM.o y (dD hy) hx1;obtain⟨tk,htk⟩:∃tk,body[y.first]?=some tk:=⟨_,fA hfl⟩;obtain⟨_,hcell⟩:=Hr TR.o.Eh;obtain⟨gt,capt,e,_,_,v2⟩:=hcell _ _ htk;cases e;have hpl:plc body y.first=tk.fr:=(by unfold plc;rw[htk];rfl);have HPL:=bV hpl;have hfi:(y.first:Int)<(body.length:Int):=oM;have s1:(y.sort:Int)=120:=oM;have HX1:=bV hx1;rw[s1]at d0;have v2':=cell_kept v2 (zwA wr (.cells #[vU 120,vI y.a,vI y.b,vI y.c,vI y.first,vI y.last,vI y.name,vI y.binder,.bool false] 276) none) sM;clear hsn htk hcell hpl hx1 hy s1;by_cases hm0:a<0
      ·have hm1:¬(0:Int)<=a:=oM;go_wp2_with fail;go_roundg (gk-1)
       case measure=>omega
       case rel=>
        refine⟨i+1,oM,sM,?_,bV (Ab GR.o (zwA _ _ none)),bV (TR.o.grown (zwA _ _ none))⟩;rw[HSN.o,mA ⟨HX1.o,hx2,.inl hm0⟩,HPL.o]
      ·by_cases hm:(tk.fr:Int)<a
       ·skip;go_wp2_with fail;go_roundg (gk-1)
        case measure=>omega
        case rel=>
         refine⟨i+1,oM,sM,?_,bV (Ab GR.o (zwA _ _ none)),bV (TR.o.grown (zwA _ _ none))⟩;rw[HSN.o,mA ⟨HX1.o,hx2,.inr (by rw[HPL.o];exact hm)⟩,HPL.o]
       ·skip;go_wp2_with fail;go_roundg (gk-1)
        case measure=>omega
        case rel=>
         refine⟨i+1,oM,sM,?_,bV (Ab GR.o (zwA _ _ none)),bV (TR.o.grown (zwA _ _ none))⟩;rw[HSN.o,jA (λh=>by have:=HPL.o;rcases h.2.2 with h|h<;>omega)]
     ·by_cases hx1:y.sort=120
      ·have hx2:¬y.binder<0:=λe=>hx ⟨hx1,e⟩;have s1:(y.sort:Int)=120:=oM;rw[s1]at d0;have HX:=bV hx;clear hx hx1 s1 hy hsn;go_wp2_with fail;go_roundg (gk-1)
       case measure=>omega
       case rel=>
        refine⟨i+1,oM,sM,?_,bV (Ab GR.o (zwA _ _ none)),bV (TR.o.grown (zwA _ _ none))⟩;rw[HSN.o,jA (λh=>HX.o ⟨h.1,h.2.1⟩)]
      ·have s1:¬(y.sort:Int)=120:=oM;have HX:=bV hx;clear hx hx1 hy hsn;go_wp2_with fail;go_roundg (gk-1)
       case measure=>omega
       case rel=>
        refine⟨i+1,oM,sM,?_,bV (Ab GR.o (zwA _ _ none)),bV (TR.o.grown (zwA _ _ none))⟩;rw[HSN.o,jA (λh=>HX.o ⟨h.1,h.2.1⟩)]
    ·have hli:¬(i:Int)<(F.length:Int):=oM;obtain rfl:i=F.length:=oM;have hlf:=HA.o;rw[List.take_length,<-HF.o,Gh (S:=At body) (zu5 HL.o) hWP.o (.inl dZ)]at hlf;have hh:=HHH.o;cases hfr:x.1.freeS []with
     |some p=>
      rw[hfr]at hh;have hh2:res=.error (4,p):=(by simpa using hh.symm);subst hh2;have hap:a=(p:Int):=(by rw[<-hlf];simp only[List.map_nil,hfr,orAt];rfl);subst hap;have hp0:(0:Int)<=(p:Int):=oM;have GE:=bV (Ab G6.o GR.o);clear hlf hh hfr;go_wp2_with fail;go_ret3;exact⟨GE.o,rfl⟩
     |none=>
      rw[hfr]at hh;obtain⟨k,hk,hh⟩:=zbE.1 hh;have hap:a = -1:=(by rw[<-hlf];simp only[List.map_nil,hfr,orAt];rfl);subst hap;obtain⟨MC,hMC,hmk⟩:=zn2 F.length oM;have gM:=zwA wr (.cells MC 3) none;have LM:=bV (LAt.made (W:=wr) oM hMC);have TM:=bV (TR.o.grown gM);have GM:=bV (Ab G6.o (Ab GR.o gM));have hz0:wr.heap.size<(wr.alloc (.cells MC 3)).heap.size:=sM;have hwa:=@Gc w.heap.size bt s body F (.slice pv body.length cv) (.slice pn F.length cn) (sL wr.heap.size F.length F.length) k4 (-1) (ixF body) (ixT body) (At body) (zu4 HL.o) x.1 0 [] .nil (List.replicate F.length 0) hWP.o hfr (λq y hq=>by rw[HF.o]at hq;rw[Nat.zero_add];exact hq) .nil (λq hq=>by rw[Nat.zero_add,kD,mA (by rw[HFL.o];exact hq)]);obtain⟨r,K',hw1,hw2⟩:=hwa;obtain rfl:k=r:=(by rw[hk]at hw1;cases hw1;rfl);have hwc:=@zv8.wc _ _ _ _ _ _ _ _ _ _ _ _ _ _ _ hw2;rw[Nat.zero_add,<-HK4.o]at hwc;have WCL:=bV (@hwc _ TM.o LM.o);have hkle:=hw2.le;have HH3:=bV hh;obtain⟨_,_,_,c3m,_⟩:=TM.o.cells;clear hMC gM hk hh hfr hlf hw1 hw2 hwc;go_wp2_with fail;refine WCL.o.mono ?_;rintro e1 w8 ⟨rfl,hg8,hL8⟩;have T8:=bV (TM.o.zro LM.o hg8);have G8:Hid (zG w w8):=bV ⟨hg8.os.trans GM.o.os,hg8.tape.trans GM.o.tape,hg8.output.trans GM.o.output,kB GM.o.size hg8.size,λq hq _=>(hg8.block q (aB hq GM.o.size) (by simp[Value.ownBlock];have:=G6.o.size;have:=GR.o.size;omega)).trans (GM.o.block q hq sM)⟩;clear hg8 hL8 hmk;by_cases hbig:2000<k
      ·have hbi:(2000:Int)<(k:Int):=oM;have hr:=HH3.o;rw[mA hbig]at hr;obtain rfl:res=.error (10,0):=(by simpa using hr.symm);clear hr;go_wp2_with fail;go_ret3;exact⟨G8.o,rfl⟩
      ·have hbi:¬(2000:Int)<(k:Int):=oM;have hr:=HH3.o;rw[jA hbig]at hr;obtain rfl:res=.ok x.1:=(by simpa using hr.symm);clear hr;go_wp2_with fail;go_ret3;refine⟨G8.o,bt,rfl,⟨body,.slice pv body.length cv,.slice pn F.length cn,HL.o,?_,HGR.o⟩,hz1⟩
       have:=T8.o;rw[<-HK4.o,HF.o];exact{this with nodes:=Lu this.nodes}
  all_goals
   by_cases hjl:j<body.length
   ·obtain⟨_,hcell⟩:=Hr XE.o.Eh;have hj3:body[j]?=some tj:=(by rw[<-HJ1.o];exact(iA hjl).symm);obtain⟨gt,capt,e,_,_,v2⟩:=hcell _ _ hj3;cases e;have hji:(j:Int)<(body.length:Int):=oM;rw[HJ2.o]at v2;have cK:prog.cellsOf 273=3:=kR;clear hj3 hcell;go_wp2_with fail;go_ret3;exact⟨GE.o,rfl⟩
   ·have hji:¬(j:Int)<(body.length:Int):=oM;have hjz:tj.fr=s.size:=by
     have:=HJ1.o;rw[fB oM]at this
     have:=dD this;simp at this;rw[this]
    have HFZ:=bV (HJ2.o.symm.trans hjz);clear hjz;go_wp2_with fail;go_ret3;have hfz:=HFZ.o
    try dsimp only at hfz
    refine⟨GE.o,?_⟩;rw[hfz];rfl
end
end
namespace Tw.Rf
section
open Go Go.Proofs.YtckhafpejefbbaaGreatDoor.Tw
section
variable{l l':List RC}{a b:Nat}{f f0:Nat->Nat}
theorem Kb{l:List RC}:∀ {n k r:Nat},endS n l k=some r->End l k r
 |0,_,_,h=>by simp[endS]at h
 |n+1,k,r,h=>by
  simp only[endS,zbE]at h;obtain⟨c,e,h⟩:=h;cases d:c.link with
  |none=>rw[d]at h;cases h;exact .here e d
  |some j=>rw[d]at h;exact .step e d (Kb h)
def Eq1(l:List RC)(a b:Nat):Prop:=∃r,End l a r/\End l b r
theorem Eq1.trans{c:Nat}(h:Eq1 l a b)(k:Eq1 l b c):Eq1 l a c:=by
 obtain⟨r,d,e⟩:=h;obtain⟨s,g,i⟩:=k;rw[e.unique g]at d;exact⟨s,d,i⟩
theorem Eq1.symm(h:Eq1 l a b):Eq1 l b a:=by obtain⟨r,c,d⟩:=h;exact⟨r,d,c⟩
theorem Eq1.refl(W:Wf l f)(h:a<l.length):Eq1 l a a:=by obtain⟨r,c⟩:=W.end h;exact⟨r,c,c⟩
def Lk(l l':List RC):Prop:=∀(k:Nat) (c:RC) (j:Nat),l[k]?=some c->c.link=some j->l'[k]?=some c
theorem za5(h:Lk l l')(W:Wf l' f)(i:l.length<=l'.length){r:Nat}(e:End l a r):Eq1 l' a r:=by
 induction e with
 |here hc _=>exact Eq1.refl W (by have:=(zlE.1 hc).1;omega)
 |step hc hk _ ih=>
  obtain⟨g,c,d⟩:=ih;exact⟨g,.step (h _ _ _ hc hk) hk c,d⟩
theorem zqm(h:Lk l l')(W:Wf l' f)(c:l.length<=l'.length)(g:Eq1 l a b):Eq1 l' a b:=by
 obtain⟨r,d,e⟩:=g;exact(za5 h W c d).trans (za5 h W c e).symm
structure Evo(l l':List RC):Prop where
 len:l.length<=l'.length
 link:Lk l l'
 comp:∀(k:Nat) (c:RC),l[k]?=some c->c.comp->∃e d,End l' k e/\l'[e]?=some d/\d.sort=c.sort/\Eq1 l' c.a d.a/\Eq1 l' c.b d.b
theorem zc6{c:RC}(h:c.comp):c.link=none:=by
 unfold RC.link;rw[jA (by rcases h with h|h<;>omega)]
theorem Evo.Aq(j:Wf l f0)(W:Wf l' f)(m:l.length<=l'.length)(h:∀i:Nat,i<l.length->l'[i]?=l[i]?):Evo l l' where
 len:=m
 link:=λk c o d _=>by rw[h k (zlE.1 d).1];exact d
 comp:=λk c d g=>by
  have e:l'[k]?=some c:=by rw[h k (zlE.1 d).1];exact d
  have n:=j.parts k c d g;exact⟨k,c,.here e (zc6 g),e,rfl,Eq1.refl W oM,Eq1.refl W oM⟩
theorem Evo.refl(W:Wf l f):Evo l l:=Evo.Aq W W (znL _) (λ_ _=>rfl)
theorem Evo.trans{o e:List RC}(h:Evo l o)(k:Evo o e)(W:Wf e f):Evo l e where
 len:=kB h.len k.len
 link:=λq c n d j=>k.link q c n (h.link q c n d j) j
 comp:=λq c d m=>by
  obtain⟨D,B,p,r,g,s,t⟩:=h.comp q c d m;obtain⟨E,C,v,w,x,y,z⟩:=k.comp D B r (by unfold RC.comp;rw[g];exact m);obtain⟨F,i,A⟩:=za5 k.link W k.len p;rw[A.unique v]at i;exact⟨E,C,i,w,x.trans g,(zqm k.link W k.len s).trans y,(zqm k.link W k.len t).trans z⟩
theorem za6:∀ {n:Nat} {l:List RC} {f:Nat->Nat} {todo:List (Nat×Nat)} {l':List RC},Wf l f->(∀q∈todo,q.1<l.length/\q.2<l.length)->Hn n l todo=some (l',false)->Evo l l'/\(∃f',Wf l' f')/\l'.length=l.length/\∀q∈todo,Eq1 l' q.1 q.2
 |0,_,_,_,_,_,_,h=>by simp[Hn]at h
 |n+1,l,f,[],l',W,_,h=>by simp[Hn]at h;subst h;exact⟨Evo.refl W,⟨f,W⟩,rfl,λq hq=>by cases hq⟩
 |n+1,l,f,q::todo,l',W,hr,h=>by
  rw[Hn]at h;obtain⟨x,hx,h⟩:=zbE.1 h;obtain⟨y,hy,h⟩:=zbE.1 h;have ex:=Kb hx;have ey:=Kb hy;have hr':∀q∈todo,q.1<l.length/\q.2<l.length:=λq h=>hr q (by simp[h]);split at h
  ·rename_i hxy;subst hxy;obtain⟨h1,⟨f',W'⟩,h2,h3⟩:=za6 W hr' h;refine⟨h1,⟨f',W'⟩,h2,λu hu=>?_⟩;rcases zmC.1 hu with rfl|hu
   ·exact zqm h1.link W' h1.len ⟨_,ex,ey⟩
   ·exact h3 u hu
  ·rename_i hxy;obtain⟨p,hp,h⟩:=zbE.1 h;obtain⟨r,hr0,h⟩:=zbE.1 h;obtain⟨p',hp',hpl⟩:=ex.root;rw[hp]at hp';cases hp';obtain⟨r',hr0',hrl⟩:=ey.root;rw[hr0]at hr0';cases hr0'
   -- one is put for the other
   have put:∀ {a b:Nat} {pa:RC} {c:RC} {todo1:List (Nat×Nat)},l[a]?=some pa->pa.link=none->End l b b->a≠b->c.link=some b->c.sort=118->Hn n (l.set a c) todo1=some (l',false)->(∀u∈todo1,u.1<l.length/\u.2<l.length)->(∀u∈todo,u∈todo1) ->
     (pa.comp->∃rb,l[b]?=some rb/\rb.sort=pa.sort/\((pa.a,rb.a)∈todo1\/(rb.a,pa.a)∈todo1)/\((pa.b,rb.b)∈todo1\/(rb.b,pa.b)∈todo1)) ->
     Evo l l'/\(∃f',Wf l' f')/\l'.length=l.length/\(∀u∈todo,Eq1 l' u.1 u.2)/\Eq1 l' a b:=by
    intro a b pa c todo1 ha hal hb hab hcl hcs hs h1 h2 h3;obtain⟨f1,W1⟩:=zeq W ha hal hb hab hcl hcs;obtain⟨g1,⟨f',W'⟩,g2,g3⟩:=za6 W1 (by rw[jB];exact h1) hs;rw[jB]at g2;have get:∀k:Nat,(l.set a c)[k]?=if k=a then some c else l[k]? :=λk=>Gp ha k;have lk:Lk l l':=λk d j hd hj=>by
     refine g1.link k d j ?_ hj;rw[get,jA]
     ·exact hd
     ·intro e;rw[e,ha]at hd;cases hd;rw[hal]at hj;cases hj
    have hax:l'[a]?=some c:=g1.link a c b (by rw[get,mA rfl]) hcl;have hle:l.length<=l'.length:=oM;have hab':Eq1 l' a b:=by
     obtain⟨s,hs⟩:=W'.end (k:=b) (by have:=hb.lt.1;omega);exact⟨s,.step hax hcl hs,hs⟩
    refine⟨⟨hle,lk,λk d hd hc=>?_⟩,⟨f',W'⟩,g2,λu hu=>g3 u (h2 u hu),hab'⟩;by_cases hk:k=a
    ·rw[hk,ha]at hd;cases hd;obtain⟨rb,q1,q2,q3,q4⟩:=h3 hc;obtain⟨e,d,v1,v2,v3,v4,v5⟩:=g1.comp b rb (by rw[get,jA (λe=>hab e.symm)];exact q1) (by unfold RC.comp;rw[q2];exact hc);refine⟨e,d,?_,v2,v3.trans q2,(q3.elim (λh=>g3 _ h) (λh=>(g3 _ h).symm)).trans v4,(q4.elim (λh=>g3 _ h) (λh=>(g3 _ h).symm)).trans v5⟩;rw[hk];exact .step hax hcl v1
    ·exact g1.comp k d (by rw[get,jA hk];exact hd) hc
   have fin:Evo l l'/\(∃f',Wf l' f')/\l'.length=l.length/\(∀u∈todo,Eq1 l' u.1 u.2)/\Eq1 l' x y->Evo l l'/\(∃f',Wf l' f')/\l'.length=l.length/\∀u∈q::todo,Eq1 l' u.1 u.2:=by
    rintro⟨g1,⟨f',W'⟩,g2,g3,g4⟩;refine⟨g1,⟨f',W'⟩,g2,λu hu=>?_⟩;rcases zmC.1 hu with rfl|hu
    ·exact((za5 g1.link W' g1.len ex).trans g4).trans (za5 g1.link W' g1.len ey).symm
    ·exact g3 u hu
   split at h
   ·rename_i hps;refine fin (put hp hpl ey.self hxy (c:={p with fo:=some y}) (by simp[RC.link,hps]) hps h hr' (λu hu=>hu) (λhc=>?_));rcases hc with hc|hc<;>omega
   ·split at h
    ·rename_i hrs;obtain⟨g1,g2,g3,g4,g5⟩:=put hr0 hrl ex.self (λe=>hxy e.symm) (c:={r with fo:=some x}) (by simp[RC.link,hrs]) hrs h hr' (λu hu=>hu) (λhc=>by rcases hc with hc|hc<;>omega);exact fin ⟨g1,g2,g3,g4,g5.symm⟩
    ·split at h
     ·cases h
     ·rename_i hps hrs hne;have hse:p.sort=r.sort:=Classical.byContradiction hne;refine fin (put hp hpl ey.self hxy (c:=⟨118,0,0,some y⟩) rfl rfl h ?_ ?_ ?_)
      ·intro u hu;split at hu
       ·rename_i hc;have pp:=W.parts _ _ hp hc;have pr:=W.parts _ _ hr0 (by unfold RC.comp;rw[<-hse];exact hc);rcases zmC.1 hu with rfl|hu
        ·exact⟨pp.2,pr.2⟩
        ·rcases zmC.1 hu with rfl|hu
         ·exact⟨pp.1,pr.1⟩
         ·exact hr' u hu
       ·exact hr' u hu
      ·intro u hu;split
       ·simp[hu]
       ·exact hu
      ·intro hc;refine⟨r,hr0,hse.symm,?_,?_⟩<;>(rw[mA (show p.sort=62\/p.sort=42 from hc)];simp)
theorem zg6(h:Evo l l')(d:Wf l f0){F:List Nat}(s:∀x∈F,x<l.length){k:Nat}(q:Live l F k):k<l.length/\∀e,End l' k e->Live l' F e:=by
 have p:∀ {k e:Nat},End l' k e->Live l' F k->Live l' F e:=λc=>by
  induction c with
  |here _ _=>exact id
  |step hc hl _ ih=>exact λq=>ih (.link q hc hl)
 induction q with
 |base hx=>exact⟨s _ hx,λe c=>p c (.base hx)⟩
 |link _ hc hl ih=>
  refine⟨(d.link _ _ _ hc hl).1,λe c=>ih.2 e (.step (h.link _ _ _ hc hl) hl c)⟩
 |left _ hc hs ih=>
  refine⟨(d.parts _ _ hc hs).1,λe c=>?_⟩;obtain⟨o,r,g,i,j,⟨t,m,n⟩,_⟩:=h.comp _ _ hc hs;rw[c.unique m];exact p n (.left (ih.2 o g) i (by unfold RC.comp;rw[j];exact hs))
 |right _ hc hs ih=>
  refine⟨(d.parts _ _ hc hs).2,λe c=>?_⟩;obtain⟨o,r,g,i,j,_,⟨t,m,n⟩⟩:=h.comp _ _ hc hs;rw[c.unique m];exact p n (.right (ih.2 o g) i (by unfold RC.comp;rw[j];exact hs))
end
section
variable{l0 l:List RC}{f:Nat->Nat}{k:Nat}{F:List Nat}
theorem zs4(W:Wf l0 f)(d:∀i:Nat,i<l0.length->l[i]?=l0[i]?){e:Nat}(h:End l k e):k<l0.length->End l0 k e:=by
 induction h with
 |here hc hl=>intro a;exact .here (by rw[<-d _ a];exact hc) hl
 |@step k j r c hc hl _ ih=>
  intro a;have b:l0[k]?=some c:=by rw[<-d _ a];exact hc
  exact .step b hl (ih (W.link _ _ _ b hl).1)
def Po(cp:List (Option Nat)):Nat:=cp.countP (·.isSome)
theorem Vd{cp:List (Option Nat)}{x c:Nat}(h:cp[x]?=some none):Po (cp.set x (some c))=Po cp+1:=by
 induction cp generalizing x with
 |nil=>simp at h
 |cons o cp ih=>
  cases x with
  |zero=>simp at h;subst h;simp[Po]
  |succ x=>
   have:=ih (x:=x) (by simpa using h);simp only[Po]at this ⊢
   grind
theorem Xx{l0:List RC}{f:Nat->Nat}(W:Wf l0 f)(mk:List Bool)(P Q:Nat->Prop)(g:∀k,P k->k<l0.length)(m:∀k e,P k->End l0 k e->Ta mk e=false->Q e/\∀c,l0[e]?=some c->c.comp->P c.a/\P c.b):
  ∀ {n k:Nat} {l:List RC} {cp:List (Option Nat)} {k':Nat} {l':List RC} {cp':List (Option Nat)},P k->l0.length<=l.length->(∀i:Nat,i<l0.length->l[i]?=l0[i]?)->Jr n mk k l cp=some (k',l',cp') ->
   l.length<=l'.length/\(∀i:Nat,i<l0.length->l'[i]?=l0[i]?)/\(∀r c,cp'[r]?=some (some c)->(∃c,cp[r]?=some (some c))\/Q r)/\l'.length+Po cp=l.length+Po cp'/\cp'.length=cp.length
 |0,_,_,_,_,_,_,_,_,_,h=>by simp[Jr]at h
 |n+1,k,l,cp,k',l',cp',hk,hl,hp,h=>by
  rw[Jr]at h;obtain⟨e,I,h⟩:=zbE.1 h;have w:=zs4 W hp (Kb I) (g k hk);split at h
  ·cases h;exact⟨znL _,hp,λr c h=>.inl ⟨c,h⟩,rfl,rfl⟩
  ·rename_i J;obtain⟨V,X⟩:=m k e hk w (by simpa using J);obtain⟨S,o,h⟩:=zbE.1 h;cases S with
   |some c=>
    cases h;exact⟨znL _,hp,λr c h=>.inl ⟨c,h⟩,rfl,rfl⟩
   |none=>
    obtain⟨y,N,h⟩:=zbE.1 h;have O:l0[e]?=some y:=(by rw[<-hp _ w.lt.2];exact N);have p:∀(r c:Nat),(cp.set e (some l.length))[r]?=some (some c)->(∃c,cp[r]?=some (some c))\/Q r:=λr c h=>by
     by_cases x:r=e
     ·subst x;exact .inr V
     ·rw[qD (λh=>x h.symm)]at h;exact .inl ⟨c,h⟩
    have j:∀i:Nat,i<l0.length->(l++[(⟨118,0,0,none⟩:RC)])[i]?=l0[i]? :=λi a=>(by rw[iA oM];exact hp i a);split at h
    ·cases h;exact⟨sM,j,p,by rw[Vd o];simp;omega,sM⟩
    ·split at h
     ·rename_i M;obtain⟨r,L,h⟩:=zbE.1 h;obtain⟨s,R,h⟩:=zbE.1 h;cases h;obtain⟨T,U⟩:=X y O M;obtain⟨t,z,A,v,B⟩:=Xx W mk P Q g m T (by simp;omega) j (k':=r.1) (l':=r.2.1) (cp':=r.2.2) L;obtain⟨Y,C,D,Z,E⟩:=Xx W mk P Q g m U (by simp at t;omega) z (k':=s.1) (l':=s.2.1) (cp':=s.2.2) R;rw[Vd o]at v;simp at t v;refine⟨by rw[jB];omega,λi a=>by rw[qD oM];exact C i a,λq c h=>?_,by rw[jB];omega,by rw[E,B,jB]⟩;rcases D q c h with⟨G,b⟩|b
      ·rcases A q G b with⟨H,d⟩|d
       ·exact p q H d
       ·exact .inr d
      ·exact .inr b
     ·cases h;exact⟨sM,λi a=>by rw[qD oM];exact j i a,p,by rw[Vd o];simp;omega,sM⟩
theorem Wi:∀ {cp:List (Option Nat)} {d lo hi:Nat},(∀r c,cp[r]?=some (some c)->lo<=d+r/\d+r<hi)->Po cp<=hi-max lo d
 |[],_,_,_,_=>by simp[Po]
 |o::cp,d,lo,hi,h=>by
  have a:=Wi (cp:=cp) (d:=d+1) (lo:=lo) (hi:=hi) (λr c b=>by have:=h (r+1) c (by simpa using b);omega);cases o with
  |none=>simp only[Po,List.countP_cons]at a ⊢;simp;omega
  |some c=>
   have:=h 0 c rfl;simp only[Po,List.countP_cons]at a ⊢;simp;omega
theorem zg7{mk d:List Bool}(K:KOk l F mk d)(M:McT l [] d)(h:Live l F k):∀r,End l k r->d[r]?=some true:=by
 have n:∀ {k:Nat} {c:RC},(∀r,End l k r->d[r]?=some true)->l[k]?=some c->c.comp->∀j,j=c.a\/j=c.b->∀r,End l j r->d[r]?=some true:=λb a e j i r g=>by
  rcases M _ _ (b _ (.here a (zc6 e))) a e j i r g with h|⟨q,m,_⟩
  ·exact h
  ·cases m
 induction h with
 |base hx=>exact K.here _ hx
 |link _ a hl b=>exact λr g=>b r (.step a hl g)
 |left _ a e b=>grind
 |right _ a e b=>grind
structure DefB(l:List RC)(r:Nat)(F:List Nat)(l0 l1:List RC):Prop where
 wf0:∃f,Wf l0 f
 wf1:∃f,Wf l1 f
 Av:∀x∈F,x<l0.length
 lt:r<l1.length
 zt5:Evo l0 l1
 zhy:Evo l1 l
 cl0:Cl (Ol l0 F) l1
 nr:¬Ol l0 F r
 dead:∀k,Ol l1 F k->l[k]?=l1[k]?
theorem zqn(W:Wf l f){r:Nat}{b:List RC}(h:DefB l r F l0 b):∃C,∀n,C<=n->∀k' l',Bg n F r l=some (k',l')->l'.length<=l.length+(b.length-l0.length)/\l.length<=l'.length/\∀i:Nat,i<l.length->l'[i]?=l[i]? :=by
 obtain⟨f0,H⟩:=h.wf0;obtain⟨f1,x⟩:=h.wf1;have a1:=h.zt5.len;have a2:=h.zhy.len;obtain⟨C,mk,J,K,M⟩:=U9 W (ks:=F) (mk:=List.replicate l.length false) sM (λk a=>by have:=h.Av k a;omega) (λp c s=>by rw[kD]at s;split at s<;>simp at s);refine⟨C,λn B k' l' v=>?_⟩;unfold Bg at v;rw[J n B,zbS]at v;obtain⟨w,R,v⟩:=zbE.1 v;have U:∀ {k e:Nat},End l k e->Ta mk e=false->k<b.length->¬Ol l0 F k->Ol b F e/\¬Ol l0 F e:=λq t=>by
  have y:∀ {k:Nat},End l k _->k<b.length->Ol b F k:=λ{k} a A=>⟨A,λg=>by
   have L:=(zg6 h.zhy x (λV T=>by have:=h.Av V T;omega) g).2 _ a;have N:=zg7 K M L _ a.self;rw[Nu.2 N]at t;cases t⟩
  induction q with
  |here j g=>exact λa o=>⟨y (.here j g) a,o⟩
  |step j g q ih=>
   intro a o;have P:=y (.step j g q) a;have m:b[_]?=some _:=(h.dead _ P).symm.trans j;exact ih t y (x.link _ _ _ m g).1 ((h.cl0 _ _ m o).1 _ g)
 obtain⟨X,Y,I,Z,a5⟩:=Xx W mk (λk=>k<b.length/\¬Ol l0 F k) (λe=>l0.length<=e/\e<b.length) (λk a=>by have:=a.1;omega) (λk e a q t=>by
  obtain⟨z,D⟩:=U q t a.1 a.2;obtain⟨c,j,O⟩:=q.root;have m:b[e]?=some c:=(h.dead _ z).symm.trans j;refine⟨⟨?_,z.1⟩,λa0 E G=>?_⟩
  ·rcases yB e l0.length with A|Q
   ·exfalso;have g:Live l0 F e:=Classical.byContradiction λB=>D ⟨A,B⟩;exact z.2 ((zg6 h.zt5 H h.Av g).2 _ (.here m O))
   ·exact Q
  ·rw[j]at E;cases E;have s:=x.parts _ _ m G;have o:=(h.cl0 _ _ m D).2 G;exact⟨⟨s.1,o.1⟩,s.2,o.2⟩) ⟨h.lt,h.nr⟩ (znL _) (λ_ _=>rfl) (k':=w.1) (l':=w.2.1) (cp':=w.2.2) R
 have:=Wi (cp:=w.2.2) (d:=0) (lo:=l0.length) (hi:=b.length) (λr c S=>by
  rcases I r c S with⟨c,h⟩|h
  ·rw[kD]at h;split at h<;>simp at h
  ·omega)
 grind
end
section
variable{B:Nat}{e:REn}{we:WEn}{s:RS}
structure DB(G:List Nat)(l:List RC)(r:Nat)(F:List Nat)(l0 l1:List RC):Prop extends DefB l r F l0 l1 where
 cl1:Cl (Ol l1 F) l
 apart:∀x∈G,¬Ol l1 F x
def EB(B:Nat)(G:List Nat)(l:List RC):REn->WEn->Prop
 |.nil,.nil=>True
 |.fix x _ o,.cons y k we=>x=y/\k=1/\EB B G l o we
 |.dfn x r _ o,.cons y k we=>x=y/\1<=k/\(∃a b,DB G l r o.Av a b/\b.length<=a.length+B*k)/\EB B G l o we
 |_,_=>False
def Fr(G:List Nat)(l l':List RC):Prop:=∀D:Nat->Prop,Cl D l->(∀x∈G,¬D x)->(∀k,D k->k<l.length)->(∀k,D k->l'[k]?=l[k]?)/\Cl D l'
theorem EB.step{B:Nat}{G:List Nat}{l l':List RC}{f:Nat->Nat}(W:Wf l' f)(ev:Evo l l')(fr:Fr G l l'):∀ {e:REn} {we:WEn},EB B G l e we->EB B G l' e we
 |.nil,.nil,_=>trivial
 |.fix _ _ o,.cons _ _ we,h=>⟨h.1,h.2.1,EB.step W ev fr (e:=o) (we:=we) h.2.2⟩
 |.dfn _ r _ o,.cons _ _ we,h=>by
  obtain⟨g,i,⟨n,p,d,j⟩,m⟩:=h;obtain⟨b,c⟩:=fr _ d.cl1 d.apart (λk a=>by have:=a.1;have:=d.zhy.len;omega);exact⟨g,i,⟨n,p,{d with zhy:=d.zhy.trans ev W,dead:=λk a=>(b k a).trans (d.dead k a),cl1:=c},j⟩,EB.step W ev fr (e:=o) (we:=we) m⟩
theorem EB.more{B c:Nat}{G f:List Nat}{l:List RC}(a:B<=c)(b:∀x∈f,x∈G\/l.length<=x):∀ {e:REn} {we:WEn},EB B G l e we->EB c f l e we
 |.nil,.nil,_=>trivial
 |.fix _ _ o,.cons _ _ we,h=>⟨h.1,h.2.1,EB.more a b (e:=o) (we:=we) h.2.2⟩
 |.dfn _ r _ o,.cons _ k we,h=>by
  obtain⟨i,j,⟨p,q,d,t⟩,m⟩:=h;refine⟨i,j,⟨p,q,{d with apart:=λx n g=>(b x n).elim (λh=>d.apart x h g) (λh=>by have:=g.1;have:=d.zhy.len;omega)},?_⟩,EB.more a b (e:=o) (we:=we) m⟩
  have:=fD k a;omega
theorem EB.look{B:Nat}{G:List Nat}{l:List RC}{x:zU}:∀ {e:REn} {we:WEn},EB B G l e we->(∀r,e.look x=some (.inl r)->we.look x=some 1)/\∀r t o,e.look x=some (.inr (r,t,o))->∃k b c,we.look x=some k/\1<=k/\DB G l r o.Av b c/\c.length<=b.length+B*k
 |.nil,.nil,_=>⟨λ_ h=>by simp[REn.look]at h,λ_ _ _ h=>by simp[REn.look]at h⟩
 |.fix n r o,.cons y k we,h=>by
  obtain⟨rfl,rfl,d⟩:=h;have f:=EB.look (x:=x) (e:=o) (we:=we) d;simp only[REn.look,WEn.look];split
  ·exact⟨λ_ _=>rfl,λ_ _ _ a=>by simp at a⟩
  ·exact f
 |.dfn n r t o,.cons y k we,h=>by
  obtain⟨rfl,i,⟨b,c,g,d⟩,j⟩:=h;have f:=EB.look (x:=x) (e:=o) (we:=we) j;simp only[REn.look,WEn.look];split
  ·exact⟨λ_ a=>by simp at a,λp q m a=>by simp at a;obtain⟨rfl,rfl,rfl⟩:=a;exact⟨k,b,c,rfl,i,g,d⟩⟩
  ·exact f
structure Inv(B:Nat)(e:REn)(we:WEn)(s:RS):Prop where
 wf:∃f,Wf s.l f
 ne:s.bad=true->0<s.l.length
 ok:s.bad=false->EOk e.Av s.l e/\EB B e.Av s.l e we
theorem Inv.next{b:RS}{J:TEn->Ty->Prop}{r:Nat}(h:Inv B e we s)(R:ROk J e s b r)(ev:b.bad=false->Evo s.l b.l):Inv B e we b where
 wf:=R.wf
 ne:=λ_=>by have:=R.lt;omega
 ok:=λa=>by
  obtain⟨g,W⟩:=R.wf;obtain⟨c,d⟩:=h.ok (R.bad a);exact⟨c.grow (R.grow a) (λx f=>.inl f),d.step W (ev a) (R.grow a).frame⟩
def RL(t:T):Prop:=∀(B:Nat) (e:REn) (we:WEn) (w:Nat),4<=B->t.freeS e.names=none->Ah t we=some w->w<=2000->(∀s,Inv B e we s->s.bad=false->1<=w/\∀b r a,(∀n,b<=n->rOf n t e s=some (r,a))->a.l.length<=s.l.length+(B+t.recs)*w/\(a.bad=false->Evo s.l a.l))
theorem RL.run{t:T}(h:RL t){w:Nat}(l:4<=B)(j:t.freeS e.names=none)(o:Ah t we=some w)(m:w<=2000)(I:Inv B e we s):
  ∃c r a,(∀n,c<=n->rOf n t e s=some (r,a))/\ROk (Typ t) e s a r/\a.l.length<=s.l.length+(B+t.recs)*w/\(a.bad=false->Evo s.l a.l)/\Inv B e we a/\(s.bad=false->1<=w):=by
 obtain⟨k,W⟩:=I.wf;obtain⟨c,r,a,g,R⟩:=Dt t e j s k W I.ne (λb=>(I.ok b).1);cases b:s.bad with
 |true=>
  have d:a=s:=by
   have:=g c (znL _);cases t<;>(simp only[rOf,b,if_true,zsI,zpI]at this;exact this.2.symm)
  subst d;exact⟨c,r,a,g,R,Nat.le_add_right _ _,λh=>(by rw[b]at h;cases h),I.next R (λh=>(by rw[b]at h;cases h)),λh=>(by cases h)⟩
 |false=>
  obtain⟨d,f⟩:=h B e we w l j o m s I b;obtain⟨f,i⟩:=f c r a g;exact⟨c,r,a,g,R,f,i,I.next R i,λ_=>d⟩
theorem Kc(l:List RC)(c:RC):∀i:Nat,i<l.length->(l++[c])[i]?=l[i]? :=λ_ a=>iA a
theorem zs5(fr to:Nat)(x:zU):RL (.name fr to x):=by
 intro B e we P U m i V s I f;obtain⟨C,W⟩:=I.wf;obtain⟨E,F⟩:=I.ok f;have G:e.names.contains x=true:=by
  simp only[T.freeS]at m
  grind
 obtain⟨q,c⟩:=Qs G;simp only[Ah,zbE,zsI]at i;obtain⟨k,b,i⟩:=i;obtain⟨r,t⟩:=F.look (x:=x);cases q with
 |inl j=>
  rw[r j c]at b;cases b;refine⟨oM,λd M N g=>?_⟩;have a:=g d (znL _);simp only[rOf,f,xA,if_false,useS,c,zsI,zpI]at a;rw[<-a.2];exact⟨Nat.le_add_right _ _,λ_=>Evo.refl W⟩
 |inr q=>
  obtain⟨j,O,L⟩:=q;obtain⟨X,Y,Z,v,w,y,Q⟩:=t j O L c;rw[v]at b;cases b;obtain rfl:k=P:=oM;refine⟨w,λd M N g=>?_⟩;obtain⟨n,J⟩:=zqn W y.toDefB;obtain⟨o,r2,s2,D,p⟩:=Dt (.name fr to x) e m s C W I.ne (λ_=>E);have a:=g (d+n+o) oM;have h:=D (d+n+o) oM;simp only at h;rw[a]at h;cases h;simp only[rOf,f,xA,if_false,useS,c]at a;obtain⟨q,H,a⟩:=zbE.1 a;simp only[zsI,zpI]at a;obtain⟨R,z,A⟩:=J _ oM q.1 q.2 H;obtain⟨S,l⟩:=p.wf;rw[<-a.2]at l ⊢;refine⟨?_,λ_=>Evo.Aq W l z A⟩
  grind
end
section
variable{t l r:T}{a b B p L0 L1 fr to:Nat}
theorem RL.mk(h:∀(B:Nat) (e:REn) (we:WEn) (w:Nat),4<=B->t.freeS e.names=none->Ah t we=some w->w<=2000->∀s,Inv B e we s->s.bad=false->1<=w/\∃N,∀n r c,N<=n->(∃f,Wf c.l f)->rOf n t e s=some (r,c)->c.l.length<=s.l.length+(B+t.recs)*w/\(c.bad=false->Evo s.l c.l)):RL t:=by
 intro B e we w z i C A s I g;obtain⟨x,N,y⟩:=h B e we w z i C A s I g;refine⟨x,λk r c q=>?_⟩;obtain⟨f,W⟩:=I.wf;obtain⟨m,D,E,v,o⟩:=Dt t e i s f W I.ne (λ_=>(I.ok g).1);have j:=q (k+N+m) oM;have d:=v (k+N+m) oM;simp only at d;rw[j]at d;cases d;exact y _ r c oM o.wf j
theorem Tu{n:Nat}{s c:RS}{f:Nat->Nat}(W:Wf s.l f)(i:a<s.l.length)(j:b<s.l.length)(h:Re n a b s=some c)(e:c.bad=false):Evo s.l c.l:=by
 obtain⟨r,d,h⟩:=zbE.1 h;cases h;simp only[Bool.or_eq_false_iff]at e;have g:r=(r.1,false):=by rw[<-e.2]
 rw[g]at d;exact(za6 W (by simp[i,j]) d).1
theorem ar1(c:L1<=L0+(B+p)*a):L1+B<=L0+(B+p)*(1+a):=by
 grind
theorem ar2{q L2:Nat}(c:L1<=L0+(B+p)*a)(d:L2<=L1+(B+q)*b):L2+B<=L0+(B+(p+q))*(1+a+b):=by
 grind
theorem zlq{c:RC}(h:c.sort=118\/c.sort=105\/c.sort=98):¬c.comp:=λk=>by
 rcases k with k|k<;>omega
theorem zg8(c:RC)(i:∀n e s,s.bad=false->rOf n t e s=some (s.l.length,s.put c))(j:∀we,Ah t we=some 1):RL t:=by
 refine .mk λB e we x o q d v s I g=>?_;rw[j]at d;cases d;refine⟨znL _,0,λn r w _ ⟨m,f⟩ h=>?_⟩;rw[i n e s g]at h;cases h;obtain⟨k,W⟩:=I.wf;exact⟨by simp only[RS.put,eA,wB];omega,λ_=>Evo.Aq W f (by simp[RS.put]) (Kc _ _)⟩
theorem zs6(fr to:Nat)(b:Bool):RL (.side fr to b):=by
 refine .mk λB f x w j k e n s I d=>?_;cases e;refine⟨znL _,0,λq r v _ ⟨i,c⟩ h=>?_⟩;simp only[rOf,d,xA,if_false,zsI,zpI]at h;rw[<-h.2]at c ⊢;obtain⟨g,W⟩:=I.wf;refine⟨by simp only[RS.put,eA,wB];omega,λ_=>Evo.Aq W c (by simp[RS.put]) (λo m=>?_)⟩;simp only[RS.put,wA]
 grind
theorem zj6{i:T}(h:RL i):RL (.bracket fr to i):=by
 refine .mk λB x H w f k c z E I j=>?_;simp only[Ah,zbE,zsI]at c;obtain⟨a,g,c⟩:=c;obtain rfl:1+a=w:=oM;obtain⟨o,D,G,e,s,A,y,q,C⟩:=h.run f k g oM I;refine⟨oM,o,λn r F m v d=>?_⟩;simp only[rOf,j,xA,if_false]at d;rw[e n m]at d;simp only[T.recs]
 grind
theorem zs7(y:RL l)(z:RL r):RL (.pair fr to l r):=by
 refine .mk λB O we M f E d Q Z I C=>?_;simp only[Ah,zbE,zsI]at d;obtain⟨a,A,b,D,d⟩:=d;obtain rfl:1+a+b=M:=oM;obtain⟨q,s⟩:=Ez E;obtain⟨H,X,s1,v,N,F,m,i,S⟩:=y.run f q A oM I;obtain⟨J,Y,L,w,k,G,o,j,U⟩:=z.run f s D oM i;obtain⟨W,e⟩:=j.wf;refine⟨oM,H+J,λn V a0 R ⟨P,c⟩ h=>?_⟩;simp only[rOf,C,xA,if_false,v n oM,w n oM,zbS,zsI,zpI]at h;rw[<-h.2]at c ⊢
 have:=ar2 F G;refine⟨by simp only[RS.put,eA,wB,T.recs];omega,λx=>?_⟩;have g:L.bad=false:=x;exact((m (k.bad g)).trans (o g) e).trans (Evo.Aq e c (by simp[RS.put]) (Kc _ _)) c
theorem zs8(h1:RL l)(h2:RL r):RL (.call fr to l r):=by
 refine .mk λB e we w hB hf hw hl s I hb=>?_;simp only[Ah,zbE,zsI]at hw;obtain⟨a,ha,b,hb',hw⟩:=hw;obtain rfl:1+a+b=w:=oM;obtain⟨f1,f2⟩:=Ez hf;obtain⟨n1,r1,s1,g1,R1,len1,ev1,I1,p1⟩:=h1.run hB f1 ha oM I;obtain⟨n2,r2,s2,g2,R2,len2,ev2,I2,p2⟩:=h2.run hB f2 hb' oM I1;obtain⟨q2,W2⟩:=I2.wf;have W3:=Hc W2 (c:=⟨118,0,0,none⟩) rfl sM (λh=>by rcases h with h|h<;>cases h);have l2:=R2.lt;have low2:=R2.low;have l1:=R1.lt;have W4:=Hc W3 (c:=⟨62,r2,s2.l.length,none⟩) rfl sM (λ_=>by simp;omega);obtain⟨n3,s3,g3,O⟩:=Hi (s:=(s2.put ⟨118,0,0,none⟩).put ⟨62,r2,s2.l.length,none⟩) W4 (a:=r1) (b:=s2.l.length+1) (by simp[RS.put];omega) (by simp[RS.put]);refine⟨oM,n1+n2+n3,λn q s' hn ⟨f',W'⟩ hr=>?_⟩;have g3n:=g3 n oM;simp only[rOf,hb,xA,if_false,g1 n oM,g2 n oM,g3n,zbS,zsI,zpI]at hr;rw[<-hr.2]at W' ⊢
 have:=ar2 len1 len2;have ol:=O.len;simp only[RS.put,eA,wB]at ol;refine⟨by simp only[T.recs];omega,λh=>?_⟩;have hb2:s2.bad=false:=O.bad h;refine(((ev1 (R2.bad hb2)).trans (ev2 hb2) W2).trans (Evo.Aq W2 W4 sM (λi hi=>?_)) W4).trans (Tu W4 (by simp[RS.put];omega) (by simp[RS.put]) g3n h) W'
 grind
theorem zn3{sg:Int}(h1:RL l)(h2:RL r):RL (.binary fr to sg l r):=by
 refine .mk λB e we w hB hf hw hl s I hb=>?_;simp only[Ah,zbE,zsI]at hw;obtain⟨a,ha,b,hb',hw⟩:=hw;obtain rfl:1+a+b=w:=oM;obtain⟨f1,f2⟩:=Ez hf;obtain⟨n1,r1,s1,g1,R1,len1,ev1,I1,p1⟩:=h1.run hB f1 ha oM I;obtain⟨n2,r2,s2,g2,R2,len2,ev2,I2,p2⟩:=h2.run hB f2 hb' oM I1;obtain⟨q2,W2⟩:=I2.wf;have l2:=R2.lt;have low2:=R2.low;have l1:=R1.lt;have W3:=Hc W2 (c:=⟨105,0,0,none⟩) rfl sM (λh=>by rcases h with h|h<;>cases h);obtain⟨n3,s3,g3,O3⟩:=Hi (s:=s2.put ⟨105,0,0,none⟩) W3 (a:=r1) (b:=s2.l.length) (by simp[RS.put];omega) (by simp[RS.put]);obtain⟨q3,W3'⟩:=O3.wf;have ol3:=O3.len;simp only[RS.put,eA,wB]at ol3;obtain⟨n4,s4,g4,O4⟩:=Hi (s:=s3) W3' (a:=r2) (b:=s2.l.length) oM oM;obtain⟨q4,W4⟩:=O4.wf;have ol4:=O4.len
 have:=ar2 len1 len2;refine⟨oM,n1+n2+n3+n4,λn q s' hn ⟨f',W'⟩ hr=>?_⟩;have g3n:=g3 n oM;have g4n:=g4 n oM;simp only[rOf,hb,xA,if_false,g1 n oM,g2 n oM,g3n,g4n,zbS]at hr;have ev4:s4.bad=false->Evo s.l s4.l:=λh=>by
  have hb3:=O4.bad h;have hb2:s2.bad=false:=O3.bad hb3;exact((((ev1 (R2.bad hb2)).trans (ev2 hb2) W2).trans (Evo.Aq W2 W3 sM (Kc _ _)) W3).trans (Tu W3 (by simp[RS.put];omega) (by simp[RS.put]) g3n hb3) W3').trans (Tu W3' oM oM g4n h) W4
 split at hr
 ·simp only[zsI,zpI]at hr;rw[<-hr.2]at W' ⊢;exact⟨by simp only[RS.put,eA,wB,T.recs];omega,λh=>(ev4 h).trans (Evo.Aq W4 W' (by simp[RS.put]) (Kc _ _)) W'⟩
 ·simp only[zsI,zpI]at hr;rw[<-hr.2];exact⟨by simp only[T.recs];omega,ev4⟩
end
section
variable{fr to B bat:Nat}{t b d:T}{bn:List UInt8}
theorem zj7(G:List Nat)(l:List RC){c:RC}(g:c.fo=none)(f:¬c.comp):Fr G l (l++[c]):=λ_ a _ e=>⟨λk i=>iA (e k i),Io a g (λh=>absurd h f)⟩
theorem zs9{c g:T}(h0:RL c)(h1:RL t)(h2:RL g):RL (.cond fr to c t g):=by
 refine .mk λB e we w hB hf hw hl s I hb=>?_;simp only[Ah,zbE,zsI]at hw;obtain⟨a,ha,b,hb',d,hd,hw⟩:=hw;obtain rfl:1+a+b+d=w:=oM;obtain⟨f1,f3⟩:=Ez hf;obtain⟨f1,f2⟩:=Ez f1;obtain⟨n1,r1,s1,g1,R1,len1,ev1,I1,p1⟩:=h0.run hB f1 ha oM I;obtain⟨q1,W1⟩:=I1.wf;have lt1:=R1.lt;have low1:=R1.low;have W2:=Hc W1 (c:=⟨98,0,0,none⟩) rfl sM (λh=>by rcases h with h|h<;>cases h);obtain⟨n2,s2,g2,O⟩:=Hi (s:=s1.put ⟨98,0,0,none⟩) W2 (a:=r1) (b:=s1.l.length) (by simp[RS.put];omega) (by simp[RS.put]);obtain⟨q2,W2'⟩:=O.wf;have ol:=O.len;simp only[RS.put,eA,wB]at ol;have ev2:∀n,n2<=n->s2.bad=false->Evo s.l s2.l:=λn hn h=>by
  have hb1:s1.bad=false:=O.bad h;exact(((ev1 hb1).trans (Evo.Aq W1 W2 sM (Kc _ _)) W2).trans (Tu W2 (by simp[RS.put];omega) (by simp[RS.put]) (g2 n hn) h) W2')
 have gr:s2.bad=false->Grow e.Av s.l s2.l:=λh=>by
  have hb1:s1.bad=false:=O.bad h;refine⟨oM,λv hv=>?_,λD d1 d2 d3=>?_⟩
  ·exact(R1.sound hb1 v (Ek.1 (O.sound h v hv).1).1).1
  ·obtain⟨a1,a2,a3⟩:=R1.frame hb1 D d1 d2 d3;have a4:Cl D (s1.l++[⟨98,0,0,none⟩]):=Io a2 rfl (λh=>by rcases h with h|h<;>cases h);obtain⟨b1,b2⟩:=O.frame D a4 a3 (λhd=>by have:=d3 _ hd;omega);refine⟨λk hk=>(b1 k hk).trans ?_,b2⟩
   have:=d3 k hk;exact(iA oM).trans (a1 k hk)
 have I2:Inv B e we s2:=⟨⟨q2,W2'⟩,λ_=>oM,λh=>⟨(I.ok hb).1.grow (gr h) (λx hx=>.inl hx),(I.ok hb).2.step W2' (ev2 n2 (znL _) h) (gr h).frame⟩⟩;obtain⟨n3,r3,s3,g3,R3,len3,ev3,I3,p3⟩:=h1.run hB f2 hb' oM I2;obtain⟨n4,r4,s4,g4,R4,len4,ev4,I4,p4⟩:=h2.run hB f3 hd oM I3;obtain⟨q3,W3⟩:=I3.wf;obtain⟨q4,W4⟩:=I4.wf;have lt3:=R3.lt;have lt4:=R4.lt;have low4:=R4.low;obtain⟨n5,s5,g5,O5⟩:=Hi (s:=s4) W4 (a:=r3) (b:=r4) oM oM;have ol5:=O5.len;refine⟨oM,n1+n2+n3+n4+n5,λn q s' hn ⟨f',W'⟩ hr=>?_⟩;have g5n:=g5 n oM;simp only[rOf,hb,xA,if_false,g1 n oM,g2 n oM,g3 n oM,g4 n oM,g5n,zbS,zsI,zpI]at hr;rw[<-hr.2]at W' ⊢;refine⟨?_,λh=>?_⟩
 ·have e1:=fD a (show B+c.recs<=B+(c.recs+t.recs+g.recs) by omega);simp only[T.recs]
  grind
 ·have hb4:=O5.bad h;have hb3:=R4.bad hb4;have hb2:=R3.bad hb3;exact((((ev2 n oM hb2).trans (ev3 hb3) W3).trans (ev4 hb4) W4).trans (Tu W4 oM oM g5n h) W')
theorem zlf{e:REn}{we:WEn}{s:RS}(I:Inv B e we s)(n:s.bad=false)(bn:zU):Inv B (.fix bn s.l.length e) (.cons bn 1 we) (s.put ⟨118,0,0,none⟩):=by
 obtain⟨i,W⟩:=I.wf;have g:¬(⟨118,0,0,none⟩:RC).comp:=zlq (.inl rfl);have f:=Hc W (c:=⟨118,0,0,none⟩) rfl sM (λk=>absurd k g);have j:Grow e.Av s.l (s.l++[⟨118,0,0,none⟩]):=⟨sM,λv o=>(Ek.1 o).1,zj7 _ _ rfl g⟩;have h:∀x∈(REn.fix bn s.l.length e).Av,x∈e.Av\/s.l.length<=x:=λx a=>by
  rcases zmA.1 a with a|a
  ·grind
  grind
 obtain⟨l,m⟩:=I.ok n;refine⟨⟨i,f⟩,λ_=>by simp[RS.put],λ_=>⟨⟨by simp[RS.put],(l.more h).grow j (λx a=>.inl (zmA.2 (.inl a)))⟩,rfl,rfl,?_⟩⟩;exact(m.more (znL _) h).step f (Evo.Aq W f sM (Kc _ _)) (zj7 _ _ rfl g)
theorem zvr(h:RL b):RL (.fn fr to bn bat b):=by
 refine .mk λB e P A q s c F z I i=>?_;simp only[Ah,zbE,zsI]at c;obtain⟨n,r,c⟩:=c;obtain rfl:1+n=A:=oM;obtain⟨D,W⟩:=I.wf;have f:=zlf I i bn;obtain⟨H,m⟩:=f.wf;obtain⟨y,M,O,p,C,k,o,l,G⟩:=h.run (e:=.fix bn z.l.length e) q s r oM f;obtain⟨J,g⟩:=l.wf;refine⟨oM,y,λx L N w ⟨E,a⟩ j=>?_⟩;simp only[rOf,i,xA,if_false,p x w,zbS,zsI,zpI]at j;rw[<-j.2]at a ⊢;simp only[RS.put,eA,wB]at k
 have:=ar1 k;refine⟨by simp only[RS.put,eA,wB,T.recs];omega,λv=>?_⟩;exact((Evo.Aq W m (by simp[RS.put]) (Kc _ _)).trans (o v) g).trans (Evo.Aq g a (by simp[RS.put]) (Kc _ _)) a
theorem ar3{p q a c L0 L1 L2 x:Nat}(e:L1<=L0+x+(B+p)*a)(f:L2<=L1+(B+p+x+q)*c):L2<=L0+(B+(x+p+q))*(1+(a+c)):=by
 grind
theorem zu6(h1:RL d)(h2:RL b):RL (.Am fr to false bn bat d b):=by
 refine .mk λB e we w hB hf hw hl s I hb=>?_;simp only[Ah,zbE,zsI,xA,if_false]at hw;obtain⟨a,ha,c,hc,hw⟩:=hw;obtain rfl:1+(a+c)=w:=oM;obtain⟨f1,f2⟩:=Ez hf;obtain⟨f,W⟩:=I.wf;obtain⟨h3,h4⟩:=I.ok hb;obtain⟨n1,r1,s1,g1,R1,len1,ev1,I1,p1⟩:=h1.run hB f1 ha oM I;obtain⟨q1,W1⟩:=I1.wf;have I2:Inv (B+d.recs) (.dfn bn r1 (.Am fr to false bn bat d b) e) (.cons bn a we) s1:=by
  refine⟨I1.wf,I1.ne,λhb1=>⟨⟨⟨s1.l,zax W1 h3 R1.lt R1.low (λv hv=>⟨(R1.sound hb1 v hv).1,.plain (R1.sound hb1 v hv).2⟩) (λv a hv ht=>by cases ht with|plain ht=>exact(R1.complete hb v a hv ht).2)⟩,(I1.ok hb1).1⟩,rfl,p1 hb,⟨s.l,s1.l,?_,len1⟩,(I1.ok hb1).2.more oM (λx hx=>.inl hx)⟩⟩;obtain⟨a1,a2,a3⟩:=R1.frame hb1 (Ol s.l e.Av) (Wb _ _) (λx hx hd=>hd.2 (.base hx)) (λk hk=>hk.1);exact{wf0:=⟨f,W⟩,wf1:=⟨q1,W1⟩,Av:=h3.Av,lt:=R1.lt,zt5:=ev1 hb1,zhy:=Evo.refl W1,cl0:=a2,nr:=a3,dead:=λ_ _=>rfl,cl1:=Wb _ _,apart:=λx hx hd=>hd.2 (.base hx)}
 obtain⟨n2,r2,s2,g2,R2,len2,ev2,I2',p2⟩:=h2.run (e:=.dfn bn r1 (.Am fr to false bn bat d b) e) oM f2 hc oM I2;obtain⟨q2,W2⟩:=I2'.wf;refine⟨oM,n1+n2,λn r s' hn W' hr=>?_⟩;simp only[rOf,hb,xA,if_false,g1 n oM,g2 n oM,zbS,zsI,zpI]at hr;rw[<-hr.2];refine⟨?_,λhh=>(ev1 (R2.bad hh)).trans (ev2 hh) W2⟩
 have:=ar3 (x:=0) len1 len2;simpa only[T.recs,xA,if_false]using this
theorem zu7(h1:RL d)(h2:RL b):RL (.Am fr to true bn bat d b):=by
 refine .mk λB e we w hB hf hw hl s I hb=>?_;simp only[Ah,zbE,zsI,if_true]at hw;obtain⟨a,ha,c,hc,hw⟩:=hw;obtain rfl:1+(a+c)=w:=oM;obtain⟨f1,f2⟩:=Ez hf;obtain⟨f,W⟩:=I.wf;obtain⟨h3,h4⟩:=I.ok hb;obtain⟨N,hN⟩:∃N,s.l.length=N:=⟨_,rfl⟩;have I1:=zlf I hb bn;obtain⟨q0,W0⟩:=I1.wf;rw[hN]at I1;obtain⟨n1,r1,s1,g1,R1,len1,ev1,I1',p1⟩:=h1.run (e:=.fix bn N e) hB f1 ha oM I1;obtain⟨q1,W1⟩:=I1'.wf;have l0:(s.put ⟨118,0,0,none⟩).l.length=N+1:=by simp[RS.put,hN]
 have low1:=R1.low;have lt1:=R1.lt;obtain⟨n2,s2,g2,O⟩:=Hi (s:=s1) W1 (a:=N) (b:=r1) oM lt1;obtain⟨q2,W2⟩:=O.wf;have ol:=O.len;have ev2:∀n,n2<=n->s2.bad=false->Evo s.l s2.l:=λn hn h=>by
  have hb1:=O.bad h;exact((Evo.Aq W W0 (by simp[RS.put]) (Kc _ _)).trans (ev1 hb1) W1).trans (Tu W1 oM lt1 (g2 n hn) h) W2
 have fx:∀x∈(REn.fix bn N e).Av,x∈e.Av\/s.l.length<=x:=λx hx=>by
  rcases zmA.1 hx with hx|hx
  ·grind
  grind
 have frm:s2.bad=false->∀D:Nat->Prop,Cl D s.l->(∀x∈e.Av,¬D x)->(∀k,D k->k<s.l.length)->(∀k,D k->s2.l[k]?=s.l[k]?)/\Cl D s2.l:=λh D d1 d2 d3=>by
  obtain⟨g1,g2⟩:=zj7 e.Av s.l (c:=⟨118,0,0,none⟩) rfl (zlq (.inl rfl)) D d1 d2 d3;obtain⟨a1,a2,a3⟩:=R1.frame (O.bad h) D g2 (λx hx hd=>(fx x hx).elim (λh=>d2 x h hd) (λh=>by have:=d3 x hd;omega)) (λk hk=>by have:=d3 k hk;rw[l0];omega);obtain⟨b1,b2⟩:=O.frame D a2 (λhd=>by have:=d3 N hd;omega) a3;exact⟨λk hk=>(b1 k hk).trans ((a1 k hk).trans (g1 k hk)),b2⟩
 have hs:s2.bad=false->∀v,Sat s2.l v->Sat s.l v/\Og (.Am fr to true bn bat d b) (e.val v) (v N):=λh v hv=>by
  obtain⟨o1,o2⟩:=O.sound h v hv;obtain⟨q1,q2⟩:=R1.sound (O.bad h) v o1;rw[<-o2]at q2;exact⟨(Ek.1 q1).1,.zon q2⟩
 have hcm:∀v a,Sat s.l v->Og (.Am fr to true bn bat d b) (e.val v) a->∃v',I9 s.l.length v v'/\Sat s2.l v'/\v' N=a:=λv a hv ht=>by
  cases ht with
  |zon ht=>
   have m1:=Ce W (a:=a) hv (M9 _ _);rw[hN]at m1;have ev:(REn.fix bn N e).val (upd v N a)=.fix bn a (e.val v):=by
    simp only[REn.val,B8];rw[Dg h3 (by rw[hN];exact Kq v N a)]
   obtain⟨b2,v2,ag,sv,q⟩:=R1.complete hb _ a m1 (by rw[ev];exact ht);have vN:v2 N=a:=(by rw[ag N oM,B8]);obtain⟨b3,m3⟩:=O.complete b2 v2 sv (vN.trans q.symm);exact⟨v2,λq hq=>by rw[ag q oM,Da oM],m3,vN⟩
 have gr:s2.bad=false->Grow e.Av s.l s2.l:=λh=>⟨oM,λv hv=>(hs h v hv).1,frm h⟩;have I2:Inv (B+d.recs+1) (.dfn bn N (.Am fr to true bn bat d b) e) (.cons bn a we) s2:=by
  refine⟨⟨q2,W2⟩,λ_=>oM,λhb2=>⟨⟨⟨s2.l,zax W2 h3 oM oM (hs hb2) hcm⟩,h3.grow (gr hb2) (λx hx=>.inl hx)⟩,rfl,p1 hb,⟨s.l,s2.l,?_,?_⟩,(h4.step W2 (ev2 n2 (znL _) hb2) (gr hb2).frame).more oM (λx hx=>.inl hx)⟩⟩
  ·exact{wf0:=⟨f,W⟩,wf1:=⟨q2,W2⟩,Av:=h3.Av,lt:=oM,zt5:=ev2 n2 (znL _) hb2,zhy:=Evo.refl W2,cl0:=(frm hb2 _ (Wb _ _) (λx hx hd=>hd.2 (.base hx)) (λk hk=>hk.1)).2,nr:=λhd=>by have:=hd.1;omega,dead:=λ_ _=>rfl,cl1:=Wb _ _,apart:=λx hx hd=>hd.2 (.base hx)}
  ·have:=p1 hb
   grind
 obtain⟨n3,r3,s3,g3,R3,len3,ev3,I3,p3⟩:=h2.run (e:=.dfn bn N (.Am fr to true bn bat d b) e) oM f2 hc oM I2;obtain⟨q3,W3⟩:=I3.wf;refine⟨oM,n1+n2+n3,λn r s' hn W' hr=>?_⟩;simp only[rOf,hb,xA,if_false,if_true,hN,g1 n oM,g2 n oM,g3 n oM,zbS,zsI,zpI]at hr;rw[<-hr.2];refine⟨?_,λhh=>(ev2 n oM (R3.bad hh)).trans (ev3 hh) W3⟩
 have:=ar3 (B:=B) (x:=1) (p:=d.recs) (q:=b.recs) (a:=a) (c:=c) (L0:=s.l.length) (L1:=s2.l.length) (L2:=s3.l.length) oM len3;simpa only[T.recs,if_true]using this
theorem Ip:∀t:T,RL t
 |.name fr to x=>zs5 fr to x
 |.int fr to v=>zg8 ⟨105,0,0,none⟩ (λn e s a=>by simp[rOf,a]) (λ_=>rfl)
 |.Ak fr to b=>zg8 ⟨98,0,0,none⟩ (λn e s a=>by simp[rOf,a]) (λ_=>rfl)
 |.side fr to b=>zs6 fr to b
 |.bracket fr to i=>zj6 (Ip i)
 |.pair fr to l r=>zs7 (Ip l) (Ip r)
 |.call fr to l r=>zs8 (Ip l) (Ip r)
 |.binary fr to sg l r=>zn3 (Ip l) (Ip r)
 |.cond fr to c t g=>zs9 (Ip c) (Ip t) (Ip g)
 |.fn fr to bn bat b=>zvr (Ip b)
 |.Am fr to false bn bat d b=>zu6 (Ip d) (Ip b)
 |.Am fr to true bn bat d b=>zu7 (Ip d) (Ip b)
theorem zn4(j:t.freeS []=none){w:Nat}(g:Ah t .nil=some w)(a:w<=2000):∃f r s,(∀n,f<=n->rOf n t .nil ⟨[],false⟩=some (r,s))/\s.l.length<=4008000:=by
 have I:Inv 4 .nil .nil ⟨[],false⟩:=⟨⟨λ_=>0,⟨λk c l h=>(by simp at h),λk c h=>(by simp at h),λk c h=>(by simp at h)⟩⟩,λh=>(by cases h),λ_=>⟨trivial,trivial⟩⟩;obtain⟨f,r,s,i,R,len,_⟩:=(Ip t).run (e:=.nil) (znL 4) j g a I;refine⟨f,r,s,i,?_⟩
 have:=Cu t .nil w g a;have e:=Nat.mul_le_mul (show 4+t.recs<=2004 by omega) a
 grind
end
end
end Tw.Rf
section
open Tw Tw.Rf Go.Proofs.Tryz
open Go.RowKit
section
def Tw.Rf.RC.foI(c:RC):Int:=match c.fo with|none=>-1|some j=>(j:Int)
def Gn(c:RC):List Value:=[.int .u8 c.sort,.int .i64 c.a,.int .i64 c.b,.int .i64 c.foI]
def E6:List RC->List Value
 |[]=>[]
 |c::l=>Gn c++E6 l
theorem zci(a b:List RC):E6 (a++b)=E6 a++E6 b:=by
 induction a with
 |nil=>rfl
 |cons t a ih=>simp[E6,ih]
theorem Ul(a:List RC):(E6 a).length=a.length*4:=by
 induction a with
 |nil=>rfl
 |cons t a ih=>simp[E6,Gn,ih];omega
theorem zj8{l:List RC}:∀ {j:Nat} {x:RC},l[j]?=some x->∀m,m<4->(E6 l)[j*4+m]?=(Gn x)[m]? :=by
 induction l with
 |nil=>intro j x h;simp at h
 |cons y l ih=>
  intro j x h m a;cases j with
  |zero=>
   cases h;rw[E6,Nat.zero_mul,Nat.zero_add,iA (by simpa[Gn]using a)]
  |succ j=>
   rw[E6,fB (by simp[Gn];omega)];rw[show(j+1)*4+m-(Gn y).length=j*4+m by simp[Gn];omega];exact ih (by simpa using h) m a
abbrev Bnd:=Nat×Nat×Bool
def zbl(b:Bnd):List Value:=[.int .i64 b.1,.int .i64 b.2.1,.bool b.2.2]
structure ST(w:World)(B bs bt:Nat)(l:List RC)(bad:Bool)(env:List Bnd)(lv ev sv:Value):Prop where
 store:w.heap[bs]?=some (.cells #[.pointer (some ⟨bt,0,none⟩),lv,.bool bad,ev,sv] 155 (0,0))
 types:w.ownsRow B 281 4 lv l.length (E6 l)
 Ly:w.ownsRow B 284 3 ev env.length (env.flatMap zbl)
 seen:∃seen:List Nat,w.ownsRow B 3 1 sv seen.length (seen.map fun f:Nat=>Value.int .i64 f)
 low:B<=bs
 few:l.length<=5000000
section
variable {w:World}{B bs bt:Nat}{l:List Tw.Rf.RC}{bad:Bool}{env:List Bnd}{lv ev sv:Value}
variable{k:Nat}
theorem ST.cells(h:ST w B bs bt l bad env lv ev sv):w.cell? (aD bs 0)=some (pT bt)/\w.cell? (aD bs 1)=some lv/\w.cell? (aD bs 2)=some (.bool bad)/\w.cell? (aD bs 3)=some ev/\w.cell? (aD bs 4)=some sv:=by
 refine⟨?_,?_,?_,?_,?_⟩<;>(rw[mB _ _ _ _ _ _ h.store];rfl)
theorem ST.grown(h:ST w B bs bt l bad env lv ev sv){w':World}(d:zG w w'):ST w' B bs bt l bad env lv ev sv:=by
 have⟨seen,e⟩:=h.seen;have k:∀(g:Nat) {b:TypeId} (c:Array Value),zH w g c b->zH w' g c b:=λg _ c a=>zbG d a;exact{h with store:=k _ _ h.store,types:=Ai h.types λg c a=>k g c a,Ly:=Ai h.Ly λg c a=>k g c a,seen:=⟨seen,Ai e λg c a=>k g c a⟩}
theorem ST.slice(h:ST w B bs bt l bad env lv ev sv):∃p c,lv=.slice p l.length c:=by
 rcases h.types.2 with⟨a,b⟩|⟨e,d,_,a,_⟩
 ·exact⟨_,_,by rw[a,b]⟩
 ·exact⟨_,_,a⟩
theorem ST.type(h:ST w B bs bt l bad env lv ev sv){x:RC}(a:l[k]?=some x):∃g cap,lv=sL g l.length cap/\w.cell? (aD g (k*4))=some (vU x.sort)/\w.cell? (aD g (k*4+1))=some (vI x.a)/\w.cell? (aD g (k*4+2))=some (vI x.b)/\w.cell? (aD g (k*4+3))=some (vI x.foI)/\∀m,w.frozen? (aD g m)=false:=by
 have o:=(zlE.1 a).1;have f:=zj8 a;have b:=h.types;rcases h.types.2 with⟨_,n⟩|⟨g,cap,j,e,_,d,_⟩
 ·omega
 ·rw[e]at b;have c:∀m,m<4->w.cell? ⟨g,k*4+m,none⟩=(Gn x)[m]? :=λm i=>(b.cellAt _ oM).trans (f m i);exact⟨g,cap,e,c 0 oM,c 1 oM,c 2 oM,c 3 oM,λm=>eB _ _ _ _ _ d⟩
theorem Ve(h:ST w B bs bt l bad env lv ev sv){n r:Nat}(q:Rf.endS n l k=some r):
  Calls prog 133 #[pT bs,vI k] w λe w'=>e=.returned (vI r)/\zG w w':=by
 obtain⟨J,C,rfl⟩:=h.slice;go_in;go_wp21;go_loopg[1] n (λj y wr=>∃g:Nat,y=vI g/\wr=w/\Hid (Rf.endS j l g=some r))
 case atStart=>exact⟨k,rfl,rfl,q⟩
 case round=>
  obtain⟨g,rfl,rfl,i⟩:=hrel;cases gk with
  |zero=>exact absurd i.o (by simp[Rf.endS])
  |succ m=>
   have a:=i.o;simp[Rf.endS,Option.bind_eq_some_iff]at a;have⟨c,v,a⟩:=a;have I:=(zlE.1 v).1;have H:(g:Int)<(l.length:Int):=oM;have⟨_,z,_,_,_⟩:=h.cells;have⟨F,A,e,x,D,E,t,_⟩:=h.type v;cases e;by_cases f:c.sort=118
   ·have s:(c.sort:Int)=118:=oM;rw[s]at x;cases d:c.fo with
    |none=>
     have p:c.foI = -1:=(by unfold RC.foI;rw[d]);rw[p]at t;have b:g=r:=(by simpa[RC.link,f,d]using a);have o:=bV b;clear a b p s f d i q;go_wp21;go_ret;refine⟨?_,Aa _⟩;rw[o.o];rfl
    |some j=>
     have p:c.foI=(j:Int):=(by unfold RC.foI;rw[d]);rw[p]at t;have b:Rf.endS m l j=some r:=(by simpa[RC.link,f,d]using a);have o:=bV b;have G:(0:Int)<=(j:Int):=oM;clear a b p s f d i q;go_wp21;go_roundg m
     case measure=>omega
     case rel=>exact⟨j,rfl,rfl,o⟩
   ·have s:¬(c.sort:Int)=118:=oM;have b:g=r:=(by simpa[RC.link,f]using a);have o:=bV b;clear a b i q f;go_wp21;go_ret;refine⟨?_,Aa _⟩;rw[o.o];rfl
end
end
end
end Go.Proofs.YtckhafpejefbbaaGreatDoor
