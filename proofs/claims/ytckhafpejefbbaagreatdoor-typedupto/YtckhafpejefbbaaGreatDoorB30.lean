import Derived.Test.YtckhafpejefbbaaGreatDoorB29
import Derived.Laws.AppendOwnNone

set_option maxRecDepth 100000
set_option maxHeartbeats 16000000
namespace Go.Proofs.YtckhafpejefbbaaGreatDoor
section
open Tw Tw.Rf Go.Proofs.Tryz
open Go.RowKit
structure RT(w:World)(B bt:Nat)(s:ByteArray)(body:List Tw.Tok)(N:List RN)(tv nv:Value)(root er:Int):Prop where
 tree:w.heap[bt]?=some (.cells #[.string s,tv,nv,.int .i64 root,.int .i64 er] 102 (0,0))
 toks:w.ownsRow 0 273 3 tv body.length (Cw s.data.toList body)
 nodes:w.ownsRow B 276 9 nv N.length (Eg N)
 many:body.length<=300
 few:N.length<=5000
section
variable {w:World}{B bt:Nat}{s:ByteArray}{body:List Tw.Tok}{N:List Tw.Rf.RN}{tv nv:Value}{root er:Int}
variable{w' w a b c:World}{k size:Nat}{v:Value}{L:List Nat}{e:TypeId}{xs:List Value}{o:Option Nat}
theorem RT.cells(h:RT w B bt s body N tv nv root er):w.cell? (aD bt 0)=some (.string s)/\w.cell? (aD bt 1)=some tv/\w.cell? (aD bt 2)=some nv/\w.cell? (aD bt 3)=some (vI root)/\w.cell? (aD bt 4)=some (vI er):=by
 refine⟨?_,?_,?_,?_,?_⟩<;>(rw[mB _ _ _ _ _ _ h.tree];rfl)
theorem RT.ntree(h:RT w B bt s body N tv nv root er):some bt≠nv.ownBlock:=λe=>by
 rcases h.nodes.2 with⟨d,_⟩|⟨j,g,i,d,_,f,_⟩
 ·rw[d]at e;simp[Value.ownBlock]at e
 ·rw[d]at e;simp[Value.ownBlock]at e;rw[<-e]at f;have:=h.tree;rw[f]at this;cases this
theorem RT.ntok(h:RT w B bt s body N tv nv root er){g:Nat}{c:Array Value}{u:TypeId}(j:u≠276)(i:w.heap[g]?=some (.cells c u (0,0))):some g≠nv.ownBlock:=λe=>by
 rcases h.nodes.2 with⟨d,_⟩|⟨n,l,m,d,_,f,_⟩
 ·rw[d]at e;simp[Value.ownBlock]at e
 ·rw[d]at e;simp[Value.ownBlock]at e;rw[<-e,i]at f;cases f;exact j rfl
theorem RT.grown(h:RT w B bt s body N tv nv root er)(f:w.grownBy w' none):RT w' B bt s body N tv nv root er:=
 {h with
  tree:=zbG f h.tree
  toks:=Ag h.toks λ_ _ d=>zbG f d
  nodes:=Ag h.nodes λ_ _ d=>zbG f d}
theorem zem{N:List RN}:∀ {j:Nat} {x:RN},N[j]?=some x->∀m,m<9->(Eg N)[j*9+m]?=(Ll x)[m]? :=by
 induction N with
 |nil=>intro j x h;simp at h
 |cons y N ih=>
  intro j x h m d;cases j with
  |zero=>
   cases h;rw[Eg,Nat.zero_mul,Nat.zero_add,iA (by simpa[Ll]using d)]
  |succ j=>
   rw[Eg,fB (by simp[Ll];omega)];rw[show(j+1)*9+m-(Ll y).length=j*9+m by simp[Ll];omega];exact ih (by simpa using h) m d
theorem RT.node(h:RT w B bt s body N tv nv root er){x:RN}(d:N[k]?=some x):∃g cap,nv=sL g N.length cap/\w.cell? (aD g (k*9))=some (vU x.sort)/\w.cell? (aD g (k*9+1))=some (vI x.a)/\w.cell? (aD g (k*9+2))=some (vI x.b)/\w.cell? (aD g (k*9+3))=some (vI x.c)/\w.cell? (aD g (k*9+4))=some (vI x.first)/\w.cell? (aD g (k*9+5))=some (vI x.last)/\w.cell? (aD g (k*9+6))=some (vI x.name)/\w.cell? (aD g (k*9+7))=some (vI x.binder)/\w.cell? (aD g (k*9+8))=some (.bool false)/\w.frozen? (aD g (k*9+7))=false:=by
 have q:=(zlE.1 d).1;have j:=zem d;have f:=h.nodes;rcases h.nodes.2 with⟨_,p⟩|⟨g,cap,n,e,_,i,_⟩
 ·omega
 ·rw[e]at f;have c:∀m,m<9->w.cell? ⟨g,k*9+m,none⟩=(Ll x)[m]? :=λm l=>(f.cellAt _ oM).trans (j m l);exact⟨g,cap,e,c 0 oM,c 1 oM,c 2 oM,c 3 oM,c 4 oM,c 5 oM,c 6 oM,c 7 oM,c 8 oM,eB _ _ _ _ _ i⟩
def LAt(W:World)(v:Value)(l:List Nat):Prop:=W.ownsRow 0 3 1 v l.length (l.map λf:Nat=>Value.int .i64 f)
theorem LAt.kept(h:LAt w v L)(f:RT w B bt s body N tv nv root er)(g:w.grownBy w' nv.ownBlock):LAt w' v L:=
 Ag h λ_ _ d=>(g.block _ (zgE.1 d).1 (f.ntok dZ d)).trans d
theorem LAt.grown(g:LAt w v L)(f:w.grownBy w' none):LAt w' v L:=
 Ag g λ_ _ d=>zbG f d
theorem Jf{B:Nat}(h:w.ownsRow B e size v k xs):w.ownsRow 0 e size v k xs:=by
 refine⟨h.1,?_⟩;rcases h.2 with h|⟨i,d,f,g,_,r⟩
 ·exact .inl h
 ·exact .inr ⟨i,d,f,g,yD _,r⟩
theorem Av(h:a.grownBy b o)(k:b.grownBy c o):a.grownBy c o:=
 ⟨k.os.trans h.os,k.tape.trans h.tape,k.output.trans h.output,kB h.size k.size,λi d f=>(k.block i (aB d h.size) f).trans (h.block i d f)⟩
theorem Fh(h:a.grownBy b none):a.grownBy b o:=⟨h.os,h.tape,h.output,h.size,λi d _=>h.block i d sM⟩
theorem zen(h:a.grownBy b none)(g:b.ownsRow a.heap.size e size v k xs)(d:b.grownBy c v.ownBlock):a.grownBy c none:=
 ⟨d.os.trans h.os,d.tape.trans h.tape,d.output.trans h.output,kB h.size d.size,λi f _=>(d.block i (aB f h.size) (λe=>by have:=(g.lt i e.symm).1;omega)).trans (h.block i f sM)⟩
theorem H9(w:World)(a:Value)(t:TypeId):∀j u,[a][j]?=some u->(w.alloc (.cells #[a] t)).cell? (((aD w.heap.size 0):Addr).add j)=some u:=by
 intro j u h;cases j with
 |zero=>
  cases h;exact(Ge (Ac w _)).1
 |succ j=>simp at h
theorem zb9{P:Program}{D:Array Oper}{rest:List Oper}{o:Oper}{a:Act}{Q:Exit->Act->World->Prop}(q:o.guard=none)(s x:Operand)(t:TypeId)
  (r:o.op=.call {callee:=.builtin .append,args:=#[s,x],argTypes:=#[t,t]})
  (base:Nat) (e:TypeId) (i:TypeInfo) (z:Value) (j:Nat) (A:P.underlying t=some (.slice e)) (hi:P.info? e=some i) (S:i.zero=some z)
  (R:i.size=1) (M:i.bytes=j) (T:z.cells.size=1)
  (v:Value) (n:Nat) (xs:List Value) (y:a.eval s=v) (p:w.ownsRow base e 1 v n xs)
  (lv:Value) (m:Nat) (d:List Value) (C:a.eval x=lv) (f:w.ownsRow 0 e 1 lv m d) (H:∀u∈d,u.oneCell'=true)
  (I:n+m<=maxLen) (O:(n+m)*j<=140737488355328) (J:base<=w.heap.size)
  (h:∀g w',w'.ownsRow base e 1 g (n+m) (xs++d)->w.grownBy w' v.ownBlock->wpList P D Q rest (a.put o.dst g) w'):wpList P D Q (o::rest) a w:=by
 rcases f.2 with⟨l,rfl⟩|⟨G,E,U,l,_⟩
 ·have F:d=[]:=List.eq_nil_of_length_eq_zero (by simpa using f.1);subst F;refine wpList_append_own_none q s x t r base e i 1 A hi v n xs y p (C.trans l) (h v w (by simpa using p) ⟨rfl,rfl,rfl,znL _,λ_ _ _=>rfl⟩)
 ·subst l;exact wpList_append_own w q s x t r base e i z 1 j A hi S R M T dZ v n xs y p (aD G 0) m E d C f.1 (f.cells rfl) H I O J (λg w' a b _=>h g w' a b)
def BC(B bt:Nat)(s:ByteArray)(body:List Tw.Tok)(tv nv:Value)(root er:Int)(k:Int)(L:List Nat)(N N':List RN):Prop:=
 ∀ {w:World} {d:Value},RT w B bt s body N tv nv root er->LAt w d L->Calls prog 122 #[.pointer (some ⟨bt,0,none⟩),.int .i64 k,d] w λe w'=>e=.returned (.tuple #[])/\w.grownBy w' nv.ownBlock/\RT w' B bt s body N' tv nv root er
theorem Tn(L:List Nat):BC B bt s body tv nv root er (-1) L N N:=by
 intro w f h d;have H:=bV h
 go_in;go_wp2_with fail
 (try simp only[Exit.inBlock,Exit.then]);refine bodyPost_ret (results_none rfl _ _ _) rfl ?_;exact⟨rfl,⟨rfl,rfl,rfl,znL _,λ_ _ _=>rfl⟩,uh H⟩
theorem Nj {k:Nat} {x:RN} {L:List Nat} {N':List RN} (hk:N[k]? = some x) (hL:L.length<=5000) (hsx:x.sort≠120)
    (hways:(x.sort=108/\∃N1,BC B bt s body tv nv root er x.a L N N1/\BC B bt s body tv nv root er x.b (L++[k]) N1 N')\/(x.sort=114/\∃N1,BC B bt s body tv nv root er x.a (L++[k]) N N1/\BC B bt s body tv nv root er x.b (L++[k]) N1 N')\/(x.sort=70/\BC B bt s body tv nv root er x.a (L++[k]) N N')\/((x.sort≠108/\x.sort≠114/\x.sort≠70)/\∃N1 N2,BC B bt s body tv nv root er x.a L N N1/\BC B bt s body tv nv root er x.b L N1 N2/\BC B bt s body tv nv root er x.c L N2 N')):BC B bt s body tv nv root er k L N N':=by
  intro w lv h hl
  have hklt:=(zlE.1 hk).1
  have hfew:=h.few
  obtain⟨_,_,a2,_,_⟩:=h.cells
  obtain⟨g,cap,rfl,d0,d1,d2,d3,d4,d5,d6,d7,d8,_⟩:=h.node hk
  have hglt:g<w.heap.size:=(h.nodes.lt g rfl).2
  have H:=bV h
  have HL:=bV hl
  have s1:¬(x.sort:Int)=120:=oM
  have hkl:(k:Int)<(N.length:Int):=oM
  have hk0:¬(k:Int)<0:=oM
  have cT:prog.cellsOf 276=9:=kR
  have hii:(prog.info? 3).map (λi=>(i.zero,i.size,i.bytes))=some (some (vI 0),1,8):=kR
  obtain⟨i0,hi,hz0,hz1,hz2⟩:=info_parts hii
  have HW:=bV hways
  have g1:=zwA w (.cells #[vU x.sort,vI x.a,vI x.b,vI x.c,vI x.first,vI x.last,vI x.name,vI x.binder,.bool false] 276) none
  have n1:=Ac w (.cells #[vU x.sort,vI x.a,vI x.b,vI x.c,vI x.first,vI x.last,vI x.name,vI x.binder,.bool false] 276)
  have l1:=hl.grown g1
  have hnb:w.heap.size<(w.alloc (.cells #[vU x.sort,vI x.a,vI x.b,vI x.c,vI x.first,vI x.last,vI x.name,vI x.binder,.bool false] 276)).heap.size:=sM
  obtain⟨w1,hw1⟩:∃w1,w.alloc (.cells #[vU x.sort,vI x.a,vI x.b,vI x.c,vI x.first,vI x.last,vI x.name,vI x.binder,.bool false] 276)=w1:=⟨_,rfl⟩
  rw[hw1]at g1 n1 l1 hnb
  have HW1:=bV hw1
  have G1:=bV g1
  have N1:=bV n1
  have HL1:=bV l1
  have hLm:L.length+1<=maxLen:=by unfold maxLen;omega
  clear h hl hways hw1 g1 n1 l1
  rcases HW.o with⟨e1,Na,hA,hB⟩|⟨e1,Na,hA,hB⟩|⟨e1,hA⟩|⟨⟨e1,e2,e3⟩,Na,Nb,hA,hB,hC⟩
  case' inl=>
    have S2:=bV (show(x.sort:Int)=108 by omega)
    have HA:Hid (BC _ _ _ _ _ _ _ _ _ _ _ _):=@hA
    have HB:Hid (BC _ _ _ _ _ _ _ _ _ _ _ _):=@hB
    clear hA hB e1
  case' inr.inl=>
    have S2:=bV (show(x.sort:Int)=114 by omega)
    have HA:Hid (BC _ _ _ _ _ _ _ _ _ _ _ _):=@hA
    have HB:Hid (BC _ _ _ _ _ _ _ _ _ _ _ _):=@hB
    clear hA hB e1
  case' inr.inr.inl=>
    have S2:=bV (show(x.sort:Int)=70 by omega)
    have HA:Hid (BC _ _ _ _ _ _ _ _ _ _ _ _):=@hA
    clear hA e1
  case' inr.inr.inr=>
    have s2:¬(x.sort:Int)=108:=oM
    have s3:¬(x.sort:Int)=114:=oM
    have s4:¬(x.sort:Int)=70:=oM
    have HA:Hid (BC _ _ _ _ _ _ _ _ _ _ _ _):=@hA
    have HB:Hid (BC _ _ _ _ _ _ _ _ _ _ _ _):=@hB
    have HC:Hid (BC _ _ _ _ _ _ _ _ _ _ _ _):=@hC
    clear hA hB hC e1 e2 e3
  all_goals
    go_in
    go_wp2_with (first
      | (at_builtin
         rw [uh HW1]
         refine zb9 rfl _ _ 33 rfl w1.heap.size 3 i0 (vI 0) 8 underlying33 hi hz0 hz1 hz2 rfl zN 0 [] rfl (mD _ _ _ _) lv L.length (L.map fun f:Nat=>vI f) rfl (uh HL1) (by intro u hu; simp at hu; obtain ⟨f,_,rfl⟩:=hu; rfl) oM oM (znL _) ?_
         intro v2 w2 hown2 hgrow2
         rw [Nat.zero_add,rD] at hown2
         have hz2':=hgrow2.size
         obtain ⟨p2,c2,rfl⟩:∃p c,v2 = .slice p L.length c:=by
           rcases hown2.2 with ⟨e1,e2⟩ | ⟨g2,cap2,_,e1,_⟩
           · exact ⟨_,_,by rw [e1,e2]⟩
           · exact ⟨_,_,e1⟩
         clear HW1)
      | (at_builtin
         refine wpList_append_own _ rfl _ _ 33 rfl w1.heap.size 3 i0 (vI 0) 1 8 underlying33 hi hz0 hz1 hz2 rfl dZ (.slice p2 L.length c2) L.length (L.map fun f:Nat=>vI f) rfl (hown2.alloc _) (aD w2.heap.size 0) 1 1 [vI k] rfl rfl (H9 _ _ _) (by intro u hu; simp at hu; subst hu; rfl) hLm oM (by simp; omega) ?_
         intro v3 w3 hown3 hgrow3 _
         have G3:=bV (zen (Ab hgrow2 (zwA w2 _ none)) (hown2.alloc _) hgrow3)
         have L3:=bV (show LAt w3 v3 (L ++ [k]) by have:=Jf hown3; simpa [LAt] using this)
         have GA:=bV (Ab G1.o G3.o)
         have TA:=bV (H.o.grown GA.o)
         have LA:=bV (HL.o.grown GA.o)
         have N3:=(G3.o.block _ hnb sM).trans N1.o
         have m0:w3.cell? (aD w.heap.size 0)=some (vU x.sort):=zcR N3
         have m1:w3.cell? (aD w.heap.size 1)=some (vI x.a):=zcR N3
         have N3:=bV N3
         try have s2:=S2.o
         clear hown3 hgrow3 hown2 hgrow2))
  · refine (uh HA TA.o LA.o).mono ?_
    rintro e1 w4 ⟨rfl,hg4,hT4⟩
    have N4:=(hg4.block _ (zgE.1 N3.o).1 (by simp[Value.ownBlock];omega)).trans N3.o
    have m2:w4.cell? (aD w.heap.size 2)=some (vI x.b):=zcR N4
    have T4:=bV hT4
    have L4:=bV (LA.o.kept TA.o hg4)
    have G4:=bV hg4
    have N4:=bV N4
    clear hT4 hg4
    go_wp2_with fail
    refine(uh HB T4.o L4.o).mono ?_
    rintro e1 w5 ⟨rfl,hg5,hT5⟩
    have N5:=(hg5.block _ (zgE.1 N4.o).1 (by simp[Value.ownBlock];omega)).trans N4.o
    have m3:w5.cell? (aD w.heap.size 3)=some (vI x.c):=zcR N5
    have T5:=bV hT5
    have L5:=bV (L4.o.kept T4.o hg5)
    have G5:=bV hg5
    clear hT5 hg5 N5
    go_wp2_with fail
    refine(uh HC T5.o L5.o).mono ?_
    rintro e1 w6 ⟨rfl,hg6,hT6⟩
    have T6:=bV hT6
    have G6:=bV hg6
    clear hT6 hg6
    go_wp2_with fail
    go_end0
    exact⟨rfl,Av (Fh GA.o) (Av G4.o (Av G5.o G6.o)),T6.o⟩
  · refine (uh HA TA.o L3.o).mono ?_
    rintro e1 w4 ⟨rfl,hg4,hT4⟩
    have T4:=bV hT4
    have G4:=bV hg4
    clear hT4 hg4
    go_wp2_with fail
    go_end0
    exact⟨rfl,Av (Fh GA.o) G4.o,T4.o⟩
  · refine (uh HA TA.o L3.o).mono ?_
    rintro e1 w4 ⟨rfl,hg4,hT4⟩
    have N4:=(hg4.block _ (zgE.1 N3.o).1 (by simp[Value.ownBlock];omega)).trans N3.o
    have m2:w4.cell? (aD w.heap.size 2)=some (vI x.b):=zcR N4
    have T4:=bV hT4
    have L4:=bV (L3.o.kept TA.o hg4)
    have G4:=bV hg4
    clear hT4 hg4 N4
    go_wp2_with fail
    refine(uh HB T4.o L4.o).mono ?_
    rintro e1 w5 ⟨rfl,hg5,hT5⟩
    have T5:=bV hT5
    have G5:=bV hg5
    clear hT5 hg5
    go_wp2_with fail
    go_end0
    exact⟨rfl,Av (Fh GA.o) (Av G4.o G5.o),T5.o⟩
  · refine (uh HA TA.o LA.o).mono ?_
    rintro e1 w4 ⟨rfl,hg4,hT4⟩
    have N4:=(hg4.block _ (zgE.1 N3.o).1 (by simp[Value.ownBlock];omega)).trans N3.o
    have m2:w4.cell? (aD w.heap.size 2)=some (vI x.b):=zcR N4
    have T4:=bV hT4
    have L4:=bV (L3.o.kept TA.o hg4)
    have G4:=bV hg4
    clear hT4 hg4 N4
    go_wp2_with fail
    refine(uh HB T4.o L4.o).mono ?_
    rintro e1 w5 ⟨rfl,hg5,hT5⟩
    have T5:=bV hT5
    have G5:=bV hg5
    clear hT5 hg5
    go_wp2_with fail
    go_end0
    exact⟨rfl,Av (Fh GA.o) (Av G4.o G5.o),T5.o⟩
end
end
section
abbrev aE:=@List.set_append_right
end
section
open Tw Tw.Rf Go.Proofs.Tryz
open Go.RowKit
theorem Wo:∀ {N:List RN} {k:Nat} {x:RN},N[k]?=some x->∀b:Int,(Eg N).set (k*9+7) (vI b)=Eg (N.set k {x with binder:=b})
 |[],k,x,h,b=>by simp at h
 |y::N,0,x,h,b=>by
  cases h;simp[Eg,Ll]
 |y::N,k+1,x,h,b=>by
  have a:=Wo (N:=N) (k:=k) (x:=x) (by simpa using h) b;simp only[zsS,Eg];rw[aE _ _ (by simp[Ll];omega),show(k+1)*9+7-(Ll y).length=k*9+7 by simp[Ll];omega,a]
section
variable {w:World}{B bt:Nat}{s:ByteArray}{body:List Tw.Tok}{N:List Tw.Rf.RN}{tv nv:Value}{root er:Int}
theorem RT.setB(h:RT w B bt s body N tv nv root er){k:Nat}{x:RN}(d:N[k]?=some x){g cap:Nat}(f:nv=sL g N.length cap)(b:Int):RT (w.setCell (aD g (k*9+7)) (vI b)) B bt s body (N.set k {x with binder:=b}) tv nv root er:=by
 have keep:∀ {j:Nat} {o:Obj},some j≠nv.ownBlock->w.heap[j]?=some o->(w.setCell (aD g (k*9+7)) (vI b)).heap[j]?=some o:=λr v=>(aA w (aD g (k*9+7)) _ _ (by rintro rfl;exact r (by rw[f];rfl))).trans v;have C:=(zlE.1 d).1;refine⟨keep h.ntree h.tree,Ag h.toks λj c a=>keep (h.ntok dZ a) a,?_,h.many,by rw[jB];exact h.few⟩;have t:=h.nodes;subst f;rcases t.2 with⟨e,_⟩|⟨A,y,z,e,i,l,m,n,p,q⟩
 ·cases e
 ·cases e;rw[jB];refine⟨by rw[X0,jB],.inr ⟨g,cap,_,rfl,i,Bo l _,m,n,by simpa using p,?_⟩⟩;rw[bE,List.take_set,q];exact Wo d b
def Tw.Rf.lastOf(nm:Nat->List UInt8)(x:List UInt8):List Nat->Int->Int
 |[],b=>b
 |j::L,b=>lastOf nm x L (if nm j=x then(j:Int)else b)
theorem Tw.Rf.Lf(nm:Nat->List UInt8)(x:List UInt8):∀(L:List Nat) (j:Nat) (b:Int),lastOf nm x (L++[j]) b=if nm j=x then(j:Int)else lastOf nm x L b
 |[],_,_=>rfl
 |_::L,j,_=>Lf nm x L j _
theorem zlo{k:Nat}{x:RN}{L:List Nat}(nm:Nat->List UInt8)(hk:N[k]?=some x)(hL:L.length<=5000)(hsx:x.sort=120)(hf:x.first<body.length)
  (hnm:∀j∈L,j≠k/\∃y,N[j]?=some y/\y.name<body.length/\atT s.data.toList body y.name=nm j) :
  BC B bt s body tv nv root er k L N (N.set k {x with binder:=lastOf nm (atT s.data.toList body x.first) L x.binder}):=by
 intro w lv h hl;have hklt:=(zlE.1 hk).1;have hfew:=h.few;have hmany:=h.many;obtain⟨_,_,a2,_,_⟩:=h.cells;obtain⟨g,cap,rfl,d0,d1,d2,d3,d4,d5,d6,d7,d8,_⟩:=h.node hk;obtain⟨t0,ht0⟩:∃t0,body[x.first]?=some t0:=⟨_,fA hf⟩;have hglt:g<w.heap.size:=(h.nodes.lt g rfl).2;obtain⟨pl,cl,rfl⟩:∃p c,lv=.slice p L.length c:=by
  rcases hl.2 with⟨e1,e2⟩|⟨g2,cap2,_,e1,_⟩
  ·exact⟨_,_,by rw[e1,e2]⟩
  ·exact⟨_,_,e1⟩
 have H:=bV h;have HL:=bV hl;have HNM:=bV hnm;have s1:(x.sort:Int)=120:=oM;have S1:=bV s1;have hkl:(k:Int)<(N.length:Int):=oM;have hk0:¬(k:Int)<0:=oM;have cT:prog.cellsOf 276=9:=kR;have cK:prog.cellsOf 273=3:=kR;have HK:=bV hk;have HT0:=bV ht0;obtain⟨X,hX⟩:∃X,atT s.data.toList body x.first=X:=⟨_,rfl⟩;rw[hX];have HX:=bV hX
 go_in;go_wp2_with fail;have g1:=zwA w (.cells #[vU x.sort,vI x.a,vI x.b,vI x.c,vI x.first,vI x.last,vI x.name,vI x.binder,.bool false] 276) none;have n1:=Ac w (.cells #[vU x.sort,vI x.a,vI x.b,vI x.c,vI x.first,vI x.last,vI x.name,vI x.binder,.bool false] 276);rw[uh S1]at g1 n1;obtain⟨w1,hw1⟩:∃w1,w.alloc (.cells #[vU 120,vI x.a,vI x.b,vI x.c,vI x.first,vI x.last,vI x.name,vI x.binder,.bool false] 276)=w1:=⟨_,rfl⟩;obtain⟨nb,hnb⟩:∃nb,w.heap.size=nb:=⟨_,rfl⟩;rw[hw1]at g1;rw[hw1,hnb]at n1;rw[hw1,hnb];have G1:=bV g1;have T1:=bV (H.o.grown g1);have L1:=bV (HL.o.grown g1);have N1:=bV n1;have hne:nb≠g:=oM;obtain⟨M,hM⟩:∃M:Nat->List RN,∀i,M i=N.set k {x with binder:=lastOf nm X (L.take i) x.binder}:=⟨_,λ_=>rfl⟩;have hx0:x={x with binder:=x.binder}:=rfl;have M0:M 0=N:=by
  rw[hM];simp only[List.take_zero,lastOf]
  have:=HK.o;obtain⟨h1,h2⟩:=zlE.1 this;rw[<-h2];exact List.set_getElem_self h1
 have HM:=bV hM;go_loopg[7] L.length (λj iv wr=>∃i:Nat,j+i=L.length/\iv=vI i/\Hid (w1.grownBy wr (some g))/\Hid (RT wr B bt s body (M i) tv (sL g N.length cap) root er)/\Hid (LAt wr (.slice pl L.length cl) L))
 case atStart=>exact⟨0,oM,rfl,bV ⟨rfl,rfl,rfl,znL _,λ_ _ _=>rfl⟩,bV (by rw[M0];exact T1.o),L1⟩
 case round=>
  obtain⟨i,hj,rfl,GR,TR,LR⟩:=hrel;have hnL:(M i).length=N.length:=by rw[HM.o,jB]
  by_cases hlt:i<L.length
  ·have hli:(i:Int)<(L.length:Int):=oM;obtain⟨gl,capl,e0⟩:∃gl capl,Value.slice pl L.length cl=sL gl L.length capl:=by
    rcases LR.o.2 with⟨_,e2⟩|⟨g2,cap2,_,e1,_⟩
    ·omega
    ·exact⟨_,_,e1⟩
   cases e0;obtain⟨j,hjL⟩:∃j,L[i]?=some j:=⟨_,fA hlt⟩;have lc:wr.cell? (aD gl i)=some (vI j):=(LR.o.cellAt _ oM).trans (by rw[sD,hjL];rfl);obtain⟨hjk,y,hy,hyn,hyt⟩:=HNM.o j (dD hjL);have hjlt:=(zlE.1 hy).1;have hMj:(M i)[j]?=some y:=(by rw[HM.o,qD (λe=>hjk e.symm)];exact hy);have hMk:(M i)[k]?=some {x with binder:=lastOf nm X (L.take i) x.binder}:=(by rw[HM.o,List.getElem?_set_self hklt]);obtain⟨_,a1,a2,_,_⟩:=TR.o.cells;obtain⟨g',cap',e,_,_,_,_,_,_,y6,_,_,_⟩:=TR.o.node hMj;rw[hnL]at e;cases e;obtain⟨g',cap',e,_,_,_,_,_,_,_,k7,_,kf⟩:=TR.o.node hMk;rw[hnL]at e;cases e;obtain⟨t1,ht1⟩:∃t1,body[y.name]?=some t1:=⟨_,fA hyn⟩;obtain⟨_,hcell⟩:=Gm TR.o.toks;obtain⟨gt,capt,e,q0,_,_⟩:=hcell _ _ ht1;obtain⟨gt',capt',e',r0,_,_⟩:=hcell _ _ HT0.o;have e2:=e.symm.trans e';cases e2;rw[e]at a1;have hNm:Bf s.data.toList t1.fr t1.to=nm j:=(by rw[<-hyt];unfold atT;rw[ht1]);have hX0:Bf s.data.toList t0.fr t0.to=X:=(by rw[<-HX.o];unfold atT;rw[HT0.o]);rw[hNm]at q0;rw[hX0]at r0;have Nr:=(GR.o.block nb (zgE.1 N1.o).1 (by simpa using hne)).trans N1.o;have m4:wr.cell? (aD nb 4)=some (vI x.first):=zcR Nr;have hjl:(j:Int)<(N.length:Int):=oM;have hyl:(y.name:Int)<(body.length:Int):=oM;have hxl:(x.first:Int)<(body.length:Int):=oM;have hTk:L.take (i+1)=L.take i++[j]:=(by rw[List.take_add_one,hjL];rfl);have HTK:=bV hTk;by_cases heq:nm j=X
   ·rw[heq]at q0;have HEQ:=bV heq;go_wp2_with fail;go_quiet (fail);obtain⟨W2,hW2⟩:∃W2,wr.drewN nq=W2:=⟨_,rfl⟩;have g2:wr.grownBy W2 none:=(by rw[<-hW2];exact Cm _ _);rw[hW2];have T2:=bV (TR.o.grown g2);have L2:=bV (LR.o.grown g2);have G2:=bV (Av GR.o (Fh g2));have lc':=cell_kept lc g2 sM;obtain⟨_,_,a2',_,_⟩:=T2.o.cells;obtain⟨g',cap',e,_,_,_,_,_,_,_,k7',_,kf'⟩:=T2.o.node hMk;rw[hnL]at e;cases e;have HMK:=bV hMk;have hkk:(k:Int)<(N.length:Int):=hkl;have TD:=bV ((T2.o.setB HMK.o (by rw[hnL]) (j:Int)).grown (Ad (Aa _)));have GD:Hid (W2.grownBy (W2.setCell (aD g (k*9+7)) (vI j)).drew (some g)):=bV ⟨rfl,rfl,rfl,sM,λq _ hq=>aA W2 (aD g (k*9+7)) q _ (by rintro rfl;exact hq rfl)⟩;have LD:=bV (L2.o.kept T2.o GD.o);go_wp2_with fail;go_region;go_wp2_with fail;go_roundg (gk-1)
    case measure=>omega
    case rel=>
     refine⟨i+1,oM,sM,bV (Av G2.o GD.o),bV ?_,LD⟩
     have:=TD.o;rw[HM.o,List.set_set]at this;rw[HM.o,HTK.o,Lf,mA HEQ.o];exact this
   ·have hbq:(nm j==X)=false:=(by simpa using heq);have HEQ:=bV heq;go_wp2_with fail;go_quiet (fail);obtain⟨W2,hW2⟩:∃W2,wr.drewN nq=W2:=⟨_,rfl⟩;have g2:wr.grownBy W2 none:=(by rw[<-hW2];exact Cm _ _);rw[hW2];have T2:=bV (TR.o.grown g2);have L2:=bV (LR.o.grown g2);have G2:=bV (Av GR.o (Fh g2));go_wp2_with fail;go_roundg (gk-1)
    case measure=>omega
    case rel=>
     refine⟨i+1,oM,sM,G2,bV ?_,L2⟩
     have:=T2.o;rw[HM.o]at this;rw[HM.o,HTK.o,Lf,jA HEQ.o];exact this
  ·have hli:¬(i:Int)<(L.length:Int):=oM;go_wp2_with fail
   (try simp only[Exit.inBlock,Exit.then]);refine bodyPost_ret (results_none rfl _ _ _) rfl ?_;have hiL:i=L.length:=oM;subst hiL;refine⟨rfl,Av (Fh G1.o) GR.o,?_⟩
   have:=TR.o;rw[HM.o,List.take_length,hsx]at this;exact this
end
end
section
open Tw Tw.Rf
open Go.RowKit
def ScOk(l:List UInt8)(body:List Tw.Tok)(n:Nat)(Q:List RN)(e:Sc):Prop:=
 ∀p∈e,∃q y,p.2=n+q/\Q[q]?=some y/\y.name<body.length/\atT l body y.name=p.1
theorem ScOk.pre{l:List UInt8}{body:List Tw.Tok}{n n':Nat}{R Q:List RN}{e:Sc}(h:ScOk l body n Q e)(g:n=n'+R.length):ScOk l body n' (R++Q) e:=λp d=>by
 obtain⟨q,y,f,a,c⟩:=h p d;exact⟨R.length+q,y,oM,by rw[fB oM,show R.length+q-R.length=q by omega];exact a,c⟩
theorem ScOk.cons{l:List UInt8}{body:List Tw.Tok}{n':Nat}{R Q:List RN}{e:Sc}{y:RN}{bn:List UInt8}(h:ScOk l body (n'+R.length+1) Q e)(c:y.name<body.length)(d:atT l body y.name=bn):ScOk l body n' (R++(y::Q)) ((bn,n'+R.length)::e):=λp a=>by
 rcases zmC.1 a with rfl|a
 ·exact⟨R.length,y,rfl,sM,c,d⟩
 ·have:=h.pre (n':=n') (R:=R++[y]) (by simp;omega) p a;simpa using this
theorem Uu{nm:Nat->List UInt8}(x:List UInt8):∀ {e:Sc},(∀p∈e,nm p.2=p.1)->lastOf nm x (e.reverse.map (·.2)) (-1)=Dl e x
 |[],_=>rfl
 |(y,j)::e,h=>by
  have a:=h (y,j) sM;rw[List.reverse_cons,vB,List.map_cons,List.map_nil,Lf,Dl,Uu x (λp c=>h p (by simp[c]))];simp only at a;simp[a]
theorem Tp{a :Type}(P A Q:List a)(x :a):(P++(A++[x])++Q)[P.length+A.length]?=some x:=by
 rw[wA,fB oM,show P.length+A.length-P.length=A.length by omega];simp
section
variable {B bt:Nat}{s:ByteArray}{body:List Tw.Tok}{tv nv:Value}{root er:Int}
variable{t l r b:Tw.T}{x:Nat->Tw.Rf.RN}{fr bat:Nat}{bn:List UInt8}
def SpT(l:List UInt8)(body:List Tw.Tok)(t:Tw.T):Prop:=∀sp∈t.spans,ixF body sp.1<body.length/\atT l body (ixF body sp.1)=sp.2.2
def BAll(B bt:Nat)(s:ByteArray)(body:List Tw.Tok)(tv nv:Value)(root er:Int)(t:Tw.T):Prop:=
 ∀(P Q:List RN) (e:Sc) (n:Nat),n=P.length->SpT s.data.toList body t->ScOk s.data.toList body (n+Rf.T.sz t) Q e->e.length+Rf.T.sz t<=5000 ->
  BC B bt s body tv nv root er ((n+Rf.T.sz t-1:Nat):Int) (e.reverse.map (·.2)) (P++flat (ixF body) (ixT body) t n++Q) (P++fill (ixF body) (ixT body) t n e++Q)
theorem BC.to{k k':Int}{L:List Nat}{N N' M a:List RN}(h:BC B bt s body tv nv root er k L N N')(e:k'=k)(c:M=N)(d:a=N'):BC B bt s body tv nv root er k' L M a:=by
 subst e c d;exact@h
theorem Tq{x:RN}(g:∀n,flat (ixF body) (ixT body) t n=[x])(h:∀n e,fill (ixF body) (ixT body) t n e=[x])(j:Rf.T.sz t=1)(c:x.a = -1)(d:x.b = -1)(f:x.c = -1)(a:x.sort≠120/\x.sort≠108/\x.sort≠114/\x.sort≠70):BAll B bt s body tv nv root er t:=by
 intro P Q e n i _ _ k;subst i;rw[g,h,j];refine@Nj _ _ _ _ _ _ _ _ _ _ x _ _ sM (by simp;omega) a.1 (.inr (.inr (.inr ⟨a.2,P++[x]++Q,P++[x]++Q,?_,?_,?_⟩)))
 ·rw[c];exact Tn _
 ·rw[d];exact Tn _
 ·rw[f];exact Tn _
theorem Wp(z:∀n,flat (ixF body) (ixT body) t n=flat (ixF body) (ixT body) l n++flat (ixF body) (ixT body) r (n+Rf.T.sz l)++[x n])(A:∀n e,fill (ixF body) (ixT body) t n e=fill (ixF body) (ixT body) l n e++fill (ixF body) (ixT body) r (n+Rf.T.sz l) e++[x n])(F:Rf.T.sz t=Rf.T.sz l+Rf.T.sz r+1)(j:t.spans=l.spans++r.spans)(v:∀n,(x n).a=(n+Rf.T.sz l-1:Nat))(w:∀n,(x n).b=(n+Rf.T.sz l+Rf.T.sz r-1:Nat))(y:∀n,(x n).c = -1)(i:∀n,(x n).sort≠120/\(x n).sort≠108/\(x n).sort≠114/\(x n).sort≠70)
  (C:BAll B bt s body tv nv root er l) (E:BAll B bt s body tv nv root er r):BAll B bt s body tv nv root er t:=by
 intro P Q e n D g q G;subst D;have o:=Ak (ixF body) (ixT body) l P.length;have f:=Ak (ixF body) (ixT body) r (P.length+Rf.T.sz l);have p:=Af (ixF body) (ixT body) l P.length e;have h:ScOk s.data.toList body (P.length+Rf.T.sz l+Rf.T.sz r) (x P.length::Q) e:=q.pre (R:=[x P.length]) (by simp;omega);have k:=@C P (flat (ixF body) (ixT body) r (P.length+Rf.T.sz l)++(x P.length::Q)) e P.length rfl (λsp d=>g sp (by rw[j];simp[d])) (h.pre (by rw[f])) oM;have m:=@E (P++fill (ixF body) (ixT body) l P.length e) (x P.length::Q) e (P.length+Rf.T.sz l) (by rw[eA,p]) (λsp d=>g sp (by rw[j];simp[d])) h oM;rw[z,A,F];refine@Nj _ _ _ _ _ _ _ _ _ _ (x P.length) _ _ ?_ (by simp;omega) (i _).1 (.inr (.inr (.inr ⟨(i _).2,P++fill (ixF body) (ixT body) l P.length e++(flat (ixF body) (ixT body) r (P.length+Rf.T.sz l)++(x P.length::Q)),P++fill (ixF body) (ixT body) l P.length e++fill (ixF body) (ixT body) r (P.length+Rf.T.sz l) e++(x P.length::Q),BC.to @k (v _) sM rfl,BC.to @m (w _) sM rfl,?_⟩)))
 ·have:=Tp P (flat (ixF body) (ixT body) l P.length++flat (ixF body) (ixT body) r (P.length+Rf.T.sz l)) Q (x P.length);rw[eA,o,f]at this;rw[show P.length+(Rf.T.sz l+Rf.T.sz r+1)-1=P.length+(Rf.T.sz l+Rf.T.sz r) by omega];exact this
 ·rw[y];exact@BC.to _ _ _ _ _ _ _ _ _ _ _ _ _ _ _ (Tn _) rfl rfl sM
theorem zjz{i:Tw.T}(p:∀n,flat (ixF body) (ixT body) t n=flat (ixF body) (ixT body) i n++[x n])(q:∀n e,fill (ixF body) (ixT body) t n e=fill (ixF body) (ixT body) i n e++[x n])(z:Rf.T.sz t=Rf.T.sz i+1)(y:t.spans=i.spans)(k:∀n,(x n).a=(n+Rf.T.sz i-1:Nat))(m:∀n,(x n).b = -1)(o:∀n,(x n).c = -1)(d:∀n,(x n).sort≠120/\(x n).sort≠108/\(x n).sort≠114/\(x n).sort≠70)
  (hi:BAll B bt s body tv nv root er i):BAll B bt s body tv nv root er t:=by
 intro P Q e n w h j A;subst w;have g:=Ak (ixF body) (ixT body) i P.length;have f:=@hi P (x P.length::Q) e P.length rfl (λsp v=>h sp (by rw[y];exact v)) (j.pre (R:=[x P.length]) (by simp;omega)) oM;rw[p,q,z];refine@Nj _ _ _ _ _ _ _ _ _ _ (x P.length) _ _ ?_ (by simp;omega) (d _).1 (.inr (.inr (.inr ⟨(d _).2,P++fill (ixF body) (ixT body) i P.length e++(x P.length::Q),P++fill (ixF body) (ixT body) i P.length e++(x P.length::Q),BC.to @f (k _) sM rfl,?_,?_⟩)))
 ·have:=Tp P (flat (ixF body) (ixT body) i P.length) Q (x P.length);rw[g]at this;exact this
 ·rw[m];exact Tn _
 ·rw[o];exact@BC.to _ _ _ _ _ _ _ _ _ _ _ _ _ _ _ (Tn _) rfl rfl sM
theorem zhs{to:Nat}{c:Tw.T}(z:BAll B bt s body tv nv root er c)(A:BAll B bt s body tv nv root er l)(D:BAll B bt s body tv nv root er r):BAll B bt s body tv nv root er (.cond fr to c l r):=by
 intro P Q e E C f j y;subst C;simp only[Rf.T.sz]at j y;have q:=Ak (ixF body) (ixT body) c P.length;have g:=Ak (ixF body) (ixT body) l (P.length+Rf.T.sz c);have h:=Ak (ixF body) (ixT body) r (P.length+Rf.T.sz c+Rf.T.sz l);have i:=Af (ixF body) (ixT body) c P.length e;have v:=Af (ixF body) (ixT body) l (P.length+Rf.T.sz c) e;obtain⟨x,a⟩:∃x:RN,x=⟨73,(P.length+Rf.T.sz c-1:Nat),(P.length+Rf.T.sz c+Rf.T.sz l-1:Nat),(P.length+Rf.T.sz c+Rf.T.sz l+Rf.T.sz r-1:Nat),ixF body fr,ixT body to,0,-1⟩:=⟨_,rfl⟩;have m:ScOk s.data.toList body (P.length+Rf.T.sz c+Rf.T.sz l+Rf.T.sz r) (x::Q) e:=j.pre (R:=[x]) (by simp;omega);have k:=m.pre (n':=P.length+Rf.T.sz c+Rf.T.sz l) (R:=flat (ixF body) (ixT body) r (P.length+Rf.T.sz c+Rf.T.sz l)) (by rw[h]);have w:=k.pre (n':=P.length+Rf.T.sz c) (R:=flat (ixF body) (ixT body) l (P.length+Rf.T.sz c)) (by rw[g]);have n:=@z P _ e P.length rfl (λsp d=>f sp (by simp[Tw.T.spans,d])) w oM;have o:=@A (P++fill (ixF body) (ixT body) c P.length e) _ e (P.length+Rf.T.sz c) (by rw[eA,i]) (λsp d=>f sp (by simp[Tw.T.spans,d])) k oM;have p:=@D (P++fill (ixF body) (ixT body) c P.length e++fill (ixF body) (ixT body) l (P.length+Rf.T.sz c) e) _ e (P.length+Rf.T.sz c+Rf.T.sz l) (by rw[eA,eA,i,v]) (λsp d=>f sp (by simp[Tw.T.spans,d])) m oM;rw[flat,fill,<-a,Rf.T.sz];refine@Nj _ _ _ _ _ _ _ _ _ _ x _ _ ?_ (by simp;omega) (by rw[a];simp) (.inr (.inr (.inr ⟨by rw[a];simp,_,_,BC.to @n (by rw[a]) sM rfl,BC.to @o (by rw[a]) sM rfl,BC.to @p (by rw[a]) sM sM⟩)))
 have:=Tp P (flat (ixF body) (ixT body) c P.length++flat (ixF body) (ixT body) l (P.length+Rf.T.sz c)++flat (ixF body) (ixT body) r (P.length+Rf.T.sz c+Rf.T.sz l)) Q x;rw[eA,eA,q,g,h]at this;rw[show P.length+(Rf.T.sz c+Rf.T.sz l+Rf.T.sz r+1)-1=P.length+(Rf.T.sz c+Rf.T.sz l+Rf.T.sz r) by omega];exact this
theorem zlp{to:Nat}(k:BAll B bt s body tv nv root er b):BAll B bt s body tv nv root er (.fn fr to bn bat b):=by
 intro P Q e q n d f j;subst n;simp only[Rf.T.sz]at f j;have h:=Ak (ixF body) (ixT body) b P.length;obtain⟨x,a⟩:∃x:RN,x=⟨70,(P.length+Rf.T.sz b-1:Nat),-1,-1,ixF body fr,ixT body to,ixF body bat,-1⟩:=⟨_,rfl⟩;obtain⟨o,p⟩:=d (bat,bat+bn.length,bn) (by simp[Tw.T.spans]);have i:ScOk s.data.toList body (P.length+Rf.T.sz b) ([]++(x::Q)) ((bn,P.length+Rf.T.sz b+([]:List RN).length)::e):=ScOk.cons (R:=[]) f (by rw[a];exact o) (by rw[a];exact p);have c:=@k P _ _ P.length rfl (λsp m=>d sp (by simp[Tw.T.spans,m])) i (by simp;omega);rw[flat,fill,<-a,Rf.T.sz];refine@Nj _ _ _ _ _ _ _ _ _ _ x _ _ ?_ (by simp;omega) (by rw[a];simp) (.inr (.inr (.inl ⟨by rw[a],?_⟩)))
 ·have:=Tp P (flat (ixF body) (ixT body) b P.length) Q x;rw[h]at this;exact this
 ·have g:(List.reverse ((bn,P.length+Rf.T.sz b+([]:List RN).length)::e)).map (·.2)=e.reverse.map (·.2)++[P.length+(Rf.T.sz b+1)-1]:=sM;rw[g]at c;refine@BC.to _ _ _ _ _ _ _ _ _ _ _ _ _ _ _ @c ?_ ?_ ?_
  ·rw[a]
  ·simp
  ·simp
theorem zj0{to:Nat}{rc:Bool}{d:Tw.T}(q:BAll B bt s body tv nv root er d)(p:BAll B bt s body tv nv root er b):BAll B bt s body tv nv root er (.lett fr to rc bn bat d b):=by
 intro P Q e F C g m A;subst C;simp only[Rf.T.sz]at m A;have v:=Ak (ixF body) (ixT body) d P.length;have j:=Ak (ixF body) (ixT body) b (P.length+Rf.T.sz d);obtain⟨x,a⟩:∃x:RN,x=⟨if rc then 114 else 108,(P.length+Rf.T.sz d-1:Nat),(P.length+Rf.T.sz d+Rf.T.sz b-1:Nat),-1,ixF body fr,ixT body to,ixF body bat,-1⟩:=⟨_,rfl⟩;obtain⟨D,E⟩:=g (bat,bat+bn.length,bn) (by simp[Tw.T.spans]);have w:ScOk s.data.toList body (P.length+Rf.T.sz d+Rf.T.sz b) (x::Q) e:=m.pre (R:=[x]) (by simp;omega);have i:ScOk s.data.toList body (P.length+Rf.T.sz d+Rf.T.sz b) ([]++(x::Q)) ((bn,P.length+Rf.T.sz d+Rf.T.sz b+([]:List RN).length)::e):=ScOk.cons (R:=[]) (by simpa[Nat.add_assoc]using m) (by rw[a];exact D) (by rw[a];exact E);rw[rD,zD,Nat.add_zero]at i;have o:(List.reverse ((bn,P.length+Rf.T.sz d+Rf.T.sz b)::e)).map (·.2)=e.reverse.map (·.2)++[P.length+(Rf.T.sz d+Rf.T.sz b+1)-1]:=by simp;omega
 have n:=Tp P (flat (ixF body) (ixT body) d P.length++flat (ixF body) (ixT body) b (P.length+Rf.T.sz d)) Q x;rw[eA,v,j]at n;have y:=i.pre (n':=P.length+Rf.T.sz d) (R:=flat (ixF body) (ixT body) b (P.length+Rf.T.sz d)) (by rw[j]);have z:=w.pre (n':=P.length+Rf.T.sz d) (R:=flat (ixF body) (ixT body) b (P.length+Rf.T.sz d)) (by rw[j]);rw[flat,fill,<-a,Rf.T.sz];cases rc with
 |true=>
  have k:=Af (ixF body) (ixT body) d P.length ((bn,P.length+Rf.T.sz d+Rf.T.sz b)::e);have h:=@q P _ _ P.length rfl (λsp c=>g sp (by simp[Tw.T.spans,c])) y (by simp;omega);have f:=@p (P++fill (ixF body) (ixT body) d P.length ((bn,P.length+Rf.T.sz d+Rf.T.sz b)::e)) _ _ (P.length+Rf.T.sz d) (by rw[eA,k]) (λsp c=>g sp (by simp[Tw.T.spans,c])) i (by simp;omega);rw[o]at h f;refine@Nj _ _ _ _ _ _ _ _ _ _ x _ _ ?_ (by simp;omega) (by rw[a];simp) (.inr (.inl ⟨by rw[a];rfl,_,BC.to @h (by rw[a]) sM rfl,BC.to @f (by rw[a]) sM sM⟩));rw[show P.length+(Rf.T.sz d+Rf.T.sz b+1)-1=P.length+(Rf.T.sz d+Rf.T.sz b) by omega];exact n
 |false=>
  have k:=Af (ixF body) (ixT body) d P.length e;have h:=@q P _ _ P.length rfl (λsp c=>g sp (by simp[Tw.T.spans,c])) z oM;have f:=@p (P++fill (ixF body) (ixT body) d P.length e) _ _ (P.length+Rf.T.sz d) (by rw[eA,k]) (λsp c=>g sp (by simp[Tw.T.spans,c])) i (by simp;omega);rw[o]at f;refine@Nj _ _ _ _ _ _ _ _ _ _ x _ _ ?_ (by simp;omega) (by rw[a];simp) (.inl ⟨by rw[a];rfl,_,BC.to @h (by rw[a]) sM rfl,BC.to @f (by rw[a]) sM sM⟩);rw[show P.length+(Rf.T.sz d+Rf.T.sz b+1)-1=P.length+(Rf.T.sz d+Rf.T.sz b) by omega];exact n
theorem zj1(s:Int):Hd s≠120/\Hd s≠108/\Hd s≠114/\Hd s≠70:=by
 unfold Hd
 repeat' split
 all_goals decide
theorem Es:∀t:Tw.T,BAll B bt s body tv nv root er t
 |.name fr to z=>by
  intro P Q e n o k m D;subst o;obtain⟨A,C⟩:=k (fr,to,z) (by simp[Tw.T.spans]);have h:∀p∈e,p.2≠P.length/\∃y,(P++flat (ixF body) (ixT body) (.name fr to z) P.length++Q)[p.2]?=some y/\y.name<body.length/\atT s.data.toList body y.name=p.1:=λp a=>by
   obtain⟨w,y,f,b,c⟩:=m p a;simp only[Rf.T.sz]at f;exact⟨oM,y,by rw[fB (by simp[flat];omega),show p.2-(P++flat (ixF body) (ixT body) (.name fr to z) P.length).length=w by simp[flat];omega];exact b,c⟩
  have q:=@zlo B bt s body (P++flat (ixF body) (ixT body) (.name fr to z) P.length++Q) tv nv root er P.length ⟨120,-1,-1,-1,ixF body fr,ixF body fr,0,-1⟩ (e.reverse.map (·.2)) (λj=>atT s.data.toList body (((P++flat (ixF body) (ixT body) (.name fr to z) P.length++Q)[j]?.map (·.name)).getD 0)) (Tp P [] Q _) (by simp;omega) rfl A (λj g=>by
   simp only[List.mem_map,List.mem_reverse]at g;obtain⟨p,a,rfl⟩:=g;obtain⟨f,y,b,c,d⟩:=h p a;exact⟨f,y,b,c,by rw[b];rfl⟩)
  refine@BC.to _ _ _ _ _ _ _ _ _ _ _ _ _ _ _ @q ?_ rfl ?_
  ·simp[Rf.T.sz]
  rw[C,Uu z (λp a=>by obtain⟨_,y,b,_,d⟩:=h p a;rw[b];exact d)];simp only[flat,fill,wA,aE _ _ (znL _),Nat.sub_self];rfl
 |.int fr to v=>Tq (λ_=>rfl) (λ_ _=>rfl) rfl rfl rfl rfl sM
 |.truth fr to b=>Tq (λ_=>rfl) (λ_ _=>rfl) rfl rfl rfl rfl (by cases b<;>simp)
 |.side fr to b=>Tq (λ_=>rfl) (λ_ _=>rfl) rfl rfl rfl rfl (by cases b<;>simp)
 |.pair fr to l r=>Wp (λ_=>rfl) (λ_ _=>rfl) rfl rfl (λ_=>rfl) (λ_=>rfl) (λ_=>rfl) (λ_=>sM) (Es l) (Es r)
 |.call fr to l r=>Wp (λ_=>rfl) (λ_ _=>rfl) rfl rfl (λ_=>rfl) (λ_=>rfl) (λ_=>rfl) (λ_=>sM) (Es l) (Es r)
 |.binary fr to sg l r=>Wp (λ_=>rfl) (λ_ _=>rfl) rfl rfl (λ_=>rfl) (λ_=>rfl) (λ_=>rfl) (λ_=>zj1 _) (Es l) (Es r)
 |.bracket fr to i=>zjz (λ_=>rfl) (λ_ _=>rfl) rfl rfl (λ_=>rfl) (λ_=>rfl) (λ_=>rfl) (λ_=>sM) (Es i)
 |.cond fr to c t d=>zhs (Es c) (Es t) (Es d)
 |.fn fr to bn bat b=>zlp (Es b)
 |.lett fr to rc bn bat d b=>zj0 (Es d) (Es b)
end
end
section
open Tw Tw.Rf Go.Proofs.Tryz
open Go.RowKit
section
variable {w:World}{B bt:Nat}{s:ByteArray}{body:List Tw.Tok}{N:List Tw.Rf.RN}{tv nv kv:Value}{root er:Int}
variable{v:Value}{K:List Nat}{g k r:Nat}
theorem LAt.ne(h:LAt w v K){c:Array Value}{u:TypeId}(f:u≠3)(d:w.heap[g]?=some (.cells c u (0,0))):some g≠v.ownBlock:=λe=>by
 rcases h.2 with⟨a,_⟩|⟨l,i,j,a,_,b,_⟩
 ·rw[a]at e;simp[Value.ownBlock]at e
 ·rw[a]at e;simp[Value.ownBlock]at e;rw[<-e,d]at b;cases b;exact f rfl
theorem RT.keptI(h:RT w B bt s body N tv nv root er)(d:LAt w v K){e:World}(b:w.grownBy e v.ownBlock):RT e B bt s body N tv nv root er:=
 {h with
  tree:=(b.block _ (zgE.1 h.tree).1 (d.ne dZ h.tree)).trans h.tree
  toks:=Ag h.toks λg c a=>(b.block _ (zgE.1 a).1 (d.ne dZ a)).trans a
  nodes:=Ag h.nodes λg c a=>(b.block _ (zgE.1 a).1 (d.ne dZ a)).trans a}
theorem LAt.at(h:LAt w v K)(b:K[k]?=some r):∃g cap,v=sL g K.length cap/\w.cell? (aD g k)=some (vI r)/\w.frozen? (aD g k)=false:=by
 have i:=(zlE.1 b).1;rcases h.2 with⟨_,f⟩|⟨g,cap,d,e,_,c,_⟩
 ·omega
 ·have a:=h;unfold LAt at a;rw[e]at a;exact⟨g,cap,e,(a.cellAt _ oM).trans (by rw[sD,b];rfl),eB _ _ _ _ _ c⟩
theorem LAt.set(h:LAt w v K){cap:Nat}(j:v=sL g K.length cap)(r:Nat):LAt (w.setCell (aD g k) (vI r)) v (K.set k r):=by
 subst j;rcases h.2 with⟨e,_⟩|⟨n,l,m,e,a,b,c,d,f,i⟩
 ·cases e
 ·cases e;unfold LAt;rw[jB];refine⟨sM,.inr ⟨g,cap,_,rfl,a,Bo b _,c,d,by simpa using f,?_⟩⟩;rw[bE,List.take_set,i,List.map_set]
def WC(B bt:Nat)(s:ByteArray)(body:List Tw.Tok)(N:List RN)(tv nv kv:Value)(root er:Int)(k:Int)(K:List Nat)(r:Nat)(K':List Nat):Prop:=
 ∀ {w:World},RT w B bt s body N tv nv root er->LAt w kv K->Calls prog 123 #[.pointer (some ⟨bt,0,none⟩),.int .i64 k,kv] w λe a=>e=.returned (.int .i64 r)/\w.grownBy a kv.ownBlock/\LAt a kv K'
theorem Nk(K:List Nat):WC B bt s body N tv nv kv root er (-1) K 0 K:=by
 intro w h b;have a:=bV b
 go_in;go_wp2_with fail;go_ret;exact⟨rfl,⟨rfl,rfl,rfl,znL _,λ_ _ _=>rfl⟩,uh a⟩
theorem zca(a:K[k]?=some r)(l:0<r):WC B bt s body N tv nv kv root er k K r K:=by
 intro w h b;obtain⟨g,d,rfl,e,_⟩:=b.at a;have j:=(zlE.1 a).1;have f:¬(k:Int)<0:=oM;have i:(k:Int)<(K.length:Int):=oM;have m:(0:Int)<(r:Int):=oM;have c:=bV b
 go_in;go_wp2_with fail;go_ret;exact⟨rfl,⟨rfl,rfl,rfl,znL _,λ_ _ _=>rfl⟩,uh c⟩
theorem Pu{k:Nat}{x:RN}{K K1 K2 K3:List Nat}{r1 r2 r3:Nat}(hk:N[k]?=some x)(hz:K[k]?=some 0)(hz3:∃q,K3[k]?=some q)(hl3:K3.length=K.length)(hsx:x.sort≠120)(b1:r1<=2001)(b2:r2<=2001)(b3:r3<=2001)
  (hA:WC B bt s body N tv nv kv root er x.a K r1 K1) (hB:WC B bt s body N tv nv kv root er x.b K1 r2 K2) (hC:WC B bt s body N tv nv kv root er x.c K2 r3 K3):WC B bt s body N tv nv kv root er k K (min (1+r1+r2+r3) 2001) (K3.set k (min (1+r1+r2+r3) 2001)):=by
 intro w h hl;have hklt:=(zlE.1 hk).1;have hfew:=h.few;obtain⟨_,_,a2,_,_⟩:=h.cells;obtain⟨g,cap,rfl,d0,d1,d2,d3,d4,d5,d6,d7,d8,_⟩:=h.node hk;obtain⟨gk,capk,rfl,z0,_⟩:=hl.at hz;have hzlt:=(zlE.1 hz).1;have s1:¬(x.sort:Int)=120:=oM;have hk0:¬(k:Int)<0:=oM;have hkl:(k:Int)<(N.length:Int):=oM;have hkK:(k:Int)<(K.length:Int):=oM;have cT:prog.cellsOf 276=9:=kR;have HA:Hid (WC _ _ _ _ _ _ _ _ _ _ _ _ _ _):=@hA;have HB:Hid (WC _ _ _ _ _ _ _ _ _ _ _ _ _ _):=@hB;have HC:Hid (WC _ _ _ _ _ _ _ _ _ _ _ _ _ _):=@hC;have H:=bV h;have HL:=bV hl;have hgk:gk<w.heap.size:=(hl.lt gk rfl).2;obtain⟨m,hm⟩:∃m,min (1+r1+r2+r3) 2001=m:=⟨_,rfl⟩;rw[hm];have HM:=bV hm
 go_in;go_wp2_with fail;have g1:=zwA w (.cells #[vU x.sort,vI x.a,vI x.b,vI x.c,vI x.first,vI x.last,vI x.name,vI x.binder,.bool false] 276) none;have n1:=Ac w (.cells #[vU x.sort,vI x.a,vI x.b,vI x.c,vI x.first,vI x.last,vI x.name,vI x.binder,.bool false] 276);obtain⟨w1,hw1⟩:∃w1,w.alloc (.cells #[vU x.sort,vI x.a,vI x.b,vI x.c,vI x.first,vI x.last,vI x.name,vI x.binder,.bool false] 276)=w1:=⟨_,rfl⟩;obtain⟨nb,hnb⟩:∃nb,w.heap.size=nb:=⟨_,rfl⟩;rw[hw1]at g1;rw[hw1,hnb]at n1;rw[hw1,hnb];have hne:nb≠gk:=oM;have G1:=bV g1;have T1:=bV (H.o.grown g1);have L1:=bV (HL.o.grown g1);have N1:=bV n1;refine(uh HA T1.o L1.o).mono ?_;rintro e1 w2 ⟨rfl,hg2,hL2⟩;have N2:=(hg2.block _ (zgE.1 N1.o).1 (by simp[Value.ownBlock];omega)).trans N1.o;have m2:w2.cell? (aD nb 2)=some (vI x.b):=zcR N2;have T2:=bV (T1.o.keptI L1.o hg2);have L2:=bV hL2;have G2:=bV hg2;have N2:=bV N2;go_wp2_with fail;refine(uh HB T2.o L2.o).mono ?_;rintro e1 w3 ⟨rfl,hg3,hL3⟩;have N3:=(hg3.block _ (zgE.1 N2.o).1 (by simp[Value.ownBlock];omega)).trans N2.o;have m3:w3.cell? (aD nb 3)=some (vI x.c):=zcR N3;have T3:=bV (T2.o.keptI L2.o hg3);have L3:=bV hL3;have G3:=bV hg3;go_wp2_with fail;refine(uh HC T3.o L3.o).mono ?_;rintro e1 w4 ⟨rfl,hg4,hL4⟩;have L4:=bV hL4;have G4:=bV hg4;obtain⟨q,hq⟩:=hz3;obtain⟨g',cap',e,k0,kf⟩:=hL4.at hq;rw[hl3]at e;cases e;have GS:Hid (∀r:Nat,w.grownBy (w4.setCell (aD gk k) (vI r)) (some gk)):=bV λr=>Av (Fh G1.o) (Av G2.o (Av G3.o (Av G4.o ⟨rfl,rfl,rfl,sM,λj _ hj=>aA w4 (aD gk k) j _ (by rintro rfl;exact hj rfl)⟩)));have LS:Hid (∀r:Nat,LAt (w4.setCell (aD gk k) (vI r)) (sL gk K.length capk) (K3.set k r)):=bV λr=>L4.o.set (by rw[hl3]) r;by_cases hbig:2000<1+r1+r2+r3
 ·have hb0:(2000:Int)<1+(r1:Int)+(r2:Int)+(r3:Int):=oM;obtain rfl:m=2001:=by rw[<-HM.o];omega
  go_wp2_with fail;go_ret;exact⟨rfl,GS.o 2001,LS.o 2001⟩
 ·have hb0:¬(2000:Int)<1+(r1:Int)+(r2:Int)+(r3:Int):=oM;obtain rfl:m=1+r1+r2+r3:=by rw[<-HM.o];omega
  have hc:((1+r1+r2+r3:Nat):Int)=1+(r1:Int)+(r2:Int)+(r3:Int):=oM;have S1:=bV (GS.o (1+r1+r2+r3));have S2:=bV (LS.o (1+r1+r2+r3));rw[hc]at S1 S2;have HC2:=bV hc;go_wp2_with fail;go_ret;refine⟨?_,S1.o,S2.o⟩;rw[HC2.o];rfl
theorem zlq{k j r:Nat}{x y:RN}{K:List Nat}(hk:N[k]?=some x)(hsx:x.sort=120)(hbx:x.binder=(j:Int))(hj:N[j]?=some y)(hz:K[k]?=some 0)
  (hways:(y.sort=70/\r=1)\/(y.sort=114/\r=1/\∃(yb:Nat) (z:RN),y.b=(yb:Int)/\N[yb]?=some z/\x.first<z.first)\/((y.sort=108\/y.sort=114)/\∃(ya yb:Nat) (z:RN),y.a=(ya:Int)/\y.b=(yb:Int)/\N[yb]?=some z/\z.first<=x.first/\K[ya]?=some r/\0<r/\r<=2000+1)) :
  WC B bt s body N tv nv kv root er k K r (K.set k r):=by
 intro w h hl;have hklt:=(zlE.1 hk).1;have hjlt:=(zlE.1 hj).1;have hfew:=h.few;obtain⟨_,_,a2,_,_⟩:=h.cells;have H:=bV h;obtain⟨g,cap,rfl,d0,d1,d2,d3,d4,d5,d6,d7,d8,_⟩:=h.node hk;have hd:=h.node hj;obtain⟨gk,capk,rfl,z0,_⟩:=hl.at hz;have hzlt:=(zlE.1 hz).1;have hk0:¬(k:Int)<0:=oM;have hj0:¬(j:Int)<0:=oM;have hkl:(k:Int)<(N.length:Int):=oM;have hjl:(j:Int)<(N.length:Int):=oM;have hkK:(k:Int)<(K.length:Int):=oM;have cT:prog.cellsOf 276=9:=kR;rw[hsx]at d0;rw[hbx]at d7;have HL:=bV hl;have HW:=bV hways;have HZ:=bV hz;have HJ:=bV hj;have hgk:gk<w.heap.size:=(hl.lt gk rfl).2;have hgn:g<w.heap.size:=(h.nodes.lt g rfl).2
 go_in;go_wp2_with fail;have g1:=zwA w (.cells #[vU 120,vI x.a,vI x.b,vI x.c,vI x.first,vI x.last,vI x.name,vI j,.bool false] 276) none;have n1:=Ac w (.cells #[vU 120,vI x.a,vI x.b,vI x.c,vI x.first,vI x.last,vI x.name,vI j,.bool false] 276);have hz1:(w.alloc (.cells #[vU 120,vI x.a,vI x.b,vI x.c,vI x.first,vI x.last,vI x.name,vI j,.bool false] 276)).heap.size=w.heap.size+1:=sM;obtain⟨w1,hw1⟩:∃w1,w.alloc (.cells #[vU 120,vI x.a,vI x.b,vI x.c,vI x.first,vI x.last,vI x.name,vI j,.bool false] 276)=w1:=⟨_,rfl⟩;obtain⟨nb,hnb⟩:∃nb,w.heap.size=nb:=⟨_,rfl⟩;rw[hw1]at g1;rw[hw1,hnb]at n1 hz1;rw[hw1,hnb];have G1:=bV g1;have T1:=bV (H.o.grown g1);have L1:=bV (HL.o.grown g1);have N1:=bV n1;rw[hnb]at hgk hgn;have m4:w1.cell? (aD nb 4)=some (vI x.first):=zcR n1;have m7:w1.cell? (aD nb 7)=some (vI j):=zcR n1;obtain⟨_,_,a2,_,_⟩:=T1.o.cells;obtain⟨g',cap',e,d0,d1,d2,d3,d4,d5,d6,d7,d8,_⟩:=T1.o.node HJ.o;cases e;have gz:=zwA w1 (.cells #[vU 0,vI 0,vI 0,vI 0,vI 0,vI 0,vI 0,vI 0,.bool false] 276) none;have m4':=cell_kept m4 gz sM;have m7':=cell_kept m7 gz sM;have TZ:=T1.o.grown gz;obtain⟨_,_,a2',_,_⟩:=TZ.cells;obtain⟨g',cap',e,d0',d1',d2',d3',d4',d5',d6',d7',d8',_⟩:=TZ.node HJ.o;cases e;go_region;have g2:w1.grownBy (w1.alloc (.cells #[vU y.sort,vI y.a,vI y.b,vI y.c,vI y.first,vI y.last,vI y.name,vI y.binder,.bool false] 276)).drew none:=Ad (zwA w1 (.cells #[vU y.sort,vI y.a,vI y.b,vI y.c,vI y.first,vI y.last,vI y.name,vI y.binder,.bool false] 276) none);have n2:(w1.alloc (.cells #[vU y.sort,vI y.a,vI y.b,vI y.c,vI y.first,vI y.last,vI y.name,vI y.binder,.bool false] 276)).drew.heap[w1.heap.size]?=some (.cells #[vU y.sort,vI y.a,vI y.b,vI y.c,vI y.first,vI y.last,vI y.name,vI y.binder,.bool false] 276):=Ac w1 (.cells #[vU y.sort,vI y.a,vI y.b,vI y.c,vI y.first,vI y.last,vI y.name,vI y.binder,.bool false] 276);rw[hz1]at n2;obtain⟨w2,hw2⟩:∃w2,(w1.alloc (.cells #[vU y.sort,vI y.a,vI y.b,vI y.c,vI y.first,vI y.last,vI y.name,vI y.binder,.bool false] 276)).drew=w2:=⟨_,rfl⟩;rw[hw2]at g2 n2;rw[hw2];have M4:=cell_kept m4 g2 sM;have T2:=bV (T1.o.grown g2);have L2:=bV (L1.o.grown g2);have G2:=bV (Ab G1.o g2);have b0:w2.cell? ⟨nb+1,0,none⟩=some (vU y.sort):=zcR n2;have b1:w2.cell? ⟨nb+1,1,none⟩=some (vI y.a):=zcR n2;have b2:w2.cell? ⟨nb+1,2,none⟩=some (vI y.b):=zcR n2;have HN2:=bV n2;have GS:Hid (∀r:Nat,w.grownBy (w2.setCell (aD gk k) (vI r)).drew (some gk)):=bV λr=>Av (Fh G2.o) ⟨rfl,rfl,rfl,sM,λq _ hq=>aA w2 (aD gk k) q _ (by rintro rfl;exact hq rfl)⟩;have LS:Hid (∀r:Nat,LAt (w2.setCell (aD gk k) (vI r)).drew (sL gk K.length capk) (K.set k r)):=bV λr=>(L2.o.set rfl r).grown (Ad (Aa _));have TD:=bV (T2.o.grown (Ad (Aa _)));have LD:=bV (L2.o.grown (Ad (Aa _)));rcases HW.o with⟨e1,rfl⟩|⟨e1,rfl,yb,z,e2,e3,e4⟩|⟨e1,ya,yb,z,e2,e3,e4,e5,e6,e7,e8⟩
 ·have s1:(y.sort:Int)=70:=oM;obtain⟨g',cap',e,k0,kf⟩:=L2.o.at HZ.o;cases e;rw[s1]at b0;go_wp2_with fail;go_region;go_wp2_with fail;go_ret;exact⟨rfl,GS.o 1,LS.o 1⟩
 ·have s1:(y.sort:Int)=114:=oM;obtain⟨g',cap',e,k0,kf⟩:=L2.o.at HZ.o;cases e;obtain⟨_,_,a2,_,_⟩:=T2.o.cells;obtain⟨g',cap',e,_,_,_,_,d4,_,_,_,_,_⟩:=T2.o.node e3;cases e;have hybl:=(zlE.1 e3).1;have hyi:(yb:Int)<(N.length:Int):=oM;have hfi:¬(z.first:Int)<=(x.first:Int):=oM;rw[e2]at b2;rw[s1]at b0;go_wp2_with fail;go_region;go_wp2_with fail;go_ret;exact⟨rfl,GS.o 1,LS.o 1⟩
 ·obtain⟨_,_,a2,_,_⟩:=T2.o.cells;obtain⟨g',cap',e,_,_,_,_,d4,_,_,_,_,_⟩:=T2.o.node e4;cases e;have hybl:=(zlE.1 e4).1;have hyi:(yb:Int)<(N.length:Int):=oM;have hfi:(z.first:Int)<=(x.first:Int):=oM;rw[e3]at b2;rw[e2]at b1;rcases e1 with e1|e1
  ·have s1:(y.sort:Int)=108:=oM;rw[s1]at b0;go_wp2_with fail;go_region;go_wp2_with fail;refine(zca e6 e7 TD.o LD.o).mono ?_;rintro e1 w3 ⟨rfl,hg3,hL3⟩;obtain⟨g',cap',e,k0,kf⟩:=hL3.at HZ.o;cases e;have G3:=bV (Av (Fh (Ad G2.o)) hg3);have L3:=bV hL3;by_cases hr:2000<r
   ·obtain rfl:r=2001:=oM;have GE:Hid (w.grownBy (w3.setCell (aD gk k) (vI 2001)) (some gk)):=bV (Av G3.o ⟨rfl,rfl,rfl,sM,λq _ hq=>aA w3 (aD gk k) q _ (by rintro rfl;exact hq rfl)⟩);have LE:=bV (L3.o.set (k:=k) rfl 2001);go_wp2_with fail;go_ret;exact⟨rfl,GE.o,LE.o⟩
   ·have hr2:¬(2000:Int)<(r:Int):=oM;have GE:Hid (w.grownBy (w3.setCell (aD gk k) (vI r)) (some gk)):=bV (Av G3.o ⟨rfl,rfl,rfl,sM,λq _ hq=>aA w3 (aD gk k) q _ (by rintro rfl;exact hq rfl)⟩);have LE:=bV (L3.o.set (k:=k) rfl r);go_wp2_with fail;go_ret;exact⟨rfl,GE.o,LE.o⟩
  ·have s1:(y.sort:Int)=114:=oM;rw[s1]at b0;go_wp2_with fail;go_region;go_wp2_with fail;refine(zca e6 e7 TD.o LD.o).mono ?_;rintro e1 w3 ⟨rfl,hg3,hL3⟩;obtain⟨g',cap',e,k0,kf⟩:=hL3.at HZ.o;cases e;have G3:=bV (Av (Fh (Ad G2.o)) hg3);have L3:=bV hL3;by_cases hr:2000<r
   ·obtain rfl:r=2001:=oM;have GE:Hid (w.grownBy (w3.setCell (aD gk k) (vI 2001)) (some gk)):=bV (Av G3.o ⟨rfl,rfl,rfl,sM,λq _ hq=>aA w3 (aD gk k) q _ (by rintro rfl;exact hq rfl)⟩);have LE:=bV (L3.o.set (k:=k) rfl 2001);go_wp2_with fail;go_ret;exact⟨rfl,GE.o,LE.o⟩
   ·have hr2:¬(2000:Int)<(r:Int):=oM;have GE:Hid (w.grownBy (w3.setCell (aD gk k) (vI r)) (some gk)):=bV (Av G3.o ⟨rfl,rfl,rfl,sM,λq _ hq=>aA w3 (aD gk k) q _ (by rintro rfl;exact hq rfl)⟩);have LE:=bV (L3.o.set (k:=k) rfl r);go_wp2_with fail;go_ret;exact⟨rfl,GE.o,LE.o⟩
end
end
section
open Tw Tw.Rf
open Go.RowKit
variable{N A C:List Tw.Rf.RN}{n m lo hi:Nat}{f:Nat->Nat}{S:Nat->Prop}{K:List Nat}{e:Tw.Rf.Sc}{we:Tw.WEn}
theorem Ha{a b:Option Nat}(h:a.or b=none):a=none/\b=none:=by cases a<;>simp_all
def Run(N:List RN)(n:Nat)(X:List RN):Prop:=∀i x,X[i]?=some x->N[n+i]?=some x
theorem Run.left(h:Run N n (A++C)):Run N n A:=λi x hi=>h i x (by rw[iA (zlE.1 hi).1];exact hi)
theorem Run.right(h:Run N n (A++C))(a:m=n+A.length):Run N m C:=λi x hi=>by
 have:=h (A.length+i) x (by rw[fB oM,show A.length+i-A.length=i by omega];exact hi);rw[a,Nat.add_assoc];exact this
theorem Run.last{x:RN}(h:Run N n (A++[x]))(a:m=n+A.length):N[m]?=some x:=by
 have:=h.right a 0 x rfl;exact this
theorem zht(f g:Nat->Nat)(t:Tw.T)(n:Nat)(e:Sc):∃A x,fill f g t n e=A++[x]/\x.first=f t.fr/\A.length+1=Rf.T.sz t:=by
 have a:=Af f g t n e;cases t<;>refine⟨_,_,(by simp only[fill];first|rfl|exact(rD _).symm),rfl,?_⟩<;>(simp[fill]at a ⊢;omega)
def E1(N:List RN)(f:Nat->Nat)(S:Nat->Prop)(K:List Nat)(n lo hi j c:Nat):Prop:=
 ∃nd,N[j]?=some nd/\((nd.sort=70/\c=1)\/(nd.sort=114/\c=1/\∃(d:Nat) (z:RN) (a:Nat),nd.b=(d:Int)/\N[d]?=some z/\z.first=f a/\S a/\hi<=a)\/((nd.sort=108\/nd.sort=114)/\∃(h d:Nat) (z:RN) (a:Nat),nd.a=(h:Int)/\nd.b=(d:Int)/\N[d]?=some z/\z.first=f a/\S a/\a<=lo/\K[h]?=some c/\0<c/\c<=2001/\h<n))
inductive ER(N:List RN)(f:Nat->Nat)(S:Nat->Prop)(K:List Nat)(n lo hi:Nat):Sc->WEn->Prop
 |nil:ER N f S K n lo hi [] .nil
 |cons {y:List UInt8} {j wt:Nat} {e:Sc} {we:WEn} (h:E1 N f S K n lo hi j wt) (r:ER N f S K n lo hi e we):ER N f S K n lo hi ((y,j)::e) (.cons y wt we)
theorem ER.mono{K':List Nat}{n' lo' hi':Nat}(h:ER N f S K n lo hi e we)(H:n<=n')(J:lo<=lo')(L:hi'<=hi)(hK:∀j,j<n->K'[j]?=K[j]?):ER N f S K' n' lo' hi' e we:=by
 induction h with
 |nil=>exact .nil
 |cons h _ ih=>
  refine .cons ?_ ih;obtain⟨nd,a,h|⟨c,F,q,z,p,d,i,k,o,v⟩|⟨c,G,q,z,p,d,i,k,o,v,I,w,y,D,E⟩⟩:=h
  ·exact⟨nd,a,.inl h⟩
  ·exact⟨nd,a,.inr (.inl ⟨c,F,q,z,p,d,i,k,o,oM⟩)⟩
  ·exact⟨nd,a,.inr (.inr ⟨c,G,q,z,p,d,i,k,o,v,oM,by rw[hK _ E];exact w,y,D,oM⟩)⟩
theorem ER.look(h:ER N f S K n lo hi e we){x:List UInt8}(a:(e.map (·.1)).contains x=true):∃j i:Nat,Dl e x=(j:Int)/\we.look x=some i/\E1 N f S K n lo hi j i:=by
 induction h with
 |nil=>simp at a
 |@cons y j i e we h _ ih=>
  by_cases d:y=x
  ·exact⟨j,i,by simp[Dl,d],by simp[WEn.look,d],h⟩
  ·obtain⟨o,p,k,b,c⟩:=ih (by simp at a ⊢;rcases a with a|a;exact absurd a.symm d;exact a);exact⟨o,p,by simp[Dl,d,k],by simp[WEn.look,d,b],c⟩
section
variable {B bt:Nat}{s:ByteArray}{body:List Tw.Tok}{N:List Tw.Rf.RN}{tv nv kv:Value}{root er:Int}{f g:Nat -> Nat}{S:Nat -> Prop}
variable{t l r b:Tw.T}{fr bat:Nat}{x:Nat->Tw.Rf.RN}{bn:List UInt8}
structure WRes(B bt:Nat)(s:ByteArray)(body:List Tw.Tok)(N:List RN)(tv nv kv:Value)(root er:Int)(n z:Nat)(K:List Nat)(r:Nat)(K':List Nat):Prop where
 pos:0<r
 le:r<=2001
 wc:WC B bt s body N tv nv kv root er ((n+z-1:Nat):Int) K r K'
 len:K'.length=K.length
 out:∀j,j<n\/n+z<=j->K'[j]?=K[j]?
 fin:K'[n+z-1]?=some r
theorem WC.to{k k':Int}{K K':List Nat}{r a:Nat}(h:WC B bt s body N tv nv kv root er k K r K')(c:k'=k)(d:a=r):WC B bt s body N tv nv kv root er k' K a K':=by
 subst c d;exact@h
def WAll(B bt:Nat)(s:ByteArray)(body:List Tw.Tok)(N:List RN)(tv nv kv:Value)(root er:Int)(f g:Nat->Nat)(S:Nat->Prop)(t:Tw.T):Prop:=
 ∀(n:Nat) (e:Sc) (we:WEn) (K:List Nat),WP S t->t.freeS (e.map (·.1))=none->Run N n (fill f g t n e)->ER N f S K n t.fr t.to e we->(∀i,i<Rf.T.sz t->K[n+i]?=some 0) ->
  ∃r a,Ae t we=some r/\WRes B bt s body N tv nv kv root er n (Rf.T.sz t) K r a
theorem Kq{K:List Nat}{k:Nat}(h:K[k]?=some 0)(r:Nat):(K.set k r)[k]?=some r:=List.getElem?_set_self (zlE.1 h).1
theorem Tr{x:RN}(p:∀n e,fill f g t n e=[x])(h:Rf.T.sz t=1)(j:x.a = -1)(k:x.b = -1)(o:x.c = -1)(q:x.sort≠120)(v:∀we,Ae t we=some 1):WAll B bt s body N tv nv kv root er f g S t:=by
 intro n e we K _ _ c _ i;rw[p]at c;have d:=c 0 x rfl;have a:=i 0 oM;rw[Nat.add_zero]at d a;refine⟨1,K.set n 1,v we,oM,oM,?_,sM,?_,?_⟩
 ·refine@WC.to _ _ _ _ _ _ _ _ _ _ _ _ _ _ _ _ (@Pu _ _ _ _ _ _ _ _ _ _ n x K K K K 0 0 0 d a ⟨0,a⟩ rfl q oM oM oM (by rw[j];exact Nk K) (by rw[k];exact Nk K) (by rw[o];exact Nk K)) (by rw[h];rfl) rfl
 ·intro y w;rw[qD oM]
 ·rw[h];exact Kq a 1
theorem zhu(F:∀p q,S p->S q->p<q->f p<f q){to:Nat}{z:List UInt8}:WAll B bt s body N tv nv kv root er f g S (.name fr to z):=by
 intro n e we K w v W V J;have G:=W 0 _ rfl;have y:=J 0 (by simp[Rf.T.sz]);rw[Nat.add_zero]at G y;have X:(e.map (·.1)).contains z=true:=by
  cases h:(e.map (·.1)).contains z
  ·simp only[Tw.T.freeS]at v;rw[h]at v;cases v
  ·rfl
 obtain⟨Z,a,L,Q,nd,R,H⟩:=V.look X;have I:0<a/\a<=2001:=by
  rcases H with⟨_,h⟩|⟨_,h,_⟩|⟨_,_,_,_,_,_,_,_,_,_,_,_,h,a0,_⟩<;>omega
 refine⟨a,K.set n a,?_,I.1,I.2,?_,sM,?_,?_⟩
 ·simp only[Ae,Q,zbS];rw[show min a 2001=a by omega]
 ·refine@WC.to _ _ _ _ _ _ _ _ _ _ _ _ _ _ _ _ (@zlq B bt s body N tv nv kv root er n Z a _ nd K G rfl L R y ?_) (by simp[Rf.T.sz]) rfl;rcases H with h|⟨d,U,D,z,pb,i,j,k,o,c⟩|⟨d,ya,D,z,pb,i,j,k,o,c,E,M,O,P,a1⟩
  ·exact .inl h
  ·refine .inr (.inl ⟨d,U,D,z,i,j,?_⟩);rw[k];exact F _ _ w.1 o (by have:=w.2;simp only[Tw.T.to]at c;omega)
  ·refine .inr (.inr ⟨d,ya,D,z,i,j,k,?_,M,O,P⟩);rw[o];simp only[Tw.T.fr]at E;rcases Nat.lt_or_eq_of_le E with h|h
   ·exact Nat.le_of_lt (F _ _ c w.1 h)
   ·rw[h];exact znL _
 ·intro a2 Y;simp only[Rf.T.sz]at Y;rw[qD oM]
 ·simp only[Rf.T.sz];exact Kq y a
theorem zj2{i:Tw.T}(J:∀n e,fill f g t n e=fill f g i n e++[x n])(w:Rf.T.sz t=Rf.T.sz i+1)(G:∀n,(x n).a=(n+Rf.T.sz i-1:Nat))(H:∀n,(x n).b = -1)(I:∀n,(x n).c = -1)(P:∀n,(x n).sort≠120)(D:∀E,t.freeS E=i.freeS E)(F:WP S t->WP S i/\t.fr<=i.fr/\i.to<=t.to)(Q:∀we,Ae t we=(Ae i we).bind λa=>some (min (1+a) 2001))(hi:WAll B bt s body N tv nv kv root er f g S i):WAll B bt s body N tv nv kv root er f g S t:=by
 intro n e we K y o j z p;rw[J]at j;rw[D]at o;obtain⟨R,U,V⟩:=F y;have O:=Af f g i n e;obtain⟨r,d,W,h⟩:=hi n e we K R o j.left (z.mono (znL _) U V (λ_ _=>rfl)) (λk L=>p k oM);have M:=j.last (m:=n+Rf.T.sz i) (by rw[O]);have q:=p (Rf.T.sz i) oM;have v:d[n+Rf.T.sz i]?=some 0:=by rw[h.out _ (.inr (znL _))];exact q
 have:=h.le;refine⟨min (1+r) 2001,d.set (n+Rf.T.sz i) (min (1+r) 2001),by rw[Q,W];rfl,oM,oM,?_,by simp[h.len],?_,?_⟩
 ·refine@WC.to _ _ _ _ _ _ _ _ _ _ _ _ _ _ _ _ (@Pu _ _ _ _ _ _ _ _ _ _ _ (x n) K d d d r 0 0 M q ⟨0,v⟩ h.len (P n) h.le oM oM (by rw[G];exact h.wc) (by rw[H];exact Nk d) (by rw[I];exact Nk d)) (by rw[w];rfl) rfl
 ·intro k L;rw[qD oM];exact h.out k oM
 ·rw[w];exact Kq v _
theorem Wq(U:∀n e,fill f g t n e=fill f g l n e++fill f g r (n+Rf.T.sz l) e++[x n])(G:Rf.T.sz t=Rf.T.sz l+Rf.T.sz r+1)(P:∀n,(x n).a=(n+Rf.T.sz l-1:Nat))(Q:∀n,(x n).b=(n+Rf.T.sz l+Rf.T.sz r-1:Nat))(R:∀n,(x n).c = -1)(Y:∀n,(x n).sort≠120)(M:∀E,t.freeS E=(l.freeS E).or (r.freeS E))(O:WP S t->(WP S l/\t.fr<=l.fr/\l.to<=t.to)/\WP S r/\t.fr<=r.fr/\r.to<=t.to)(Z:∀we,Ae t we=(Ae l we).bind λa=>(Ae r we).bind λb=>some (min (1+a+b) 2001))(W:WAll B bt s body N tv nv kv root er f g S l)(X:WAll B bt s body N tv nv kv root er f g S r):WAll B bt s body N tv nv kv root er f g S t:=by
 intro n e we K L y k z p;rw[U]at k;rw[M]at y;obtain⟨I,J⟩:=Ha y;obtain⟨⟨p1,p2,p3⟩,p4,p5,p6⟩:=O L;have H:=Af f g l n e;have l2:=Af f g r (n+Rf.T.sz l) e;obtain⟨q,w,v1,d⟩:=W n e we K p1 I k.left.left (z.mono (znL _) p2 p3 (λ_ _=>rfl)) (λj o=>p j oM);obtain⟨v,i,w1,h⟩:=X (n+Rf.T.sz l) e we w p4 J (k.left.right (by rw[H])) (z.mono oM p5 p6 (λj o=>d.out j (.inl o))) (λj o=>by rw[d.out _ (.inr oM),Nat.add_assoc];exact p _ oM);have V:=k.last (m:=n+(Rf.T.sz l+Rf.T.sz r)) (by rw[eA,H,l2]);have D:=p (Rf.T.sz l+Rf.T.sz r) oM;have F:i[n+(Rf.T.sz l+Rf.T.sz r)]?=some 0:=by rw[h.out _ (.inr oM),d.out _ (.inr oM)];exact D
 have:=d.le
 have:=h.le;refine⟨min (1+q+v) 2001,i.set (n+(Rf.T.sz l+Rf.T.sz r)) (min (1+q+v) 2001),by rw[Z,v1,zbS,w1];rfl,oM,oM,?_,by simp[h.len,d.len],?_,?_⟩
 ·refine@WC.to _ _ _ _ _ _ _ _ _ _ _ _ _ _ _ _ (@Pu _ _ _ _ _ _ _ _ _ _ _ (x n) K w i i q v 0 V D ⟨0,F⟩ (h.len.trans d.len) (Y n) d.le h.le oM (by rw[P];exact d.wc) (by rw[Q];exact h.wc) (by rw[R];exact Nk i)) (by rw[G];rfl) rfl
 ·intro j o;rw[qD oM,h.out j oM,d.out j oM]
 ·rw[G];exact Kq F _
theorem zhv{to:Nat}{c:Tw.T}(R:WAll B bt s body N tv nv kv root er f g S c)(V:WAll B bt s body N tv nv kv root er f g S l)(W:WAll B bt s body N tv nv kv root er f g S r):WAll B bt s body N tv nv kv root er f g S (.cond fr to c l r):=by
 intro n e we K Q F i o k;rw[fill]at i;simp only[Tw.T.freeS]at F;obtain⟨q,P⟩:=Ha F;obtain⟨q,O⟩:=Ha q;obtain⟨_,Y,p2,p3,p4,J,L,M⟩:=Q;have o1:=J.lt;have o2:=L.lt;have o3:=M.lt;simp only[Tw.T.fr,Tw.T.to]at o;simp only[Rf.T.sz]at k ⊢;have v:=Af f g c n e;have I:=Af f g l (n+Rf.T.sz c) e;have X:=Af f g r (n+Rf.T.sz c+Rf.T.sz l) e;obtain⟨w,D,u1,u2⟩:=R n e we K J q i.left.left.left (o.mono (znL _) Y oM (λ_ _=>rfl)) (λj d=>k j oM);obtain⟨y,E,Z,a⟩:=V (n+Rf.T.sz c) e we D L O (i.left.left.right (by rw[v])) (o.mono oM oM oM (λj d=>u2.out j (.inl d))) (λj d=>by rw[u2.out _ (.inr oM),Nat.add_assoc];exact k _ oM);obtain⟨z,p,w1,h⟩:=W (n+Rf.T.sz c+Rf.T.sz l) e we E M P (i.left.right (by rw[eA,v,I,Nat.add_assoc])) (o.mono oM oM oM (λj d=>by rw[a.out j (.inl oM),u2.out j (.inl d)])) (λj d=>by rw[a.out _ (.inr oM),u2.out _ (.inr oM),Nat.add_assoc,Nat.add_assoc];exact k _ oM);have U:=i.last (m:=n+(Rf.T.sz c+Rf.T.sz l+Rf.T.sz r)) (by rw[eA,eA,v,I,X]);have G:=k (Rf.T.sz c+Rf.T.sz l+Rf.T.sz r) oM;have H:p[n+(Rf.T.sz c+Rf.T.sz l+Rf.T.sz r)]?=some 0:=by rw[h.out _ (.inr oM),a.out _ (.inr oM),u2.out _ (.inr oM)];exact G
 have:=u2.le
 have:=a.le
 have:=h.le;refine⟨min (1+w+y+z) 2001,p.set (n+(Rf.T.sz c+Rf.T.sz l+Rf.T.sz r)) (min (1+w+y+z) 2001),by simp only[Ae,u1,Z,w1,zbS],oM,oM,?_,by simp[h.len,a.len,u2.len],?_,?_⟩
 ·refine@WC.to _ _ _ _ _ _ _ _ _ _ _ _ _ _ _ _ (@Pu _ _ _ _ _ _ _ _ _ _ _ _ K D E p w y z U G ⟨0,H⟩ (h.len.trans (a.len.trans u2.len)) sM u2.le a.le h.le (by exact u2.wc) (by exact a.wc) (by exact h.wc)) rfl rfl
 ·intro j d;rw[qD oM,h.out j oM,a.out j oM,u2.out j oM]
 ·exact Kq H _
theorem zlr{to:Nat}(w:WAll B bt s body N tv nv kv root er f g S b):WAll B bt s body N tv nv kv root er f g S (.fn fr to bn bat b):=by
 intro n e we K v i d k h;rw[fill]at d;simp only[Tw.T.freeS]at i;obtain⟨_,_,G,H,D,E⟩:=v;simp only[Tw.T.fr,Tw.T.to]at k;simp only[Rf.T.sz]at h ⊢;have z:=Af f g b n ((bn,n+Rf.T.sz b)::e);have o:=d.last (m:=n+Rf.T.sz b) (by rw[z]);obtain⟨r,a,F,c⟩:=w n ((bn,n+Rf.T.sz b)::e) (.cons bn 1 we) K E i d.left (.cons ⟨_,o,.inl ⟨rfl,rfl⟩⟩ (k.mono (znL _) oM D (λ_ _=>rfl))) (λj y=>h j oM);have p:=h (Rf.T.sz b) oM;have q:a[n+Rf.T.sz b]?=some 0:=by rw[c.out _ (.inr (znL _))];exact p
 have:=c.le;refine⟨min (1+r) 2001,a.set (n+Rf.T.sz b) (min (1+r) 2001),by simp only[Ae,F,zbS],oM,oM,?_,by simp[c.len],?_,?_⟩
 ·refine@WC.to _ _ _ _ _ _ _ _ _ _ _ _ _ _ _ _ (@Pu _ _ _ _ _ _ _ _ _ _ _ _ K a a a r 0 0 o p ⟨0,q⟩ c.len sM c.le oM oM (by exact c.wc) (by exact Nk a) (by exact Nk a)) rfl rfl
 ·intro j y;rw[qD oM];exact c.out j oM
 ·exact Kq q _
theorem zj3{to:Nat}{rc:Bool}{d:Tw.T}(X:WAll B bt s body N tv nv kv root er f g S d)(W:WAll B bt s body N tv nv kv root er f g S b):WAll B bt s body N tv nv kv root er f g S (.lett fr to rc bn bat d b):=by
 intro n e we K U F i v k;rw[fill]at i;simp only[Tw.T.freeS]at F;obtain⟨Q,R⟩:=Ha F;obtain⟨_,_,p1,p2,Z,p4,O,p⟩:=U;have o1:=O.lt;have o2:=p.lt;simp only[Tw.T.fr,Tw.T.to]at v;simp only[Rf.T.sz]at k ⊢;have z1:=Rf.T.Q8 d;have z2:=Rf.T.Q8 b;have M:=Af f g d n (if rc then(bn,n+Rf.T.sz d+Rf.T.sz b)::e else e);have Y:=Af f g b (n+Rf.T.sz d) ((bn,n+Rf.T.sz d+Rf.T.sz b)::e);have y:=i.last (m:=n+(Rf.T.sz d+Rf.T.sz b)) (by rw[eA,M,Y]);obtain⟨A,x,P,E,e3⟩:=zht f g b (n+Rf.T.sz d) ((bn,n+Rf.T.sz d+Rf.T.sz b)::e);have w:=i.left.right (m:=n+Rf.T.sz d) (by rw[M]);have L:N[n+Rf.T.sz d+Rf.T.sz b-1]?=some x:=by
  rw[P]at w;exact w.last oM
 have J:n+(Rf.T.sz d+Rf.T.sz b)=n+Rf.T.sz d+Rf.T.sz b:=oM;have V:ER N f S K n d.fr d.to (if rc then(bn,n+Rf.T.sz d+Rf.T.sz b)::e else e) (if rc then .cons bn 1 we else we):=by
  have G:=v.mono (n':=n) (lo':=d.fr) (hi':=d.to) (K':=K) (znL _) oM oM (λ_ _=>rfl);cases rc with
  |false=>exact G
  |true=>exact .cons ⟨_,by rw[<-J];exact y,.inr (.inl ⟨rfl,rfl,_,x,b.fr,rfl,L,E,p.at,Z⟩)⟩ G
 obtain⟨q,D,v1,a⟩:=X n _ _ K O (by cases rc<;>exact Q) i.left.left V (λj o=>k j oM);obtain⟨z,h,w1,c⟩:=W (n+Rf.T.sz d) ((bn,n+Rf.T.sz d+Rf.T.sz b)::e) (.cons bn q we) D p R w (.cons ⟨_,by rw[<-J];exact y,.inr (.inr ⟨by cases rc<;>simp,_,_,x,b.fr,rfl,rfl,L,E,p.at,znL _,a.fin,a.pos,a.le,oM⟩)⟩ (v.mono oM oM oM (λj o=>a.out j (.inl o)))) (λj o=>by rw[a.out _ (.inr oM),Nat.add_assoc];exact k _ oM);have H:=k (Rf.T.sz d+Rf.T.sz b) oM;have I:h[n+(Rf.T.sz d+Rf.T.sz b)]?=some 0:=by rw[c.out _ (.inr oM),a.out _ (.inr oM)];exact H
 have:=a.le
 have:=c.le;refine⟨min (1+q+z) 2001,h.set (n+(Rf.T.sz d+Rf.T.sz b)) (min (1+q+z) 2001),by simp only[Ae,v1,w1,zbS,Nat.add_assoc],oM,oM,?_,by simp[c.len,a.len],?_,?_⟩
 ·refine@WC.to _ _ _ _ _ _ _ _ _ _ _ _ _ _ _ _ (@Pu _ _ _ _ _ _ _ _ _ _ _ _ K D h h q z 0 y H ⟨0,I⟩ (c.len.trans a.len) (by cases rc<;>simp) a.le c.le oM (by exact a.wc) (by exact c.wc) (by exact Nk h)) rfl rfl
 ·intro j o;rw[qD oM,c.out j oM,a.out j oM]
 ·exact Kq I _
theorem Ts{to:Nat}(h:S fr/\fr<=l.fr/\l.to<=r.fr/\r.to<=to/\WP S l/\WP S r):(WP S l/\fr<=l.fr/\l.to<=to)/\WP S r/\fr<=r.fr/\r.to<=to:=by
 obtain⟨_,d,j,i,a,c⟩:=h
 have:=a.lt
 have:=c.lt;exact⟨⟨a,d,oM⟩,c,oM,i⟩
theorem Et(a:∀p q,S p->S q->p<q->f p<f q):∀t:Tw.T,WAll B bt s body N tv nv kv root er f g S t
 |.name fr to z=>zhu a
 |.int fr to v=>Tr (λ_ _=>rfl) rfl rfl rfl rfl sM (λ_=>rfl)
 |.truth fr to b=>Tr (λ_ _=>rfl) rfl rfl rfl rfl (by cases b<;>simp) (λ_=>rfl)
 |.side fr to b=>Tr (λ_ _=>rfl) rfl rfl rfl rfl (by cases b<;>simp) (λ_=>rfl)
 |.bracket fr to i=>zj2 (λ_ _=>rfl) rfl (λ_=>rfl) (λ_=>rfl) (λ_=>rfl) (λ_=>sM) (λ_=>rfl) (λh=>⟨h.2.2.2,h.2.1,h.2.2.1⟩) (λ_=>rfl) (Et a i)
 |.pair fr to l r=>Wq (λ_ _=>rfl) rfl (λ_=>rfl) (λ_=>rfl) (λ_=>rfl) (λ_=>sM) (λ_=>rfl) Ts (λ_=>rfl) (Et a l) (Et a r)
 |.call fr to l r=>Wq (λ_ _=>rfl) rfl (λ_=>rfl) (λ_=>rfl) (λ_=>rfl) (λ_=>sM) (λ_=>rfl) Ts (λ_=>rfl) (Et a l) (Et a r)
 |.binary fr to sg l r=>Wq (λ_ _=>rfl) rfl (λ_=>rfl) (λ_=>rfl) (λ_=>rfl) (λ_=>So _) (λ_=>rfl) Ts (λ_=>rfl) (Et a l) (Et a r)
 |.cond fr to c t d=>zhv (Et a c) (Et a t) (Et a d)
 |.fn fr to bn bat b=>zlr (Et a b)
 |.lett fr to rc bn bat d b=>zj3 (Et a d) (Et a b)
end
end
section
abbrev wD:=@List.length_replicate
end
section
open Tw Tw.Rf Go.Proofs.Tryz
open Go.RowKit
def Tw.Rf.rreadS(n:Nat)(l:List UInt8):Option (Except (Nat×Nat) Tw.T):=
 if 300<l.length then some (.error (1,0))else match split l with
  |.error p=>some (.error (2,p))
  |.ok ts=>(Fk l ts n).bind λr=>match r with
   |.error p=>some (.error (3,p))
   |.ok t=>match t.freeS []with
    |some p=>some (.error (4,p))
    |none=>(Ae t .nil).bind λk=>if 2000<k then some (.error (10,0))else some (.ok t)
def RTree(w:World)(bt:Nat)(s:ByteArray)(t:Tw.T):Prop:=
 ∃body tv nv,Lex 0 s.data.toList body/\RT w 0 bt s body (fill (ixF body) (ixT body) t 0 []) tv nv ((Rf.T.sz t-1:Nat):Int) (-1)/\G s.data.toList .expr body t
def znf(w:World)(s:ByteArray)(b:Except (Nat×Nat) Tw.T)(e:Ending)(a:World):Prop:=w.grownBy a none /\
 match b with
 |.error (k,p)=>e=.returned (.tuple #[.pointer none,.int .i64 k,.int .i64 p])
 |.ok t=>∃bt,e=.returned (.tuple #[.pointer (some ⟨bt,0,none⟩),.int .i64 0,.int .i64 0])/\RTree a bt s t/\w.heap.size<=bt
section
variable {w:World}{B br bt:Nat}{s:ByteArray}{body:List Tw.Tok}{st:Tw.PS}{N:List Tw.Rf.RN}{tv nv:Value}{i:Nat}{er root:Int}
theorem RCtx.setRoot(h:RCtx w B br bt s body st N tv nv i er root)(k:Int):RCtx (w.setCell (aD bt 3) (vI k)) B br bt s body st N tv nv i er k:=by
 have b:=h.ne;refine{h with read:=(aA w (aD bt 3) br _ (by simpa using b)).trans h.read,tree:=Bo h.tree _,toks:=Ag h.toks λg c a=>?_,nodes:=Ag h.nodes λg c a=>?_}
 ·refine(aA w (aD bt 3) g _ ?_).trans a;rintro rfl;have:=h.tree;rw[a]at this;cases this
 ·refine(aA w (aD bt 3) g _ ?_).trans a;rintro rfl;have:=h.tree;rw[a]at this;cases this
theorem zmg{a w c:World}{v:Value}(h:a.grownBy w none)(k:RK br bt v w c)(f:a.heap.size<=br)(g:a.heap.size<=bt)(d:∀q,v.ownBlock=some q->a.heap.size<=q):a.grownBy c none:=
 ⟨k.os.trans h.os,k.tape.trans h.tape,k.output.trans h.output,kB h.size k.size,λi b _=>(k.block i (aB b h.size) oM oM (λe=>by have:=d i e.symm;omega)).trans (h.block i b sM)⟩
end
variable{s:ByteArray}{n:Nat}{l:List UInt8}
theorem zm0{body:List Tw.Tok}(j:Lex 0 s.data.toList body){t:Tw.T}(k:Fk s.data.toList (A9 s body) n=some (.ok t)):SpT s.data.toList body t:=by
 obtain⟨c,m,_,e,f⟩:=Yp k;intro sp d;rw[f,List.mem_map]at d;obtain⟨i,c,rfl⟩:=d;obtain⟨_,_,tk,b,g⟩:=e i c;have a:=Jp b (by rw[g];decide);have h:Y6 (A9 s body) i=tk:=by unfold Y6;rw[b];rfl
 simp only[h,Px];rw[Ds j a];exact⟨(zlE.1 a).1,by unfold atT;rw[a]⟩
theorem zcb:∀ {body:List Tw.Tok} {p:Nat},body.Pairwise (λa b=>a.to<=b.fr)->(∀t∈body,t.fr<t.to)->(∀t,body.head?=some t->p<=t.fr)->Rf.Row p body
 |[],_,_,_,_=>trivial
 |t::body,p,h1,h2,h3=>by
  refine⟨h3 t rfl,h2 t sM,zcb (List.pairwise_cons.1 h1).2 (λu c=>h2 u (by simp[c])) (λu c=>?_)⟩;exact(List.pairwise_cons.1 h1).1 u (List.mem_of_mem_head? c)
def At(body:List Tw.Tok)(p:Nat):Prop:=∃(i:Nat) (t:Tw.Tok),body[i]?=some t/\t.fr=p
theorem zni{body:List Tw.Tok}{t:Tw.T}(a:Lex 0 l body)(b:G l .expr body t):WP (At body) t:=
 (zmv (At body) b 0 (zcb a.apart (λt d=>(a.toks.1 t d).lt) (λ_ _=>yD _)) (λw e=>by obtain⟨i,c⟩:=List.getElem?_of_mem e;exact⟨i,w,c,rfl⟩)).1
theorem zm2{body:List Tw.Tok}(d:Lex 0 l body)(p q:Nat)(e:At body p)(f:At body q)(h:p<q):ixF body p<ixF body q:=by
 obtain⟨i,t,c,rfl⟩:=e;obtain⟨j,g,b,rfl⟩:=f;rw[Ds d c,Ds d b];rcases Nat.lt_trichotomy i j with a|a|a
 ·exact a
 ·subst a;rw[c]at b;cases b;omega
 ·have:=Ra d a b c;omega
def Tw.Rf.plc(body:List Tw.Tok)(i:Nat):Int:=((body[i]?.map (·.fr)).getD 0:Nat)
theorem zm3{body:List Tw.Tok}(b:Lex 0 l body)(p:Nat)(c:At body p):plc body (ixF body p)=p:=by
 obtain⟨i,t,a,rfl⟩:=c;unfold plc;rw[Ds b a,a];rfl
theorem Dt(f g:Nat->Nat):∀(t:Tw.T) (n:Nat) (e:Sc) (y:RN),y∈fill f g t n e->y.sort=120->∃sp∈t.spans,y.first=f sp.1
 |.name fr to z,n,e,y,h,_=>by simp[fill]at h;exact⟨(fr,to,z),by simp[Tw.T.spans],by rw[h]⟩
 |.int ..,n,e,y,h,hs=>by simp[fill]at h;rw[h]at hs;simp at hs
 |.truth _ _ b,n,e,y,h,hs=>by simp[fill]at h;rw[h]at hs;cases b<;>simp at hs
 |.side _ _ b,n,e,y,h,hs=>by simp[fill]at h;rw[h]at hs;cases b<;>simp at hs
 |.bracket _ _ i,n,e,y,h,hs=>by
  simp only[fill,zmA,xB]at h;rcases h with h|h
  ·exact Dt f g i _ _ y h hs
  ·rw[h]at hs;simp at hs
 |.pair _ _ l r,n,e,y,h,hs|.call _ _ l r,n,e,y,h,hs=>by
  simp only[fill,zmA,xB]at h;simp only[Tw.T.spans,zmA];rcases h with(h|h)|h
  ·obtain⟨sp,a,b⟩:=Dt f g l _ _ y h hs;exact⟨sp,.inl a,b⟩
  ·obtain⟨sp,a,b⟩:=Dt f g r _ _ y h hs;exact⟨sp,.inr a,b⟩
  ·rw[h]at hs;simp at hs
 |.binary _ _ sg l r,n,e,y,h,hs=>by
  simp only[fill,zmA,xB]at h;simp only[Tw.T.spans,zmA];rcases h with(h|h)|h
  ·obtain⟨sp,a,b⟩:=Dt f g l _ _ y h hs;exact⟨sp,.inl a,b⟩
  ·obtain⟨sp,a,b⟩:=Dt f g r _ _ y h hs;exact⟨sp,.inr a,b⟩
  ·rw[h]at hs;exact absurd hs (So _)
 |.cond _ _ c l r,n,e,y,h,hs=>by
  simp only[fill,zmA,xB]at h;simp only[Tw.T.spans,zmA];rcases h with((h|h)|h)|h
  ·obtain⟨sp,a,b⟩:=Dt f g c _ _ y h hs;exact⟨sp,.inl a,b⟩
  ·obtain⟨sp,a,b⟩:=Dt f g l _ _ y h hs;exact⟨sp,.inr (.inl a),b⟩
  ·obtain⟨sp,a,b⟩:=Dt f g r _ _ y h hs;exact⟨sp,.inr (.inr a),b⟩
  ·rw[h]at hs;simp at hs
 |.fn _ _ _ _ b,n,e,y,h,hs=>by
  simp only[fill,zmA,xB]at h;rcases h with h|h
  ·obtain⟨sp,a,b⟩:=Dt f g b _ _ y h hs;exact⟨sp,by simp[Tw.T.spans,a],b⟩
  ·rw[h]at hs;simp at hs
 |.lett _ _ rc _ _ d b,n,e,y,h,hs=>by
  simp only[fill,zmA,xB]at h;simp only[Tw.T.spans,zmC,zmA];rcases h with(h|h)|h
  ·obtain⟨sp,a,b⟩:=Dt f g d _ _ y h hs;exact⟨sp,.inr (.inl a),b⟩
  ·obtain⟨sp,a,b⟩:=Dt f g b _ _ y h hs;exact⟨sp,.inr (.inr a),b⟩
  ·rw[h]at hs;cases rc<;>simp at hs
theorem zeo{pl:Nat->Int}{F:List RN}{i:Nat}{y:RN}(h:F[i]?=some y)(a:Int):Hj pl (F.take (i+1)) a=if y.sort=120/\y.binder<0/\(Hj pl (F.take i) a<0\/pl y.first<Hj pl (F.take i) a)then pl y.first else Hj pl (F.take i) a:=by
 rw[List.take_add_one,h,E7];rfl
theorem zhw(N:Nat):madeCells (vI 0).cells N=(List.replicate N (vI 0)).toArray:=by
 apply Array.ext
 ·simp[madeCells]
 ·intro i a b;simp[madeCells,Value.cells,Nat.mod_one]
theorem zhx(N:Nat)(j:N<=5000):∃a,a=(List.replicate N (vI 0)).toArray/\∀W:World,(Instr.makeSlice 33 (vI N) (vI N)).run prog W=.ok (sL W.heap.size N N) (W.alloc (.cells a 3)):=by
 have c:(prog.info? 3).map (λi=>(i.zero,i.size,i.bytes))=some (some (vI 0),1,8):=kR;obtain⟨g,b,d,e,f⟩:=info_parts c;refine⟨_,rfl,λW=>?_⟩;have h:=run_make (P:=prog) W 33 3 g (vI 0) underlying33 b d .i64 .i64 N N oM oM (by rw[f];omega) oM;rw[e]at h;simp only[Int.toNat_natCast,Nat.mul_one]at h;rw[zhw]at h;exact h
theorem LAt.made{W:World}{N:Nat}{a:Array Value}(b:N<=5000)(h:a=(List.replicate N (vI 0)).toArray):LAt (W.alloc (.cells a 3)) (sL W.heap.size N N) (List.replicate N 0):=by
 subst h;unfold LAt;rw[wD];refine⟨sM,.inr ⟨W.heap.size,N,_,rfl,yD _,Ac W _,znL _,by unfold maxLen;omega,sM,sM⟩⟩
theorem zj4{res:Except (Nat×Nat) Tw.T}(h:rreadS n s.data.toList=some res)(w:World):
  Calls prog 68 #[.string s] w (znf w s res):=by
 unfold rreadS at h;have hl:s.data.toList.length=s.size:=Array.length_toList;rw[hl]at h;by_cases hs:300<s.size
 ·rw[mA hs]at h;cases h;have hsi:(300:Int)<(s.size:Int):=oM
  go_in;go_wp2_with fail;go_ret3;exact⟨⟨rfl,rfl,rfl,znL _,λ_ _ _=>rfl⟩,rfl⟩
 rw[jA hs]at h;have hsi:¬(300:Int)<(s.size:Int):=oM;have HT:=bV (zek s w oM);cases hsp:split s.data.toList with
 |error p=>
  rw[hsp]at h;cases h;have HSP:=bV hsp;clear hsp
  go_in;go_wp2_with fail;refine(uh HT).mono ?_;rintro e1 w1 ⟨hb,he⟩;rw[HSP.o]at he;cases he;have hp0:(0:Int)<=(p:Int):=oM;have G1:=bV (show w.grownBy w1 none from⟨hb.os,hb.tape,hb.output,hb.size,λk hk _=>hb.block k hk⟩);clear hb;go_wp2_with fail;go_ret3;exact⟨G1.o,rfl⟩
 |ok ts=>
  rw[hsp]at h;dsimp only at h;obtain⟨pr,hpr,h⟩:=zbE.1 h;have HSP:=bV hsp;have HPR:=bV hpr;have HH:=bV h;clear hsp hpr h
  go_in;go_wp2_with fail;refine(uh HT).mono ?_;rintro e1 w1 ⟨hb,he⟩;rw[HSP.o]at he;obtain⟨tv,body,rfl,rfl,hown⟩:=he;have hbody:=Hy.1 HSP.o;obtain⟨body',hL,e0⟩:=hbody;rw[hl]at e0;obtain rfl:body=body':=List.append_cancel_right e0;obtain⟨pv,cv,rfl⟩:∃p c,tv=.slice p body.length c:=by
   rcases hown.2 with⟨e1,e2⟩|⟨g2,cap2,_,e1,_⟩
   ·exact⟨_,_,by rw[e1,e2]⟩
   ·exact⟨_,_,e1⟩
  have G1:=bV (show w.grownBy w1 none from⟨hb.os,hb.tape,hb.output,hb.size,λk hk _=>hb.block k hk⟩);have HL:=bV hL;have hz1:=hb.size;clear hb e0 hL;have hmany:body.length<=300:=by
   have:=(Iw _ _ _ _ HSP.o sM oM).2;rw[eA,wB,hl]at this;omega
  -- the tree,the reader
  have gA:=zwA w1 (.cells #[.string s,.slice pv body.length cv,zN,vI 0,vI (-1)] 102) none;have nA:=Ac w1 (.cells #[.string s,.slice pv body.length cv,zN,vI 0,vI (-1)] 102);have sA:(w1.alloc (.cells #[.string s,.slice pv body.length cv,zN,vI 0,vI (-1)] 102)).heap.size=w1.heap.size+1:=sM;have gB:=zwA (w1.alloc (.cells #[.string s,.slice pv body.length cv,zN,vI 0,vI (-1)] 102)) (.cells #[pT w1.heap.size,vI 0,vI 0] 270) none;have nB:=Ac (w1.alloc (.cells #[.string s,.slice pv body.length cv,zN,vI 0,vI (-1)] 102)) (.cells #[pT w1.heap.size,vI 0,vI 0] 270);have nA':=zbG gB nA;rw[sA]at nB;have sB:((w1.alloc (.cells #[.string s,.slice pv body.length cv,zN,vI 0,vI (-1)] 102)).alloc (.cells #[pT w1.heap.size,vI 0,vI 0] 270)).heap.size=w1.heap.size+2:=sM;have gAB:=Ab gA gB;have tB:=Ag (Jf hown) λg c hc=>(gAB.block g (zgE.1 hc).1 sM).trans hc;go_wp2_with fail;obtain⟨w3,hw3⟩:∃w3,(w1.alloc (.cells #[.string s,.slice pv body.length cv,zN,vI 0,vI (-1)] 102)).alloc (.cells #[pT w1.heap.size,vI 0,vI 0] 270)=w3:=⟨_,rfl⟩;obtain⟨bt,hbt⟩:∃bt,w1.heap.size=bt:=⟨_,rfl⟩;rw[hbt]at hw3 nB nA' gAB sB tB;rw[hw3]at nB nA' gAB sB tB;rw[hbt,hw3];rw[hbt]at hz1;have X3:Hid (RCtx w3 w.heap.size (bt+1) bt s body ⟨0,0,false,0⟩ [] (.slice pv body.length cv) zN 0 (-1) 0):=bV ⟨nB,nA',tB,mD _ _ _ _,⟨oM,oM⟩,λ_=>⟨rfl,rfl⟩,λe=>(by cases e),hmany,yD _,sM,λ_=>sM⟩;have G3:=bV (Ab G1.o gAB);have hpr:=HPR.o;unfold Fk at hpr;obtain⟨x,hx,hpr⟩:=zbE.1 hpr;obtain⟨rt,hrt,hpr⟩:=zbE.1 hpr;cases hpr;have HX:=bV hx;have HRT:=bV hrt;have HTV:=bV (Jf hown);clear gA nA sA gB nB nA' sB gAB tB hw3 hbt hx hrt hown;refine((zmz HL.o n).expr X3.o rfl sM HX.o).mono ?_;rintro e1 w4 ⟨k4,N4,nv4,i4,er4,rfl,hk,ho,hi4,hx4,hc4,hg4⟩;have G4:=bV (zmg G3.o hk oM hz1 (by simp[Value.ownBlock]));have X5:=bV (hx4.setRoot k4);have r0:w4.cell? (aD bt 3)=some (vI 0):=zcR hx4.tree;have f0:w4.frozen? (aD bt 3)=false:=eB _ _ _ _ _ hx4.tree;have C4:=bV hc4;have D4:=bV hg4;obtain⟨_,c1,_,_,_,_,c6⟩:=X5.o.cells;have G5:Hid (w.grownBy (w4.setCell (aD bt 3) (vI k4)) none):=bV ⟨G4.o.os,G4.o.tape,G4.o.output,by simpa using G4.o.size,λq hq _=>(aA w4 (aD bt 3) q _ (by simp;omega)).trans (G4.o.block q hq sM)⟩;clear hk ho hx4 hc4 hg4 X3 G3 G4;have ways:x.2.stuck=true\/(x.2.stuck=false/\i4<body.length)\/(x.2.stuck=false/\i4=body.length):=by
   cases x.2.stuck
   ·rcases yB i4 body.length with h|h
    ·exact .inr (.inl ⟨rfl,h⟩)
    ·exact .inr (.inr ⟨rfl,by have:=X5.o.ile;omega⟩)
   ·exact .inl rfl
  have hE:Rf.Ends (A9 s body):=⟨⟨0,s.size,s.size⟩,sM,rfl⟩;rcases ways with hw|⟨hw,hi⟩|⟨hw,hi⟩
  case' inl=>
   obtain⟨t1,q1,q2⟩:=Ft hE hw;obtain rfl:rt=(t1,x.2):=by
    have:=HRT.o;simp[Tw.Au,q1,q2]at this;exact this.symm
   obtain rfl:res=.error (3,x.2.fault):=by
    have:=HH.o;rw[mA hw]at this;cases this;rfl
   obtain⟨j,tj,rfl,hj1,hj2⟩:=X5.o.bad hw;have XE:=X5;have GE:=G5;have HJ1:=bV hj1;have HJ2:=bV hj2;have HWE:=bV hw;have hj0:¬(j:Int)<0:=oM;have hj00:(0:Int)<=(j:Int):=oM;clear hj1 hj2 q1 q2 hw
  case' inr.inl=>
   have hii:(i4:Int)<(body.length:Int):=oM;obtain⟨q0,rfl⟩:=X5.o.good hw;obtain⟨tk,htk⟩:∃tk,body[i4]?=some tk:=⟨_,fA hi⟩;have htok:tokS (A9 s body) x.2=some tk:=by
    simp only[tokS,hw];rw[<-q0,<-htk];exact iA hi
   have hfl:Fb (A9 s body) x.2=some {x.2 with stuck:=true,fault:=tk.fr}:=(by simp[Fb,hw,htok]);have hs0:tk.sort≠0:=((HL.o.toks).1 tk (dD htk)).sort;obtain rfl:rt=(tk,{x.2 with stuck:=true,fault:=tk.fr}):=by
    have:=HRT.o;simp[Tw.Au,htok,hs0,hfl]at this;exact this.symm
   obtain rfl:res=.error (3,tk.fr):=by
    have:=HH.o;rw[mA rfl]at this;cases this;rfl
   have HFL:=bV hfl;clear hw q0 htk htok hfl hs0;go_wp2_with fail;refine(Sm X5.o HFL.o).mono ?_;rintro e1 w6 ⟨rfl,hk6,er6,hx6⟩;have GE:=bV (zmg G5.o hk6 oM hz1 (λq hq=>(X5.o.nodes.lt q hq).1));obtain⟨j,tj,rfl,hj1,hj2⟩:=hx6.bad rfl;have XE:=bV hx6;have HJ1:=bV hj1;have HJ2:=bV hj2;have hj0:¬(j:Int)<0:=oM;have hj00:(0:Int)<=(j:Int):=oM;clear hj1 hj2 c1 c6 r0 f0 hx6 hk6;obtain⟨_,c1,_,_,_,_,c6⟩:=XE.o.cells
  case' inr.inr=>
   have hii:¬(i4:Int)<(body.length:Int):=oM;obtain⟨_,rfl⟩:=X5.o.good hw;go_wp2_with fail
  ·obtain rfl:rt=(⟨0,s.size,s.size⟩,x.2):=by
    have:=HRT.o;have htok:tokS (A9 s body) x.2=some ⟨0,s.size,s.size⟩:=by
     simp only[tokS,hw];rw[<-(X5.o.good hw).1,hi];simp
    simp[Tw.Au,htok]at this;exact this.symm
   have hh:=HH.o;have hpk:=HPR.o;dsimp only at hh hpk;rw[hw]at hh hpk;simp only[xA,if_false]at hh hpk;obtain⟨d1,d2,d3,d4,_,_⟩:=D4.o hw;rw[rD,zD]at d2;rw[zD,Nat.zero_add]at d3;have hsz:N4.length=Rf.T.sz x.1:=(by rw[d2,Ak]);have T5:Hid (RT (w4.setCell (aD bt 3) (vI k4)) w.heap.size bt s body ([]++flat (ixF body) (ixT body) x.1 0++[]) (.slice pv body.length cv) nv4 k4 (-1)):=by
    have hn:=X5.o.nodes;refine bV ⟨X5.o.tree,X5.o.toks,?_,hmany,?_⟩
    ·rw[rD,List.append_nil,<-d2];exact hn
    ·rw[rD,List.append_nil,<-d2];simp at d1;omega
   have hSp:=zm0 HL.o hpk;have hGr:=Inl.zld HL.o (by rw[hl];exact hpk);have hWP:=bV (zni HL.o hGr.1);have HGR:=bV hGr.1;have cB:=@Es w.heap.size bt s body (.slice pv body.length cv) nv4 k4 (-1) x.1 [] [] [] 0 rfl hSp (λp hp=>by cases hp) (by simp at d1 ⊢;omega);rw[Nat.zero_add,<-d3]at cB;have CB:=bV (@cB _ _ T5.o (mD _ _ _ _));have HHH:=bV hh;have HSZ:=bV hsz;have hszl:Rf.T.sz x.1<=600:=(by simp at d1;omega);have HK4:=bV d3;have HSP2:=bV hSp;clear hh hpk d1 d2 d3 hSp hGr cB hsz;refine CB.o.mono ?_;rintro e1 w6 ⟨rfl,hg6,hT6⟩;rw[rD,List.append_nil]at hT6;have hFl:=Af (ixF body) (ixT body) x.1 0 [];obtain⟨F,hF⟩:∃F,fill (ixF body) (ixT body) x.1 0 []=F:=⟨_,rfl⟩;rw[hF]at hT6 hFl;have HF:=bV hF;have HFL:=bV hFl;have hFl6:F.length<=600:=oM;have T6:=bV hT6;have G6:Hid (w.grownBy w6 none):=bV ⟨hg6.os.trans G5.o.os,hg6.tape.trans G5.o.tape,hg6.output.trans G5.o.output,kB G5.o.size hg6.size,λq hq _=>(hg6.block q (aB hq G5.o.size) (λe=>by have:=(X5.o.nodes.lt q e.symm).1;omega)).trans (G5.o.block q hq sM)⟩;obtain⟨pn,cn,rfl⟩:∃p c,nv4=.slice p F.length c:=by
    rcases hT6.nodes.2 with⟨e1,e2⟩|⟨g2,cap2,_,e1,_⟩
    ·exact⟨_,_,by rw[e1,e2]⟩
    ·exact⟨_,_,e1⟩
   obtain⟨c0,c1,c2,c3,_⟩:=hT6.cells;clear hT6 hg6 hF hFl r0 f0 X5 G5 CB T5 C4 D4 HT hii;have HNM:Hid (∀y∈F,y.sort=120->y.first<body.length):=bV λy hy hs=>by
    rw[<-HF.o]at hy;obtain⟨sp,h1,h2⟩:=Dt _ _ _ _ _ y hy hs;rw[h2];exact(HSP2.o sp h1).1
   go_wp2_with fail;go_loopg[10,11] F.length (λj av kv wr=>∃i:Nat,j+i=F.length/\kv=vI i/\av=vI (Hj (plc body) (F.take i) (-1))/\Hid (w6.grownBy wr none)/\Hid (RT wr w.heap.size bt s body F (.slice pv body.length cv) (.slice pn F.length cn) k4 (-1)))
   case atStart=>exact⟨0,oM,rfl,rfl,bV ⟨rfl,rfl,rfl,znL _,λ_ _ _=>rfl⟩,T6⟩
   case round=>
    obtain⟨i,hj,rfl,rfl,GR,TR⟩:=hrel;obtain⟨c0',c1',c2',c3',_⟩:=TR.o.cells;clear c0 c1 c2 c3;obtain⟨a,ha⟩:∃a,Hj (plc body) (F.take i) (-1)=a:=⟨_,rfl⟩;rw[ha];have HA:=bV ha;clear ha;by_cases hlt:i<F.length
    ·obtain⟨y,hy⟩:∃y,F[i]?=some y:=⟨_,fA hlt⟩;have hsn:=zeo (pl:=plc body) hy (-1);rw[HA.o]at hsn;have HSN:=bV hsn;have hli:(i:Int)<(F.length:Int):=oM;have cT:prog.cellsOf 276=9:=kR;have cK:prog.cellsOf 273=3:=kR;obtain⟨g,cap,e,d0,d1,d2,d3,d4',d5,d6,d7,d8,_⟩:=TR.o.node hy;cases e;by_cases hx:y.sort=120/\y.binder<0
     ·obtain⟨hx1,hx2⟩:=hx;have hfl:=HNM.o y (dD hy) hx1;obtain⟨tk,htk⟩:∃tk,body[y.first]?=some tk:=⟨_,fA hfl⟩;obtain⟨_,hcell⟩:=Gm TR.o.toks;obtain⟨gt,capt,e,_,_,v2⟩:=hcell _ _ htk;cases e;have hpl:plc body y.first=tk.fr:=(by unfold plc;rw[htk];rfl);have HPL:=bV hpl;have hfi:(y.first:Int)<(body.length:Int):=oM;have s1:(y.sort:Int)=120:=oM;have HX1:=bV hx1;rw[s1]at d0;have v2':=cell_kept v2 (zwA wr (.cells #[vU 120,vI y.a,vI y.b,vI y.c,vI y.first,vI y.last,vI y.name,vI y.binder,.bool false] 276) none) sM;clear hsn htk hcell hpl hx1 hy s1;by_cases hm0:a<0
      ·have hm1:¬(0:Int)<=a:=oM;go_wp2_with fail;go_roundg (gk-1)
       case measure=>omega
       case rel=>
        refine⟨i+1,oM,sM,?_,bV (Ab GR.o (zwA _ _ none)),bV (TR.o.grown (zwA _ _ none))⟩;rw[HSN.o,mA ⟨HX1.o,hx2,.inl hm0⟩,HPL.o]
      ·by_cases hm:(tk.fr:Int)<a
       ·skip;go_wp2_with fail;go_roundg (gk-1)
        case measure=>omega
        case rel=>
         refine⟨i+1,oM,sM,?_,bV (Ab GR.o (zwA _ _ none)),bV (TR.o.grown (zwA _ _ none))⟩;rw[HSN.o,mA ⟨HX1.o,hx2,.inr (by rw[HPL.o];exact hm)⟩,HPL.o]
       ·skip;go_wp2_with fail;go_roundg (gk-1)
        case measure=>omega
        case rel=>
         refine⟨i+1,oM,sM,?_,bV (Ab GR.o (zwA _ _ none)),bV (TR.o.grown (zwA _ _ none))⟩;rw[HSN.o,jA (λh=>by have:=HPL.o;rcases h.2.2 with h|h<;>omega)]
     ·by_cases hx1:y.sort=120
      ·have hx2:¬y.binder<0:=λe=>hx ⟨hx1,e⟩;have s1:(y.sort:Int)=120:=oM;rw[s1]at d0;have HX:=bV hx;clear hx hx1 s1 hy hsn;go_wp2_with fail;go_roundg (gk-1)
       case measure=>omega
       case rel=>
        refine⟨i+1,oM,sM,?_,bV (Ab GR.o (zwA _ _ none)),bV (TR.o.grown (zwA _ _ none))⟩;rw[HSN.o,jA (λh=>HX.o ⟨h.1,h.2.1⟩)]
      ·have s1:¬(y.sort:Int)=120:=oM;have HX:=bV hx;clear hx hx1 hy hsn;go_wp2_with fail;go_roundg (gk-1)
       case measure=>omega
       case rel=>
        refine⟨i+1,oM,sM,?_,bV (Ab GR.o (zwA _ _ none)),bV (TR.o.grown (zwA _ _ none))⟩;rw[HSN.o,jA (λh=>HX.o ⟨h.1,h.2.1⟩)]
    ·have hli:¬(i:Int)<(F.length:Int):=oM;obtain rfl:i=F.length:=oM;have hlf:=HA.o;rw[List.take_length,<-HF.o,Ew (S:=At body) (zm3 HL.o) hWP.o (.inl dZ)]at hlf;have hh:=HHH.o;cases hfr:x.1.freeS []with
     |some p=>
      rw[hfr]at hh;have hh2:res=.error (4,p):=(by simpa using hh.symm);subst hh2;have hap:a=(p:Int):=(by rw[<-hlf];simp only[List.map_nil,hfr,orAt];rfl);subst hap;have hp0:(0:Int)<=(p:Int):=oM;have GE:=bV (Ab G6.o GR.o);clear hlf hh hfr;go_wp2_with fail;go_ret3;exact⟨GE.o,rfl⟩
     |none=>
      rw[hfr]at hh;obtain⟨k,hk,hh⟩:=zbE.1 hh;have hap:a = -1:=(by rw[<-hlf];simp only[List.map_nil,hfr,orAt];rfl);subst hap;obtain⟨MC,hMC,hmk⟩:=zhx F.length oM;have gM:=zwA wr (.cells MC 3) none;have LM:=bV (LAt.made (W:=wr) oM hMC);have TM:=bV (TR.o.grown gM);have GM:=bV (Ab G6.o (Ab GR.o gM));have hz0:wr.heap.size<(wr.alloc (.cells MC 3)).heap.size:=sM;have hwa:=@Et w.heap.size bt s body F (.slice pv body.length cv) (.slice pn F.length cn) (sL wr.heap.size F.length F.length) k4 (-1) (ixF body) (ixT body) (At body) (zm2 HL.o) x.1 0 [] .nil (List.replicate F.length 0) hWP.o hfr (λq y hq=>by rw[HF.o]at hq;rw[Nat.zero_add];exact hq) .nil (λq hq=>by rw[Nat.zero_add,kD,mA (by rw[HFL.o];exact hq)]);obtain⟨r,K',hw1,hw2⟩:=hwa;obtain rfl:k=r:=(by rw[hk]at hw1;cases hw1;rfl);have hwc:=@WRes.wc _ _ _ _ _ _ _ _ _ _ _ _ _ _ _ hw2;rw[Nat.zero_add,<-HK4.o]at hwc;have WCL:=bV (@hwc _ TM.o LM.o);have hkle:=hw2.le;have HH3:=bV hh;obtain⟨_,_,_,c3m,_⟩:=TM.o.cells;clear hMC gM hk hh hfr hlf hw1 hw2 hwc;go_wp2_with fail;refine WCL.o.mono ?_;rintro e1 w8 ⟨rfl,hg8,hL8⟩;have T8:=bV (TM.o.keptI LM.o hg8);have G8:Hid (w.grownBy w8 none):=bV ⟨hg8.os.trans GM.o.os,hg8.tape.trans GM.o.tape,hg8.output.trans GM.o.output,kB GM.o.size hg8.size,λq hq _=>(hg8.block q (aB hq GM.o.size) (by simp[Value.ownBlock];have:=G6.o.size;have:=GR.o.size;omega)).trans (GM.o.block q hq sM)⟩;clear hg8 hL8 hmk;by_cases hbig:2000<k
      ·have hbi:(2000:Int)<(k:Int):=oM;have hr:=HH3.o;rw[mA hbig]at hr;obtain rfl:res=.error (10,0):=(by simpa using hr.symm);clear hr;go_wp2_with fail;go_ret3;exact⟨G8.o,rfl⟩
      ·have hbi:¬(2000:Int)<(k:Int):=oM;have hr:=HH3.o;rw[jA hbig]at hr;obtain rfl:res=.ok x.1:=(by simpa using hr.symm);clear hr;go_wp2_with fail;go_ret3;refine⟨G8.o,bt,rfl,⟨body,.slice pv body.length cv,.slice pn F.length cn,HL.o,?_,HGR.o⟩,hz1⟩
       have:=T8.o;rw[<-HK4.o,HF.o];exact{this with nodes:=Jf this.nodes}
  all_goals
   by_cases hjl:j<body.length
   ·obtain⟨_,hcell⟩:=Gm XE.o.toks;have hj3:body[j]?=some tj:=(by rw[<-HJ1.o];exact(iA hjl).symm);obtain⟨gt,capt,e,_,_,v2⟩:=hcell _ _ hj3;cases e;have hji:(j:Int)<(body.length:Int):=oM;rw[HJ2.o]at v2;have cK:prog.cellsOf 273=3:=kR;clear hj3 hcell;go_wp2_with fail;go_ret3;exact⟨GE.o,rfl⟩
   ·have hji:¬(j:Int)<(body.length:Int):=oM;have hjz:tj.fr=s.size:=by
     have:=HJ1.o;rw[fB oM]at this
     have:=dD this;simp at this;rw[this]
    have HFZ:=bV (HJ2.o.symm.trans hjz);clear hjz;go_wp2_with fail;go_ret3;have hfz:=HFZ.o
    try dsimp only at hfz
    refine⟨GE.o,?_⟩;rw[hfz];rfl
end
end Go.Proofs.YtckhafpejefbbaaGreatDoor
namespace Go.Proofs.YtckhafpejefbbaaGreatDoor.Tw.Rf
section
open Go Go.Proofs.YtckhafpejefbbaaGreatDoor.Tw
variable{l l':List RC}{a b:Nat}{f f0:Nat->Nat}
theorem Ia{l:List RC}:∀ {n k r:Nat},endS n l k=some r->End l k r
 |0,_,_,h=>by simp[endS]at h
 |n+1,k,r,h=>by
  simp only[endS,zbE]at h;obtain⟨c,e,h⟩:=h;cases d:c.link with
  |none=>rw[d]at h;cases h;exact .here e d
  |some j=>rw[d]at h;exact .step e d (Ia h)
def Eq1(l:List RC)(a b:Nat):Prop:=∃r,End l a r/\End l b r
theorem Eq1.trans{c:Nat}(h:Eq1 l a b)(k:Eq1 l b c):Eq1 l a c:=by
 obtain⟨r,d,e⟩:=h;obtain⟨s,g,i⟩:=k;rw[e.unique g]at d;exact⟨s,d,i⟩
theorem Eq1.symm(h:Eq1 l a b):Eq1 l b a:=by obtain⟨r,c,d⟩:=h;exact⟨r,d,c⟩
theorem Eq1.refl(W:Wf l f)(h:a<l.length):Eq1 l a a:=by obtain⟨r,c⟩:=W.end h;exact⟨r,c,c⟩
def Lk(l l':List RC):Prop:=∀(k:Nat) (c:RC) (j:Nat),l[k]?=some c->c.link=some j->l'[k]?=some c
theorem Ws(h:Lk l l')(W:Wf l' f)(i:l.length<=l'.length){r:Nat}(e:End l a r):Eq1 l' a r:=by
 induction e with
 |here hc _=>exact Eq1.refl W (by have:=(zlE.1 hc).1;omega)
 |step hc hk _ ih=>
  obtain⟨g,c,d⟩:=ih;exact⟨g,.step (h _ _ _ hc hk) hk c,d⟩
theorem zj5(h:Lk l l')(W:Wf l' f)(c:l.length<=l'.length)(g:Eq1 l a b):Eq1 l' a b:=by
 obtain⟨r,d,e⟩:=g;exact(Ws h W c d).trans (Ws h W c e).symm
structure Evo(l l':List RC):Prop where
 len:l.length<=l'.length
 link:Lk l l'
 comp:∀(k:Nat) (c:RC),l[k]?=some c->c.comp->∃e d,End l' k e/\l'[e]?=some d/\d.sort=c.sort/\Eq1 l' c.a d.a/\Eq1 l' c.b d.b
theorem Yt{c:RC}(h:c.comp):c.link=none:=by
 unfold RC.link;rw[jA (by rcases h with h|h<;>omega)]
theorem Evo.keep(j:Wf l f0)(W:Wf l' f)(m:l.length<=l'.length)(h:∀i:Nat,i<l.length->l'[i]?=l[i]?):Evo l l' where
 len:=m
 link:=λk c o d _=>by rw[h k (zlE.1 d).1];exact d
 comp:=λk c d g=>by
  have e:l'[k]?=some c:=by rw[h k (zlE.1 d).1];exact d
  have n:=j.parts k c d g;exact⟨k,c,.here e (Yt g),e,rfl,Eq1.refl W oM,Eq1.refl W oM⟩
theorem Evo.refl(W:Wf l f):Evo l l:=Evo.keep W W (znL _) (λ_ _=>rfl)
theorem Evo.trans{o e:List RC}(h:Evo l o)(k:Evo o e)(W:Wf e f):Evo l e where
 len:=kB h.len k.len
 link:=λq c n d j=>k.link q c n (h.link q c n d j) j
 comp:=λq c d m=>by
  obtain⟨D,B,p,r,g,s,t⟩:=h.comp q c d m;obtain⟨E,C,v,w,x,y,z⟩:=k.comp D B r (by unfold RC.comp;rw[g];exact m);obtain⟨F,i,A⟩:=Ws k.link W k.len p;rw[A.unique v]at i;exact⟨E,C,i,w,x.trans g,(zj5 k.link W k.len s).trans y,(zj5 k.link W k.len t).trans z⟩
theorem Wt:∀ {n:Nat} {l:List RC} {f:Nat->Nat} {todo:List (Nat×Nat)} {l':List RC},Wf l f->(∀q∈todo,q.1<l.length/\q.2<l.length)->Fq n l todo=some (l',false)->Evo l l'/\(∃f',Wf l' f')/\l'.length=l.length/\∀q∈todo,Eq1 l' q.1 q.2
 |0,_,_,_,_,_,_,h=>by simp[Fq]at h
 |n+1,l,f,[],l',W,_,h=>by simp[Fq]at h;subst h;exact⟨Evo.refl W,⟨f,W⟩,rfl,λq hq=>by cases hq⟩
 |n+1,l,f,q::todo,l',W,hr,h=>by
  rw[Fq]at h;obtain⟨x,hx,h⟩:=zbE.1 h;obtain⟨y,hy,h⟩:=zbE.1 h;have ex:=Ia hx;have ey:=Ia hy;have hr':∀q∈todo,q.1<l.length/\q.2<l.length:=λq h=>hr q (by simp[h]);split at h
  ·rename_i hxy;subst hxy;obtain⟨h1,⟨f',W'⟩,h2,h3⟩:=Wt W hr' h;refine⟨h1,⟨f',W'⟩,h2,λu hu=>?_⟩;rcases zmC.1 hu with rfl|hu
   ·exact zj5 h1.link W' h1.len ⟨_,ex,ey⟩
   ·exact h3 u hu
  ·rename_i hxy;obtain⟨p,hp,h⟩:=zbE.1 h;obtain⟨r,hr0,h⟩:=zbE.1 h;obtain⟨p',hp',hpl⟩:=ex.root;rw[hp]at hp';cases hp';obtain⟨r',hr0',hrl⟩:=ey.root;rw[hr0]at hr0';cases hr0'
   -- one is put for the other
   have put:∀ {a b:Nat} {pa:RC} {c:RC} {todo1:List (Nat×Nat)},l[a]?=some pa->pa.link=none->End l b b->a≠b->c.link=some b->c.sort=118->Fq n (l.set a c) todo1=some (l',false)->(∀u∈todo1,u.1<l.length/\u.2<l.length)->(∀u∈todo,u∈todo1) ->
     (pa.comp->∃rb,l[b]?=some rb/\rb.sort=pa.sort/\((pa.a,rb.a)∈todo1\/(rb.a,pa.a)∈todo1)/\((pa.b,rb.b)∈todo1\/(rb.b,pa.b)∈todo1)) ->
     Evo l l'/\(∃f',Wf l' f')/\l'.length=l.length/\(∀u∈todo,Eq1 l' u.1 u.2)/\Eq1 l' a b:=by
    intro a b pa c todo1 ha hal hb hab hcl hcs hs h1 h2 h3;obtain⟨f1,W1⟩:=Z9 W ha hal hb hab hcl hcs;obtain⟨g1,⟨f',W'⟩,g2,g3⟩:=Wt W1 (by rw[jB];exact h1) hs;rw[jB]at g2;have get:∀k:Nat,(l.set a c)[k]?=if k=a then some c else l[k]? :=λk=>E6 ha k;have lk:Lk l l':=λk d j hd hj=>by
     refine g1.link k d j ?_ hj;rw[get,jA]
     ·exact hd
     ·intro e;rw[e,ha]at hd;cases hd;rw[hal]at hj;cases hj
    have hax:l'[a]?=some c:=g1.link a c b (by rw[get,mA rfl]) hcl;have hle:l.length<=l'.length:=oM;have hab':Eq1 l' a b:=by
     obtain⟨s,hs⟩:=W'.end (k:=b) (by have:=hb.lt.1;omega);exact⟨s,.step hax hcl hs,hs⟩
    refine⟨⟨hle,lk,λk d hd hc=>?_⟩,⟨f',W'⟩,g2,λu hu=>g3 u (h2 u hu),hab'⟩;by_cases hk:k=a
    ·rw[hk,ha]at hd;cases hd;obtain⟨rb,q1,q2,q3,q4⟩:=h3 hc;obtain⟨e,d,v1,v2,v3,v4,v5⟩:=g1.comp b rb (by rw[get,jA (λe=>hab e.symm)];exact q1) (by unfold RC.comp;rw[q2];exact hc);refine⟨e,d,?_,v2,v3.trans q2,(q3.elim (λh=>g3 _ h) (λh=>(g3 _ h).symm)).trans v4,(q4.elim (λh=>g3 _ h) (λh=>(g3 _ h).symm)).trans v5⟩;rw[hk];exact .step hax hcl v1
    ·exact g1.comp k d (by rw[get,jA hk];exact hd) hc
   have fin:Evo l l'/\(∃f',Wf l' f')/\l'.length=l.length/\(∀u∈todo,Eq1 l' u.1 u.2)/\Eq1 l' x y->Evo l l'/\(∃f',Wf l' f')/\l'.length=l.length/\∀u∈q::todo,Eq1 l' u.1 u.2:=by
    rintro⟨g1,⟨f',W'⟩,g2,g3,g4⟩;refine⟨g1,⟨f',W'⟩,g2,λu hu=>?_⟩;rcases zmC.1 hu with rfl|hu
    ·exact((Ws g1.link W' g1.len ex).trans g4).trans (Ws g1.link W' g1.len ey).symm
    ·exact g3 u hu
   split at h
   ·rename_i hps;refine fin (put hp hpl ey.self hxy (c:={p with fo:=some y}) (by simp[RC.link,hps]) hps h hr' (λu hu=>hu) (λhc=>?_));rcases hc with hc|hc<;>omega
   ·split at h
    ·rename_i hrs;obtain⟨g1,g2,g3,g4,g5⟩:=put hr0 hrl ex.self (λe=>hxy e.symm) (c:={r with fo:=some x}) (by simp[RC.link,hrs]) hrs h hr' (λu hu=>hu) (λhc=>by rcases hc with hc|hc<;>omega);exact fin ⟨g1,g2,g3,g4,g5.symm⟩
    ·split at h
     ·cases h
     ·rename_i hps hrs hne;have hse:p.sort=r.sort:=Classical.byContradiction hne;refine fin (put hp hpl ey.self hxy (c:=⟨118,0,0,some y⟩) rfl rfl h ?_ ?_ ?_)
      ·intro u hu;split at hu
       ·rename_i hc;have pp:=W.parts _ _ hp hc;have pr:=W.parts _ _ hr0 (by unfold RC.comp;rw[<-hse];exact hc);rcases zmC.1 hu with rfl|hu
        ·exact⟨pp.2,pr.2⟩
        ·rcases zmC.1 hu with rfl|hu
         ·exact⟨pp.1,pr.1⟩
         ·exact hr' u hu
       ·exact hr' u hu
      ·intro u hu;split
       ·simp[hu]
       ·exact hu
      ·intro hc;refine⟨r,hr0,hse.symm,?_,?_⟩<;>(rw[mA (show p.sort=62\/p.sort=42 from hc)];simp)
theorem zcc(h:Evo l l')(d:Wf l f0){F:List Nat}(s:∀x∈F,x<l.length){k:Nat}(q:Live l F k):k<l.length/\∀e,End l' k e->Live l' F e:=by
 have p:∀ {k e:Nat},End l' k e->Live l' F k->Live l' F e:=λc=>by
  induction c with
  |here _ _=>exact id
  |step hc hl _ ih=>exact λq=>ih (.link q hc hl)
 induction q with
 |base hx=>exact⟨s _ hx,λe c=>p c (.base hx)⟩
 |link _ hc hl ih=>
  refine⟨(d.link _ _ _ hc hl).1,λe c=>ih.2 e (.step (h.link _ _ _ hc hl) hl c)⟩
 |left _ hc hs ih=>
  refine⟨(d.parts _ _ hc hs).1,λe c=>?_⟩;obtain⟨o,r,g,i,j,⟨t,m,n⟩,_⟩:=h.comp _ _ hc hs;rw[c.unique m];exact p n (.left (ih.2 o g) i (by unfold RC.comp;rw[j];exact hs))
 |right _ hc hs ih=>
  refine⟨(d.parts _ _ hc hs).2,λe c=>?_⟩;obtain⟨o,r,g,i,j,_,⟨t,m,n⟩⟩:=h.comp _ _ hc hs;rw[c.unique m];exact p n (.right (ih.2 o g) i (by unfold RC.comp;rw[j];exact hs))
end
section
open Go Go.Proofs.YtckhafpejefbbaaGreatDoor.Tw
variable{l0 l:List RC}{f:Nat->Nat}{k:Nat}{F:List Nat}
theorem zls(W:Wf l0 f)(d:∀i:Nat,i<l0.length->l[i]?=l0[i]?){e:Nat}(h:End l k e):k<l0.length->End l0 k e:=by
 induction h with
 |here hc hl=>intro a;exact .here (by rw[<-d _ a];exact hc) hl
 |@step k j r c hc hl _ ih=>
  intro a;have b:l0[k]?=some c:=by rw[<-d _ a];exact hc
  exact .step b hl (ih (W.link _ _ _ b hl).1)
def Jk(cp:List (Option Nat)):Nat:=cp.countP (·.isSome)
theorem Rb{cp:List (Option Nat)}{x c:Nat}(h:cp[x]?=some none):Jk (cp.set x (some c))=Jk cp+1:=by
 induction cp generalizing x with
 |nil=>simp at h
 |cons o cp ih=>
  cases x with
  |zero=>simp at h;subst h;simp[Jk]
  |succ x=>
   have:=ih (x:=x) (by simpa using h);simp only[Jk]at this ⊢;rw[zsS,List.countP_cons,List.countP_cons,this];omega
theorem Tt{l0:List RC}{f:Nat->Nat}(W:Wf l0 f)(mk:List Bool)(P Q:Nat->Prop)(g:∀k,P k->k<l0.length)(m:∀k e,P k->End l0 k e->isMk mk e=false->Q e/\∀c,l0[e]?=some c->c.comp->P c.a/\P c.b):
  ∀ {n k:Nat} {l:List RC} {cp:List (Option Nat)} {k':Nat} {l':List RC} {cp':List (Option Nat)},P k->l0.length<=l.length->(∀i:Nat,i<l0.length->l[i]?=l0[i]?)->Hr n mk k l cp=some (k',l',cp') ->
   l.length<=l'.length/\(∀i:Nat,i<l0.length->l'[i]?=l0[i]?)/\(∀r c,cp'[r]?=some (some c)->(∃c,cp[r]?=some (some c))\/Q r)/\l'.length+Jk cp=l.length+Jk cp'/\cp'.length=cp.length
 |0,_,_,_,_,_,_,_,_,_,h=>by simp[Hr]at h
 |n+1,k,l,cp,k',l',cp',hk,hl,hp,h=>by
  rw[Hr]at h;obtain⟨e,I,h⟩:=zbE.1 h;have w:=zls W hp (Ia I) (g k hk);split at h
  ·cases h;exact⟨znL _,hp,λr c h=>.inl ⟨c,h⟩,rfl,rfl⟩
  ·rename_i J;obtain⟨V,X⟩:=m k e hk w (by simpa using J);obtain⟨S,o,h⟩:=zbE.1 h;cases S with
   |some c=>
    cases h;exact⟨znL _,hp,λr c h=>.inl ⟨c,h⟩,rfl,rfl⟩
   |none=>
    obtain⟨y,N,h⟩:=zbE.1 h;have O:l0[e]?=some y:=(by rw[<-hp _ w.lt.2];exact N);have p:∀(r c:Nat),(cp.set e (some l.length))[r]?=some (some c)->(∃c,cp[r]?=some (some c))\/Q r:=λr c h=>by
     by_cases x:r=e
     ·subst x;exact .inr V
     ·rw[qD (λh=>x h.symm)]at h;exact .inl ⟨c,h⟩
    have j:∀i:Nat,i<l0.length->(l++[(⟨118,0,0,none⟩:RC)])[i]?=l0[i]? :=λi a=>(by rw[iA oM];exact hp i a);split at h
    ·cases h;exact⟨sM,j,p,by rw[Rb o];simp;omega,sM⟩
    ·split at h
     ·rename_i M;obtain⟨r,L,h⟩:=zbE.1 h;obtain⟨s,R,h⟩:=zbE.1 h;cases h;obtain⟨T,U⟩:=X y O M;obtain⟨t,z,A,v,B⟩:=Tt W mk P Q g m T (by simp;omega) j (k':=r.1) (l':=r.2.1) (cp':=r.2.2) L;obtain⟨Y,C,D,Z,E⟩:=Tt W mk P Q g m U (by simp at t;omega) z (k':=s.1) (l':=s.2.1) (cp':=s.2.2) R;rw[Rb o]at v;simp at t v;refine⟨by rw[jB];omega,λi a=>by rw[qD oM];exact C i a,λq c h=>?_,by rw[jB];omega,by rw[E,B,jB]⟩;rcases D q c h with⟨G,b⟩|b
      ·rcases A q G b with⟨H,d⟩|d
       ·exact p q H d
       ·exact .inr d
      ·exact .inr b
     ·cases h;exact⟨sM,λi a=>by rw[qD oM];exact j i a,p,by rw[Rb o];simp;omega,sM⟩
theorem zcd(n:Nat):Jk (List.replicate n none)=0:=by simp[Jk,List.countP_replicate]
theorem Sq:∀ {cp:List (Option Nat)} {d lo hi:Nat},(∀r c,cp[r]?=some (some c)->lo<=d+r/\d+r<hi)->Jk cp<=hi-max lo d
 |[],_,_,_,_=>by simp[Jk]
 |o::cp,d,lo,hi,h=>by
  have a:=Sq (cp:=cp) (d:=d+1) (lo:=lo) (hi:=hi) (λr c b=>by have:=h (r+1) c (by simpa using b);omega);cases o with
  |none=>simp only[Jk,List.countP_cons]at a ⊢;simp;omega
  |some c=>
   have:=h 0 c rfl;simp only[Jk,List.countP_cons]at a ⊢;simp;omega
theorem zce{mk e:List Bool}(K:KOk l F mk e)(M:McT l [] e)(h:Live l F k):∀r,End l k r->e[r]?=some true:=by
 have i:∀ {k:Nat} {c:RC},(∀r,End l k r->e[r]?=some true)->l[k]?=some c->c.comp->∀j,j=c.a\/j=c.b->∀r,End l j r->e[r]?=some true:=λb a d j m r g=>by
  rcases M _ _ (b _ (.here a (Yt d))) a d j m r g with h|⟨q,n,_⟩
  ·exact h
  ·cases n
 induction h with
 |base hx=>exact K.here _ hx
 |link _ a hl b=>exact λr g=>b r (.step a hl g)
 |left _ a d b=>exact i b a d _ (.inl rfl)
 |right _ a d b=>exact i b a d _ (.inr rfl)
structure DefB(l:List RC)(r:Nat)(F:List Nat)(l0 l1:List RC):Prop where
 wf0:∃f,Wf l0 f
 wf1:∃f,Wf l1 f
 fixes:∀x∈F,x<l0.length
 lt:r<l1.length
 evo0:Evo l0 l1
 evo1:Evo l1 l
 cl0:Cl (Dead l0 F) l1
 nr:¬Dead l0 F r
 dead:∀k,Dead l1 F k->l[k]?=l1[k]?
theorem zj6(W:Wf l f){r:Nat}{b:List RC}(h:DefB l r F l0 b):∃C,∀n,C<=n->∀k' l',Au n F r l=some (k',l')->l'.length<=l.length+(b.length-l0.length)/\l.length<=l'.length/\∀i:Nat,i<l.length->l'[i]?=l[i]? :=by
 obtain⟨f0,H⟩:=h.wf0;obtain⟨f1,x⟩:=h.wf1;have a1:=h.evo0.len;have a2:=h.evo1.len;obtain⟨C,mk,O,K,M⟩:=Q6 W (ks:=F) (mk:=List.replicate l.length false) sM (λk a=>by have:=h.fixes k a;omega) (λp c s=>by rw[kD]at s;split at s<;>simp at s);refine⟨C,λn B k' l' v=>?_⟩;unfold Au at v;rw[O n B,zbS]at v;obtain⟨w,U,v⟩:=zbE.1 v;cases v;have Y:∀ {k e:Nat},End l k e->isMk mk e=false->k<b.length->¬Dead l0 F k->Dead b F e/\¬Dead l0 F e:=λq t=>by
  have y:∀ {k:Nat},End l k _->k<b.length->Dead b F k:=λ{k} a A=>⟨A,λg=>by
   have P:=(zcc h.evo1 x (λZ X=>by have:=h.fixes Z X;omega) g).2 _ a;have Q:=zce K M P _ a.self;rw[Km.2 Q]at t;cases t⟩
  induction q with
  |here j g=>exact λa o=>⟨y (.here j g) a,o⟩
  |step j g q ih=>
   intro a o;have S:=y (.step j g q) a;have m:b[_]?=some _:=(h.dead _ S).symm.trans j;exact ih t y (x.link _ _ _ m g).1 ((h.cl0 _ _ m o).1 _ g)
 obtain⟨I,J,L,N,a5⟩:=Tt W mk (λk=>k<b.length/\¬Dead l0 F k) (λe=>l0.length<=e/\e<b.length) (λk a=>by have:=a.1;omega) (λk e a q t=>by
  obtain⟨z,D⟩:=Y q t a.1 a.2;obtain⟨c,j,R⟩:=q.root;have m:b[e]?=some c:=(h.dead _ z).symm.trans j;refine⟨⟨?_,z.1⟩,λa0 E G=>?_⟩
  ·rcases yB e l0.length with A|T
   ·exfalso;have g:Live l0 F e:=Classical.byContradiction λB=>D ⟨A,B⟩;exact z.2 ((zcc h.evo0 H h.fixes g).2 _ (.here m R))
   ·exact T
  ·rw[j]at E;cases E;have s:=x.parts _ _ m G;have o:=(h.cl0 _ _ m D).2 G;exact⟨⟨s.1,o.1⟩,s.2,o.2⟩) ⟨h.lt,h.nr⟩ (znL _) (λ_ _=>rfl) (k':=w.1) (l':=w.2.1) (cp':=w.2.2) U
 rw[zcd]at N
 have:=Sq (cp:=w.2.2) (d:=0) (lo:=l0.length) (hi:=b.length) (λr c V=>by
  rcases L r c V with⟨c,h⟩|h
  ·rw[kD]at h;split at h<;>simp at h
  ·omega)
 exact⟨oM,I,J⟩
end
section
open Go Go.Proofs.YtckhafpejefbbaaGreatDoor.Tw
variable{B:Nat}{e:REn}{we:WEn}{s:RS}
structure DB(G:List Nat)(l:List RC)(r:Nat)(F:List Nat)(l0 l1:List RC):Prop extends DefB l r F l0 l1 where
 cl1:Cl (Dead l1 F) l
 apart:∀x∈G,¬Dead l1 F x
def EB(B:Nat)(G:List Nat)(l:List RC):REn->WEn->Prop
 |.nil,.nil=>True
 |.fix x _ o,.cons y k we=>x=y/\k=1/\EB B G l o we
 |.dfn x r _ o,.cons y k we=>x=y/\1<=k/\(∃a b,DB G l r o.fixes a b/\b.length<=a.length+B*k)/\EB B G l o we
 |_,_=>False
def Fr(G:List Nat)(l l':List RC):Prop:=∀D:Nat->Prop,Cl D l->(∀x∈G,¬D x)->(∀k,D k->k<l.length)->(∀k,D k->l'[k]?=l[k]?)/\Cl D l'
theorem EB.step{B:Nat}{G:List Nat}{l l':List RC}{f:Nat->Nat}(W:Wf l' f)(ev:Evo l l')(fr:Fr G l l'):∀ {e:REn} {we:WEn},EB B G l e we->EB B G l' e we
 |.nil,.nil,_=>trivial
 |.fix _ _ o,.cons _ _ we,h=>⟨h.1,h.2.1,EB.step W ev fr (e:=o) (we:=we) h.2.2⟩
 |.dfn _ r _ o,.cons _ _ we,h=>by
  obtain⟨g,i,⟨n,p,d,j⟩,m⟩:=h;obtain⟨b,c⟩:=fr _ d.cl1 d.apart (λk a=>by have:=a.1;have:=d.evo1.len;omega);exact⟨g,i,⟨n,p,{d with evo1:=d.evo1.trans ev W,dead:=λk a=>(b k a).trans (d.dead k a),cl1:=c},j⟩,EB.step W ev fr (e:=o) (we:=we) m⟩
theorem EB.more{B c:Nat}{G f:List Nat}{l:List RC}(a:B<=c)(b:∀x∈f,x∈G\/l.length<=x):∀ {e:REn} {we:WEn},EB B G l e we->EB c f l e we
 |.nil,.nil,_=>trivial
 |.fix _ _ o,.cons _ _ we,h=>⟨h.1,h.2.1,EB.more a b (e:=o) (we:=we) h.2.2⟩
 |.dfn _ r _ o,.cons _ k we,h=>by
  obtain⟨i,j,⟨p,q,d,t⟩,m⟩:=h;refine⟨i,j,⟨p,q,{d with apart:=λx n g=>(b x n).elim (λh=>d.apart x h g) (λh=>by have:=g.1;have:=d.evo1.len;omega)},?_⟩,EB.more a b (e:=o) (we:=we) m⟩
  have:=fD k a;omega
theorem EB.look{B:Nat}{G:List Nat}{l:List RC}{x:List UInt8}:∀ {e:REn} {we:WEn},EB B G l e we->(∀r,e.look x=some (.inl r)->we.look x=some 1)/\∀r t o,e.look x=some (.inr (r,t,o))->∃k b c,we.look x=some k/\1<=k/\DB G l r o.fixes b c/\c.length<=b.length+B*k
 |.nil,.nil,_=>⟨λ_ h=>by simp[REn.look]at h,λ_ _ _ h=>by simp[REn.look]at h⟩
 |.fix n r o,.cons y k we,h=>by
  obtain⟨rfl,rfl,d⟩:=h;have f:=EB.look (x:=x) (e:=o) (we:=we) d;simp only[REn.look,WEn.look];split
  ·exact⟨λ_ _=>rfl,λ_ _ _ a=>by simp at a⟩
  ·exact f
 |.dfn n r t o,.cons y k we,h=>by
  obtain⟨rfl,i,⟨b,c,g,d⟩,j⟩:=h;have f:=EB.look (x:=x) (e:=o) (we:=we) j;simp only[REn.look,WEn.look];split
  ·exact⟨λ_ a=>by simp at a,λp q m a=>by simp at a;obtain⟨rfl,rfl,rfl⟩:=a;exact⟨k,b,c,rfl,i,g,d⟩⟩
  ·exact f
structure Inv(B:Nat)(e:REn)(we:WEn)(s:RS):Prop where
 wf:∃f,Wf s.l f
 ne:s.bad=true->0<s.l.length
 ok:s.bad=false->EOk e.fixes s.l e/\EB B e.fixes s.l e we
theorem Inv.next{b:RS}{J:TEn->Ty->Prop}{r:Nat}(h:Inv B e we s)(R:ROk J e s b r)(ev:b.bad=false->Evo s.l b.l):Inv B e we b where
 wf:=R.wf
 ne:=λ_=>by have:=R.lt;omega
 ok:=λa=>by
  obtain⟨g,W⟩:=R.wf;obtain⟨c,d⟩:=h.ok (R.bad a);exact⟨c.grow (R.grow a) (λx f=>.inl f),d.step W (ev a) (R.grow a).frame⟩
def RL(t:T):Prop:=∀(B:Nat) (e:REn) (we:WEn) (w:Nat),4<=B->t.freeS e.names=none->Ae t we=some w->w<=2000->(∀s,Inv B e we s->s.bad=false->1<=w/\∀b r a,(∀n,b<=n->rOf n t e s=some (r,a))->a.l.length<=s.l.length+(B+t.recs)*w/\(a.bad=false->Evo s.l a.l))
theorem RL.run{t:T}(h:RL t){w:Nat}(l:4<=B)(j:t.freeS e.names=none)(o:Ae t we=some w)(m:w<=2000)(I:Inv B e we s):
  ∃c r a,(∀n,c<=n->rOf n t e s=some (r,a))/\ROk (Typ t) e s a r/\a.l.length<=s.l.length+(B+t.recs)*w/\(a.bad=false->Evo s.l a.l)/\Inv B e we a/\(s.bad=false->1<=w):=by
 obtain⟨k,W⟩:=I.wf;obtain⟨c,r,a,g,R⟩:=Da t e j s k W I.ne (λb=>(I.ok b).1);have low:=R.low;cases b:s.bad with
 |true=>
  have d:a=s:=by
   have:=g c (znL _);cases t<;>(simp only[rOf,b,if_true,zsI,zpI]at this;exact this.2.symm)
  subst d;exact⟨c,r,a,g,R,Nat.le_add_right _ _,λh=>(by rw[b]at h;cases h),I.next R (λh=>(by rw[b]at h;cases h)),λh=>(by cases h)⟩
 |false=>
  obtain⟨d,f⟩:=h B e we w l j o m s I b;obtain⟨f,i⟩:=f c r a g;exact⟨c,r,a,g,R,f,i,I.next R i,λ_=>d⟩
theorem Ib(l:List RC)(c:RC):∀i:Nat,i<l.length->(l++[c])[i]?=l[i]? :=λ_ a=>iA a
theorem zlt(fr to:Nat)(x:List UInt8):RL (.name fr to x):=by
 intro B e we P U b j V s I h;obtain⟨C,W⟩:=I.wf;obtain⟨E,F⟩:=I.ok h;have G:e.names.contains x=true:=by
  simp only[T.freeS]at b;split at b
  ·assumption
  ·cases b
 obtain⟨q,d⟩:=Ng G;simp only[Ae,zbE,zsI]at j;obtain⟨k,c,j⟩:=j;obtain⟨r,t⟩:=F.look (x:=x);cases q with
 |inl l=>
  rw[r l d]at c;cases c;refine⟨oM,λf M N g=>?_⟩;have a:=g f (znL _);simp only[rOf,h,xA,if_false,useS,d,zsI,zpI]at a;rw[<-a.2];exact⟨Nat.le_add_right _ _,λ_=>Evo.refl W⟩
 |inr q=>
  obtain⟨l,O,L⟩:=q;obtain⟨X,Y,Z,v,w,y,Q⟩:=t l O L d;rw[v]at c;cases c;obtain rfl:k=P:=oM;refine⟨w,λf M N g=>?_⟩;obtain⟨n,J⟩:=zj6 W y.toDefB;obtain⟨o,r2,s2,D,p⟩:=Da (.name fr to x) e b s C W I.ne (λ_=>E);have a:=g (f+n+o) oM;have i:=D (f+n+o) oM;simp only at i;rw[a]at i;cases i;simp only[rOf,h,xA,if_false,useS,d]at a;obtain⟨q,H,a⟩:=zbE.1 a;simp only[zsI,zpI]at a;obtain⟨R,z,A⟩:=J _ oM q.1 q.2 H;obtain⟨S,m⟩:=p.wf;rw[<-a.2]at m ⊢;refine⟨?_,λ_=>Evo.keep W m z A⟩;have:B*k<=(B+T.recs (.name fr to x))*k:=fD _ oM;simp only at *;omega
end
section
open Go Go.Proofs.YtckhafpejefbbaaGreatDoor.Tw
variable{t l r:T}{a b B p L0 L1 fr to:Nat}
theorem RL.mk(h:∀(B:Nat) (e:REn) (we:WEn) (w:Nat),4<=B->t.freeS e.names=none->Ae t we=some w->w<=2000->∀s,Inv B e we s->s.bad=false->1<=w/\∃N,∀n r c,N<=n->(∃f,Wf c.l f)->rOf n t e s=some (r,c)->c.l.length<=s.l.length+(B+t.recs)*w/\(c.bad=false->Evo s.l c.l)):RL t:=by
 intro B e we w z i C A s I g;obtain⟨x,N,y⟩:=h B e we w z i C A s I g;refine⟨x,λk r c q=>?_⟩;obtain⟨f,W⟩:=I.wf;obtain⟨m,D,E,v,o⟩:=Da t e i s f W I.ne (λ_=>(I.ok g).1);have j:=q (k+N+m) oM;have d:=v (k+N+m) oM;simp only at d;rw[j]at d;cases d;exact y _ r c oM o.wf j
theorem Pv{n:Nat}{s c:RS}{f:Nat->Nat}(W:Wf s.l f)(i:a<s.l.length)(j:b<s.l.length)(h:oneS n a b s=some c)(e:c.bad=false):Evo s.l c.l:=by
 unfold oneS at h;obtain⟨r,d,h⟩:=zbE.1 h;cases h;simp only[Bool.or_eq_false_iff]at e;have g:r=(r.1,false):=by rw[<-e.2]
 rw[g]at d;exact(Wt W (by simp[i,j]) d).1
theorem ar1(c:L1<=L0+(B+p)*a):L1+B<=L0+(B+p)*(1+a):=by
 rw[Nat.mul_add,Nat.mul_one];omega
theorem ar2{q L2:Nat}(e:L1<=L0+(B+p)*a)(f:L2<=L1+(B+q)*b):L2+B<=L0+(B+(p+q))*(1+a+b):=by
 have c:=fD a (show B+p<=B+(p+q) by omega);have d:=fD b (show B+q<=B+(p+q) by omega);rw[Nat.mul_add,Nat.mul_add,Nat.mul_one];omega
theorem zf0{c:RC}(h:c.sort=118\/c.sort=105\/c.sort=98):¬c.comp:=λk=>by
 rcases k with k|k<;>omega
theorem zcf(c:RC)(i:∀n e s,s.bad=false->rOf n t e s=some (s.l.length,s.put c))(j:∀we,Ae t we=some 1):RL t:=by
 refine .mk λB e we x o q d v s I g=>?_;rw[j]at d;cases d;refine⟨znL _,0,λn r w _ ⟨m,f⟩ h=>?_⟩;rw[i n e s g]at h;cases h;obtain⟨k,W⟩:=I.wf;exact⟨by simp only[RS.put,eA,wB];omega,λ_=>Evo.keep W f (by simp[RS.put]) (Ib _ _)⟩
theorem zlu(fr to:Nat)(b:Bool):RL (.side fr to b):=by
 refine .mk λB g x w k m d n s I e=>?_;simp only[Ae]at d;cases d;refine⟨znL _,0,λq r v _ ⟨j,c⟩ h=>?_⟩;simp only[rOf,e,xA,if_false,zsI,zpI]at h;rw[<-h.2]at c ⊢;obtain⟨i,W⟩:=I.wf;refine⟨by simp only[RS.put,eA,wB];omega,λ_=>Evo.keep W c (by simp[RS.put]) (λo f=>?_)⟩;simp only[RS.put,wA];exact iA f
theorem zep{i:T}(h:RL i):RL (.bracket fr to i):=by
 refine .mk λB z H w g m d A E I k=>?_;simp only[Ae,zbE,zsI]at d;obtain⟨a,j,d⟩:=d;obtain rfl:1+a=w:=oM;obtain⟨s,D,G,f,x,o,e,v,C⟩:=h.run g m j oM I;refine⟨oM,s,λq r F n y c=>?_⟩;simp only[rOf,k,xA,if_false]at c;rw[f q n]at c;cases c
 have:=ar1 o;simp only[T.recs];exact⟨oM,e⟩
theorem zlv(y:RL l)(z:RL r):RL (.pair fr to l r):=by
 refine .mk λB O we M f E d Q Z I C=>?_;simp only[Ae,zbE,zsI]at d;obtain⟨a,A,b,D,d⟩:=d;obtain rfl:1+a+b=M:=oM;obtain⟨q,s⟩:=Dx E;obtain⟨H,X,s1,v,N,F,m,i,S⟩:=y.run f q A oM I;obtain⟨J,Y,L,w,k,G,o,j,U⟩:=z.run f s D oM i;obtain⟨W,e⟩:=j.wf;refine⟨oM,H+J,λn V a0 R ⟨P,c⟩ h=>?_⟩;simp only[rOf,C,xA,if_false,v n oM,w n oM,zbS,zsI,zpI]at h;rw[<-h.2]at c ⊢
 have:=ar2 F G;refine⟨by simp only[RS.put,eA,wB,T.recs];omega,λx=>?_⟩;have g:L.bad=false:=x;exact((m (k.bad g)).trans (o g) e).trans (Evo.keep e c (by simp[RS.put]) (Ib _ _)) c
theorem zlw(h1:RL l)(h2:RL r):RL (.call fr to l r):=by
 refine .mk λB e we w hB hf hw hl s I hb=>?_;simp only[Ae,zbE,zsI]at hw;obtain⟨a,ha,b,hb',hw⟩:=hw;obtain rfl:1+a+b=w:=oM;obtain⟨f1,f2⟩:=Dx hf;obtain⟨n1,r1,s1,g1,R1,len1,ev1,I1,p1⟩:=h1.run hB f1 ha oM I;obtain⟨n2,r2,s2,g2,R2,len2,ev2,I2,p2⟩:=h2.run hB f2 hb' oM I1;obtain⟨q2,W2⟩:=I2.wf;have W3:=Ff W2 (c:=⟨118,0,0,none⟩) rfl sM (λh=>by rcases h with h|h<;>cases h);have l2:=R2.lt;have low2:=R2.low;have l1:=R1.lt;have W4:=Ff W3 (c:=⟨62,r2,s2.l.length,none⟩) rfl sM (λ_=>by simp;omega);obtain⟨n3,s3,g3,O⟩:=Fm (s:=(s2.put ⟨118,0,0,none⟩).put ⟨62,r2,s2.l.length,none⟩) W4 (a:=r1) (b:=s2.l.length+1) (by simp[RS.put];omega) (by simp[RS.put]);refine⟨oM,n1+n2+n3,λn q s' hn ⟨f',W'⟩ hr=>?_⟩;have g3n:=g3 n oM;simp only[rOf,hb,xA,if_false,g1 n oM,g2 n oM,g3n,zbS,zsI,zpI]at hr;rw[<-hr.2]at W' ⊢
 have:=ar2 len1 len2;have ol:=O.len;simp only[RS.put,eA,wB]at ol;refine⟨by simp only[T.recs];omega,λh=>?_⟩;have hb2:s2.bad=false:=O.bad h;refine(((ev1 (R2.bad hb2)).trans (ev2 hb2) W2).trans (Evo.keep W2 W4 sM (λi hi=>?_)) W4).trans (Pv W4 (by simp[RS.put];omega) (by simp[RS.put]) g3n h) W';rw[wA];exact iA hi
theorem zhy{sg:Int}(h1:RL l)(h2:RL r):RL (.binary fr to sg l r):=by
 refine .mk λB e we w hB hf hw hl s I hb=>?_;simp only[Ae,zbE,zsI]at hw;obtain⟨a,ha,b,hb',hw⟩:=hw;obtain rfl:1+a+b=w:=oM;obtain⟨f1,f2⟩:=Dx hf;obtain⟨n1,r1,s1,g1,R1,len1,ev1,I1,p1⟩:=h1.run hB f1 ha oM I;obtain⟨n2,r2,s2,g2,R2,len2,ev2,I2,p2⟩:=h2.run hB f2 hb' oM I1;obtain⟨q2,W2⟩:=I2.wf;have l2:=R2.lt;have low2:=R2.low;have l1:=R1.lt;have W3:=Ff W2 (c:=⟨105,0,0,none⟩) rfl sM (λh=>by rcases h with h|h<;>cases h);obtain⟨n3,s3,g3,O3⟩:=Fm (s:=s2.put ⟨105,0,0,none⟩) W3 (a:=r1) (b:=s2.l.length) (by simp[RS.put];omega) (by simp[RS.put]);obtain⟨q3,W3'⟩:=O3.wf;have ol3:=O3.len;simp only[RS.put,eA,wB]at ol3;obtain⟨n4,s4,g4,O4⟩:=Fm (s:=s3) W3' (a:=r2) (b:=s2.l.length) oM oM;obtain⟨q4,W4⟩:=O4.wf;have ol4:=O4.len
 have:=ar2 len1 len2;refine⟨oM,n1+n2+n3+n4,λn q s' hn ⟨f',W'⟩ hr=>?_⟩;have g3n:=g3 n oM;have g4n:=g4 n oM;simp only[rOf,hb,xA,if_false,g1 n oM,g2 n oM,g3n,g4n,zbS]at hr;have ev4:s4.bad=false->Evo s.l s4.l:=λh=>by
  have hb3:=O4.bad h;have hb2:s2.bad=false:=O3.bad hb3;exact((((ev1 (R2.bad hb2)).trans (ev2 hb2) W2).trans (Evo.keep W2 W3 sM (Ib _ _)) W3).trans (Pv W3 (by simp[RS.put];omega) (by simp[RS.put]) g3n hb3) W3').trans (Pv W3' oM oM g4n h) W4
 split at hr
 ·simp only[zsI,zpI]at hr;rw[<-hr.2]at W' ⊢;exact⟨by simp only[RS.put,eA,wB,T.recs];omega,λh=>(ev4 h).trans (Evo.keep W4 W' (by simp[RS.put]) (Ib _ _)) W'⟩
 ·simp only[zsI,zpI]at hr;rw[<-hr.2];exact⟨by simp only[T.recs];omega,ev4⟩
end
section
open Go Go.Proofs.YtckhafpejefbbaaGreatDoor.Tw
variable{fr to B bat:Nat}{t b d:T}{bn:List UInt8}
theorem zeq(G:List Nat)(l:List RC){c:RC}(g:c.fo=none)(f:¬c.comp):Fr G l (l++[c]):=λ_ a _ e=>⟨λk i=>iA (e k i),Gr a g (λh=>absurd h f)⟩
theorem zlx{c g:T}(h0:RL c)(h1:RL t)(h2:RL g):RL (.cond fr to c t g):=by
 refine .mk λB e we w hB hf hw hl s I hb=>?_;simp only[Ae,zbE,zsI]at hw;obtain⟨a,ha,b,hb',d,hd,hw⟩:=hw;obtain rfl:1+a+b+d=w:=oM;obtain⟨f1,f3⟩:=Dx hf;obtain⟨f1,f2⟩:=Dx f1;obtain⟨n1,r1,s1,g1,R1,len1,ev1,I1,p1⟩:=h0.run hB f1 ha oM I;obtain⟨q1,W1⟩:=I1.wf;have lt1:=R1.lt;have low1:=R1.low;have W2:=Ff W1 (c:=⟨98,0,0,none⟩) rfl sM (λh=>by rcases h with h|h<;>cases h);obtain⟨n2,s2,g2,O⟩:=Fm (s:=s1.put ⟨98,0,0,none⟩) W2 (a:=r1) (b:=s1.l.length) (by simp[RS.put];omega) (by simp[RS.put]);obtain⟨q2,W2'⟩:=O.wf;have ol:=O.len;simp only[RS.put,eA,wB]at ol;have ev2:∀n,n2<=n->s2.bad=false->Evo s.l s2.l:=λn hn h=>by
  have hb1:s1.bad=false:=O.bad h;exact(((ev1 hb1).trans (Evo.keep W1 W2 sM (Ib _ _)) W2).trans (Pv W2 (by simp[RS.put];omega) (by simp[RS.put]) (g2 n hn) h) W2')
 have gr:s2.bad=false->Grow e.fixes s.l s2.l:=λh=>by
  have hb1:s1.bad=false:=O.bad h;refine⟨oM,λv hv=>?_,λD d1 d2 d3=>?_⟩
  ·exact(R1.sound hb1 v (Dm.1 (O.sound h v hv).1).1).1
  ·obtain⟨a1,a2,a3⟩:=R1.frame hb1 D d1 d2 d3;have a4:Cl D (s1.l++[⟨98,0,0,none⟩]):=Gr a2 rfl (λh=>by rcases h with h|h<;>cases h);obtain⟨b1,b2⟩:=O.frame D a4 a3 (λhd=>by have:=d3 _ hd;omega);refine⟨λk hk=>(b1 k hk).trans ?_,b2⟩
   have:=d3 k hk;exact(iA oM).trans (a1 k hk)
 have I2:Inv B e we s2:=⟨⟨q2,W2'⟩,λ_=>oM,λh=>⟨(I.ok hb).1.grow (gr h) (λx hx=>.inl hx),(I.ok hb).2.step W2' (ev2 n2 (znL _) h) (gr h).frame⟩⟩;obtain⟨n3,r3,s3,g3,R3,len3,ev3,I3,p3⟩:=h1.run hB f2 hb' oM I2;obtain⟨n4,r4,s4,g4,R4,len4,ev4,I4,p4⟩:=h2.run hB f3 hd oM I3;obtain⟨q3,W3⟩:=I3.wf;obtain⟨q4,W4⟩:=I4.wf;have lt3:=R3.lt;have lt4:=R4.lt;have low4:=R4.low;obtain⟨n5,s5,g5,O5⟩:=Fm (s:=s4) W4 (a:=r3) (b:=r4) oM oM;have ol5:=O5.len;refine⟨oM,n1+n2+n3+n4+n5,λn q s' hn ⟨f',W'⟩ hr=>?_⟩;have g5n:=g5 n oM;simp only[rOf,hb,xA,if_false,g1 n oM,g2 n oM,g3 n oM,g4 n oM,g5n,zbS,zsI,zpI]at hr;rw[<-hr.2]at W' ⊢;refine⟨?_,λh=>?_⟩
 ·have e1:=fD a (show B+c.recs<=B+(c.recs+t.recs+g.recs) by omega);have e2:=fD b (show B+t.recs<=B+(c.recs+t.recs+g.recs) by omega);have e3:=fD d (show B+g.recs<=B+(c.recs+t.recs+g.recs) by omega);simp only[T.recs];rw[Nat.mul_add,Nat.mul_add,Nat.mul_add,Nat.mul_one];omega
 ·have hb4:=O5.bad h;have hb3:=R4.bad hb4;have hb2:=R3.bad hb3;exact((((ev2 n oM hb2).trans (ev3 hb3) W3).trans (ev4 hb4) W4).trans (Pv W4 oM oM g5n h) W')
theorem zfo{e:REn}{we:WEn}{s:RS}(I:Inv B e we s)(n:s.bad=false)(bn:List UInt8):Inv B (.fix bn s.l.length e) (.cons bn 1 we) (s.put ⟨118,0,0,none⟩):=by
 obtain⟨i,W⟩:=I.wf;have g:¬(⟨118,0,0,none⟩:RC).comp:=zf0 (.inl rfl);have f:=Ff W (c:=⟨118,0,0,none⟩) rfl sM (λk=>absurd k g);have j:Grow e.fixes s.l (s.l++[⟨118,0,0,none⟩]):=⟨sM,λv o=>(Dm.1 o).1,zeq _ _ rfl g⟩;have h:∀x∈(REn.fix bn s.l.length e).fixes,x∈e.fixes\/s.l.length<=x:=λx a=>by
  rcases zmA.1 a with a|a
  ·exact .inl a
  ·simp at a;right;omega
 obtain⟨l,m⟩:=I.ok n;refine⟨⟨i,f⟩,λ_=>by simp[RS.put],λ_=>⟨⟨by simp[RS.put],(l.more h).grow j (λx a=>.inl (zmA.2 (.inl a)))⟩,rfl,rfl,?_⟩⟩;exact(m.more (znL _) h).step f (Evo.keep W f sM (Ib _ _)) (zeq _ _ rfl g)
theorem znj(h:RL b):RL (.fn fr to bn bat b):=by
 refine .mk λB e P A q s c F z I i=>?_;simp only[Ae,zbE,zsI]at c;obtain⟨n,r,c⟩:=c;obtain rfl:1+n=A:=oM;obtain⟨D,W⟩:=I.wf;have f:=zfo I i bn;obtain⟨H,m⟩:=f.wf;obtain⟨y,M,O,p,C,k,o,l,G⟩:=h.run (e:=.fix bn z.l.length e) q s r oM f;obtain⟨J,g⟩:=l.wf;refine⟨oM,y,λx L N w ⟨E,a⟩ j=>?_⟩;simp only[rOf,i,xA,if_false,p x w,zbS,zsI,zpI]at j;rw[<-j.2]at a ⊢;simp only[RS.put,eA,wB]at k
 have:=ar1 k;refine⟨by simp only[RS.put,eA,wB,T.recs];omega,λv=>?_⟩;exact((Evo.keep W m (by simp[RS.put]) (Ib _ _)).trans (o v) g).trans (Evo.keep g a (by simp[RS.put]) (Ib _ _)) a
theorem ar3{p q a c L0 L1 L2 x:Nat}(g:L1<=L0+x+(B+p)*a)(e:L2<=L1+(B+p+x+q)*c):L2<=L0+(B+(x+p+q))*(1+(a+c)):=by
 have f:=fD a (show B+p<=B+(x+p+q) by omega);rw[show B+p+x+q=B+(x+p+q) by omega]at e;rw[Nat.mul_add,Nat.mul_add,Nat.mul_one];omega
theorem zm4(h1:RL d)(h2:RL b):RL (.lett fr to false bn bat d b):=by
 refine .mk λB e we w hB hf hw hl s I hb=>?_;simp only[Ae,zbE,zsI,xA,if_false]at hw;obtain⟨a,ha,c,hc,hw⟩:=hw;obtain rfl:1+(a+c)=w:=oM;simp only[T.freeS,xA,if_false]at hf;obtain⟨f1,f2⟩:=Dx hf;obtain⟨f,W⟩:=I.wf;obtain⟨h3,h4⟩:=I.ok hb;obtain⟨n1,r1,s1,g1,R1,len1,ev1,I1,p1⟩:=h1.run hB f1 ha oM I;obtain⟨q1,W1⟩:=I1.wf;have I2:Inv (B+d.recs) (.dfn bn r1 (.lett fr to false bn bat d b) e) (.cons bn a we) s1:=by
  refine⟨I1.wf,I1.ne,λhb1=>⟨⟨⟨s1.l,Wk W1 h3 R1.lt R1.low (λv hv=>⟨(R1.sound hb1 v hv).1,.plain (R1.sound hb1 v hv).2⟩) (λv a hv ht=>by cases ht with|plain ht=>exact(R1.complete hb v a hv ht).2)⟩,(I1.ok hb1).1⟩,rfl,p1 hb,⟨s.l,s1.l,?_,len1⟩,(I1.ok hb1).2.more oM (λx hx=>.inl hx)⟩⟩;obtain⟨a1,a2,a3⟩:=R1.frame hb1 (Dead s.l e.fixes) (Sj _ _) (λx hx hd=>hd.2 (.base hx)) (λk hk=>hk.1);exact{wf0:=⟨f,W⟩,wf1:=⟨q1,W1⟩,fixes:=h3.fixes,lt:=R1.lt,evo0:=ev1 hb1,evo1:=Evo.refl W1,cl0:=a2,nr:=a3,dead:=λ_ _=>rfl,cl1:=Sj _ _,apart:=λx hx hd=>hd.2 (.base hx)}
 obtain⟨n2,r2,s2,g2,R2,len2,ev2,I2',p2⟩:=h2.run (e:=.dfn bn r1 (.lett fr to false bn bat d b) e) oM f2 hc oM I2;obtain⟨q2,W2⟩:=I2'.wf;refine⟨oM,n1+n2,λn r s' hn W' hr=>?_⟩;simp only[rOf,hb,xA,if_false,g1 n oM,g2 n oM,zbS,zsI,zpI]at hr;rw[<-hr.2];refine⟨?_,λhh=>(ev1 (R2.bad hh)).trans (ev2 hh) W2⟩
 have:=ar3 (x:=0) len1 len2;simpa only[T.recs,xA,if_false]using this
theorem zm5(h1:RL d)(h2:RL b):RL (.lett fr to true bn bat d b):=by
 refine .mk λB e we w hB hf hw hl s I hb=>?_;simp only[Ae,zbE,zsI,if_true]at hw;obtain⟨a,ha,c,hc,hw⟩:=hw;obtain rfl:1+(a+c)=w:=oM;simp only[T.freeS,if_true]at hf;obtain⟨f1,f2⟩:=Dx hf;obtain⟨f,W⟩:=I.wf;obtain⟨h3,h4⟩:=I.ok hb;obtain⟨N,hN⟩:∃N,s.l.length=N:=⟨_,rfl⟩;have I1:=zfo I hb bn;obtain⟨q0,W0⟩:=I1.wf;rw[hN]at I1;obtain⟨n1,r1,s1,g1,R1,len1,ev1,I1',p1⟩:=h1.run (e:=.fix bn N e) hB f1 ha oM I1;obtain⟨q1,W1⟩:=I1'.wf;have l0:(s.put ⟨118,0,0,none⟩).l.length=N+1:=by simp[RS.put,hN]
 have low1:=R1.low;have lt1:=R1.lt;rw[l0]at low1 len1;obtain⟨n2,s2,g2,O⟩:=Fm (s:=s1) W1 (a:=N) (b:=r1) oM lt1;obtain⟨q2,W2⟩:=O.wf;have ol:=O.len;have ev2:∀n,n2<=n->s2.bad=false->Evo s.l s2.l:=λn hn h=>by
  have hb1:=O.bad h;exact((Evo.keep W W0 (by simp[RS.put]) (Ib _ _)).trans (ev1 hb1) W1).trans (Pv W1 oM lt1 (g2 n hn) h) W2
 have fx:∀x∈(REn.fix bn N e).fixes,x∈e.fixes\/s.l.length<=x:=λx hx=>by
  rcases zmA.1 hx with hx|hx
  ·exact .inl hx
  ·simp at hx;right;omega
 have frm:s2.bad=false->∀D:Nat->Prop,Cl D s.l->(∀x∈e.fixes,¬D x)->(∀k,D k->k<s.l.length)->(∀k,D k->s2.l[k]?=s.l[k]?)/\Cl D s2.l:=λh D d1 d2 d3=>by
  obtain⟨g1,g2⟩:=zeq e.fixes s.l (c:=⟨118,0,0,none⟩) rfl (zf0 (.inl rfl)) D d1 d2 d3;obtain⟨a1,a2,a3⟩:=R1.frame (O.bad h) D g2 (λx hx hd=>(fx x hx).elim (λh=>d2 x h hd) (λh=>by have:=d3 x hd;omega)) (λk hk=>by have:=d3 k hk;rw[l0];omega);obtain⟨b1,b2⟩:=O.frame D a2 (λhd=>by have:=d3 N hd;omega) a3;exact⟨λk hk=>(b1 k hk).trans ((a1 k hk).trans (g1 k hk)),b2⟩
 have hs:s2.bad=false->∀v,Sat s2.l v->Sat s.l v/\DTyp (.lett fr to true bn bat d b) (e.val v) (v N):=λh v hv=>by
  obtain⟨o1,o2⟩:=O.sound h v hv;obtain⟨q1,q2⟩:=R1.sound (O.bad h) v o1;rw[<-o2]at q2;exact⟨(Dm.1 q1).1,.recu q2⟩
 have hcm:∀v a,Sat s.l v->DTyp (.lett fr to true bn bat d b) (e.val v) a->∃v',Agree s.l.length v v'/\Sat s2.l v'/\v' N=a:=λv a hv ht=>by
  cases ht with
  |recu ht=>
   have m1:=Bu W (a:=a) hv (Jz _ _);rw[hN]at m1;have ev:(REn.fix bn N e).val (upd v N a)=.fix bn a (e.val v):=by
    simp only[REn.val,Bi];rw[val_agree h3 (by rw[hN];exact Ii v N a)]
   obtain⟨b2,v2,ag,sv,q⟩:=R1.complete hb _ a m1 (by rw[ev];exact ht);rw[l0]at ag;have vN:v2 N=a:=(by rw[ag N oM,Bi]);obtain⟨b3,m3⟩:=O.complete b2 v2 sv (vN.trans q.symm);exact⟨v2,λq hq=>by rw[ag q oM,Ck oM],m3,vN⟩
 have gr:s2.bad=false->Grow e.fixes s.l s2.l:=λh=>⟨oM,λv hv=>(hs h v hv).1,frm h⟩;have I2:Inv (B+d.recs+1) (.dfn bn N (.lett fr to true bn bat d b) e) (.cons bn a we) s2:=by
  refine⟨⟨q2,W2⟩,λ_=>oM,λhb2=>⟨⟨⟨s2.l,Wk W2 h3 oM oM (hs hb2) hcm⟩,h3.grow (gr hb2) (λx hx=>.inl hx)⟩,rfl,p1 hb,⟨s.l,s2.l,?_,?_⟩,(h4.step W2 (ev2 n2 (znL _) hb2) (gr hb2).frame).more oM (λx hx=>.inl hx)⟩⟩
  ·exact{wf0:=⟨f,W⟩,wf1:=⟨q2,W2⟩,fixes:=h3.fixes,lt:=oM,evo0:=ev2 n2 (znL _) hb2,evo1:=Evo.refl W2,cl0:=(frm hb2 _ (Sj _ _) (λx hx hd=>hd.2 (.base hx)) (λk hk=>hk.1)).2,nr:=λhd=>by have:=hd.1;omega,dead:=λ_ _=>rfl,cl1:=Sj _ _,apart:=λx hx hd=>hd.2 (.base hx)}
  ·have:=p1 hb;rw[Nat.add_mul (B+d.recs) 1 a,Nat.one_mul];omega
 obtain⟨n3,r3,s3,g3,R3,len3,ev3,I3,p3⟩:=h2.run (e:=.dfn bn N (.lett fr to true bn bat d b) e) oM f2 hc oM I2;obtain⟨q3,W3⟩:=I3.wf;refine⟨oM,n1+n2+n3,λn r s' hn W' hr=>?_⟩;simp only[rOf,hb,xA,if_false,if_true,hN,g1 n oM,g2 n oM,g3 n oM,zbS,zsI,zpI]at hr;rw[<-hr.2];refine⟨?_,λhh=>(ev2 n oM (R3.bad hh)).trans (ev3 hh) W3⟩
 have:=ar3 (B:=B) (x:=1) (p:=d.recs) (q:=b.recs) (a:=a) (c:=c) (L0:=s.l.length) (L1:=s2.l.length) (L2:=s3.l.length) oM len3;simpa only[T.recs,if_true]using this
theorem Gs:∀t:T,RL t
 |.name fr to x=>zlt fr to x
 |.int fr to v=>zcf ⟨105,0,0,none⟩ (λn e s a=>by simp[rOf,a]) (λ_=>rfl)
 |.truth fr to b=>zcf ⟨98,0,0,none⟩ (λn e s a=>by simp[rOf,a]) (λ_=>rfl)
 |.side fr to b=>zlu fr to b
 |.bracket fr to i=>zep (Gs i)
 |.pair fr to l r=>zlv (Gs l) (Gs r)
 |.call fr to l r=>zlw (Gs l) (Gs r)
 |.binary fr to sg l r=>zhy (Gs l) (Gs r)
 |.cond fr to c t g=>zlx (Gs c) (Gs t) (Gs g)
 |.fn fr to bn bat b=>znj (Gs b)
 |.lett fr to false bn bat d b=>zm4 (Gs d) (Gs b)
 |.lett fr to true bn bat d b=>zm5 (Gs d) (Gs b)
theorem zhz(j:t.freeS []=none){w:Nat}(g:Ae t .nil=some w)(a:w<=2000):∃f r s,(∀n,f<=n->rOf n t .nil ⟨[],false⟩=some (r,s))/\s.l.length<=4008000:=by
 have I:Inv 4 .nil .nil ⟨[],false⟩:=⟨⟨λ_=>0,⟨λk c l h=>(by simp at h),λk c h=>(by simp at h),λk c h=>(by simp at h)⟩⟩,λh=>(by cases h),λ_=>⟨trivial,trivial⟩⟩;obtain⟨f,r,s,i,R,len,_⟩:=(Gs t).run (e:=.nil) (znL 4) j g a I;refine⟨f,r,s,i,?_⟩
 have:=Cc t .nil w g a;have e:=Nat.mul_le_mul (show 4+t.recs<=2004 by omega) a;simp at len;omega
end
end Go.Proofs.YtckhafpejefbbaaGreatDoor.Tw.Rf
