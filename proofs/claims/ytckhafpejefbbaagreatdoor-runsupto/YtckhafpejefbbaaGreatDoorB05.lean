import Derived.Test.YtckhafpejefbbaaGreatDoorB04
import Derived.BigQuiet

set_option maxRecDepth 100000
set_option maxHeartbeats 4000000
namespace Go.Proofs.YtckhafpejefbbaaGreatDoor
abbrev pT(b:Nat):Value:=.pointer (some ⟨b,0,none⟩)
abbrev sL(g n c:Nat):Value:=.slice (some ⟨g,0,none⟩) n c
abbrev aA:=@heap_setCell_other
abbrev xA:=@Bool.false_eq_true
abbrev aB:=@Nat.lt_of_lt_of_le
abbrev eB:=@frozen_of_row
abbrev kB:=@Nat.le_trans
abbrev mB:=@cell_of_row
abbrev cD:=@heap_setCell_same
section
open Tw Go.Proofs.Tryz
open Go.RowKit
section
variable{w a:World}{bp gt cap:Nat}{cur:Array Value}{s:ByteArray}{ts:List Tw.Tok}{st:Tw.PS}{t:Tw.Tok}
structure B7(w:World)(bp gt cap:Nat)(cur:Array Value)(s:ByteArray)(ts:List Tw.Tok)(st:PS):Prop where
 parser:w.heap[bp]?=some (.cells #[.string s,.slice (some ⟨gt,0,none⟩) ts.length cap,.int .i64 st.next,.int .i64 st.depth,.bool st.stuck,.int .i64 st.fault] 179 (0,0))
 row:w.heap[gt]?=some (.cells cur 176 (0,0))
 ne:gt≠bp
 cells:cur.toList.take (ts.length*3)=Cx ts
 len:ts.length<=cap
 zop:cap<=maxLen
 size:s.size<=300
 many:ts.length<=301
 nxt:st.next<=301
 dep:st.depth<=301
theorem zbu(ts:List Tw.Tok)(j:Nat)(t:Tw.Tok)(h:ts[j]?=some t):
  (Cx ts)[j*3]?=some (vI t.sort)/\(Cx ts)[j*3+1]?=some (vI t.fr)/\(Cx ts)[j*3+2]?=some (vI t.to):=by
 induction ts generalizing j with
 |nil=>simp at h
 |cons a ts ih=>
  cases j with
  |zero=>simp at h;subst h;simp[Cx,Wn]
  |succ j=>
   have:=ih j (by simpa using h);simp[Cx,Wn];rw[show(j+1)*3=j*3+1+1+1 from oM];simpa using this
theorem B7.tok{w:World}{bp gt cap:Nat}{cur:Array Value}{s:ByteArray}{ts:List Tw.Tok}{st:PS}(h:B7 w bp gt cap cur s ts st){j:Nat}{t:Tw.Tok}(d:ts[j]?=some t):
  w.cell? (aD gt (j*3))=some (vI t.sort)/\w.cell? (aD gt (j*3+1))=some (vI t.fr)/\w.cell? (aD gt (j*3+2))=some (vI t.to):=by
 have⟨a,b,c⟩:=zbu ts j t d;have e:j<ts.length:=(zlE.1 d).1;rw[<-h.cells,List.getElem?_take,mA oM]at a b c;refine⟨?_,?_,?_⟩
 ·rw[mB w gt _ cur _ _ h.row];simpa using a
 ·rw[mB w gt _ cur _ _ h.row];simpa using b
 ·rw[mB w gt _ cur _ _ h.row];simpa using c
theorem B7.p(h:B7 w bp gt cap cur s ts st):
  w.cell? (aD bp 0)=some (.string s)/\w.cell? (aD bp 1)=some (sL gt ts.length cap)/\w.cell? (aD bp 2)=some (vI st.next)/\w.cell? (aD bp 3)=some (vI st.depth)/\w.cell? (aD bp 4)=some (.bool st.stuck)/\w.cell? (aD bp 5)=some (vI st.fault):=by
 refine⟨?_,?_,?_,?_,?_,?_⟩<;>(rw[mB w bp _ _ _ _ h.parser];rfl)
theorem zh3(h:B7 w bp gt cap cur s ts st)(d:st.stuck=false)(b:ts[st.next]?=some t):
  Calls prog 155 #[pT bp] w λe w'=>e=.returned (.agg #[vI t.sort,vI t.fr,vI t.to])/\zG w w':=by
 have⟨r,x,y⟩:=h.tok b;have⟨m,n,o,p,f,q⟩:=h.p;have l:st.next<ts.length:=(zlE.1 b).1;rw[d]at f;have g:bp<w.heap.size:=(zgE.1 h.parser).1;have i:gt<w.heap.size:=(zgE.1 h.row).1;have j:(st.next:Int)<(ts.length:Int):=oM;go_in;go_wp21;go_region;go_wp21;refine bodyPost_ret (v:=.agg #[vI t.sort,vI t.fr,vI t.to]) (by simp[results,results155,go_sem]) rfl ⟨rfl,?_⟩;go_light;exact⟨rfl,rfl,rfl,sM,λk c _=>Below.heap_alloc w _ k c⟩
theorem zfe(h:B7 w bp gt cap cur s ts st)(l:st.stuck=true)(b:ts[ts.length-1]?=some t):
  Calls prog 155 #[pT bp] w λe w'=>e=.returned (.agg #[vI t.sort,vI t.fr,vI t.to])/\zG w w':=by
 have i:ts.length-1<ts.length:=(zlE.1 b).1;have r:=h.many;have⟨c,d,f⟩:=h.tok b;have⟨y,m,z,A,o,B⟩:=h.p;rw[l]at o;have p:bp<w.heap.size:=(zgE.1 h.parser).1;have q:gt<w.heap.size:=(zgE.1 h.row).1;obtain⟨n,j⟩:∃n,ts.length=n+1:=⟨ts.length-1,oM⟩;rw[j]at m c d f i;simp only[Nat.add_sub_cancel]at c d f;have x:n<=300:=oM;go_in;go_wp21;go_region;go_wp21;refine bodyPost_ret (v:=.agg #[vI t.sort,vI t.fr,vI t.to]) (by simp[results,results155,go_sem]) rfl ⟨rfl,?_⟩;go_light;exact⟨rfl,rfl,rfl,sM,λk g _=>Below.heap_alloc w _ k g⟩
theorem Cs(h:B7 w bp gt cap cur s ts st)(b:Ej ts st=some t):
  Calls prog 155 #[pT bp] w λe w'=>e=.returned (.agg #[vI t.sort,vI t.fr,vI t.to])/\zG w w':=by
 unfold Ej at b;split at b
 ·exact zfe h ‹_› b
 ·exact zh3 h (by rename_i c;simpa[Bool.not_eq_true]using c) b
def Bl(bp:Nat)(w w':World):Prop:=w.grownBy w' (some bp)
theorem Bl.refl(bp:Nat)(w:World):Bl bp w w:=⟨rfl,rfl,rfl,znL _,λ_ _ _=>rfl⟩
theorem Bl.trans{b c:World}(h:Bl bp a b)(k:Bl bp b c):Bl bp a c:=
 ⟨k.os.trans h.os,k.tape.trans h.tape,k.output.trans h.output,kB h.size k.size,λi d e=>(k.block i (aB d h.size) e).trans (h.block i d e)⟩
theorem Bl.Ax{w':World}(h:zG w w'):Bl bp w w':=⟨h.os,h.tape,h.output,h.size,λi b _=>h.block i b sM⟩
theorem Bl.drew(h:Bl bp a w):Bl bp a w.drew:=⟨h.os,h.tape,h.output,h.size,h.block⟩
theorem Bl.alloc(h:Bl bp a w)(o:Obj):Bl bp a (w.alloc o):=
 h.trans ⟨rfl,rfl,rfl,sM,λk b _=>Below.heap_alloc w o k b⟩
theorem Bl.set(h:Bl bp a w)(j:Nat)(v:Value):Bl bp a (w.setCell (aD bp j) v):=
 h.trans ⟨rfl,rfl,rfl,sM,λk _ b=>aA w (aD bp j) k v (λe=>b (by simp[e]))⟩
theorem Bl.Cz(h:Bl bp a w)(b j:Nat)(v:Value)(e:a.heap.size<=b):Bl bp a (w.setCell (aD b j) v):=
 ⟨h.os,h.tape,h.output,by simpa using h.size,λk c d=>by rw[aA w (aD b j) k v (by simp;omega)];exact h.block k c d⟩
section
variable {w w':World}{bp gt cap:Nat}{cur:Array Value}{s:ByteArray}{ts:List Tw.Tok}{st:Tw.PS}
theorem B7.Js(h:B7 w bp gt cap cur s ts st):bp<w.heap.size:=(zgE.1 h.parser).1
theorem B7.zco(h:B7 w bp gt cap cur s ts st):gt<w.heap.size:=(zgE.1 h.row).1
theorem B7.kept(h:B7 w bp gt cap cur s ts st)(g:zG w w'):B7 w' bp gt cap cur s ts st:=
 {h with parser:=by rw[g.block bp h.Js sM];exact h.parser,row:=by rw[g.block gt h.zco sM];exact h.row}
theorem B7.fz(h:B7 w bp gt cap cur s ts st)(j:Nat):w.frozen? (aD bp j)=false:=eB w bp j _ _ h.parser
theorem B7.drew(h:B7 w bp gt cap cur s ts st):B7 w.drew bp gt cap cur s ts st:={h with}
theorem B7.alloc(h:B7 w bp gt cap cur s ts st)(o:Obj):B7 (w.alloc o) bp gt cap cur s ts st:=h.kept (zwA w o none)
theorem B7.zt3(h:B7 w bp gt cap cur s ts st)(n:Nat)(b:n<=301):B7 (w.setCell (aD bp 2) (vI n)) bp gt cap cur s ts {st with next:=n}:=
 {h with parser:=by rw[cD w bp 2 _ _ _ h.parser];rfl,nxt:=b,row:=by rw[aA _ _ _ _ (by simpa using h.ne)];exact h.row}
theorem B7.zbr(h:B7 w bp gt cap cur s ts st)(n:Nat)(b:n<=301):B7 (w.setCell (aD bp 3) (vI n)) bp gt cap cur s ts {st with depth:=n}:=
 {h with parser:=by rw[cD w bp 3 _ _ _ h.parser];rfl,dep:=b,row:=by rw[aA _ _ _ _ (by simpa using h.ne)];exact h.row}
theorem B7.zrv(h:B7 w bp gt cap cur s ts st)(b:Bool):B7 (w.setCell (aD bp 4) (.bool b)) bp gt cap cur s ts {st with stuck:=b}:=
 {h with parser:=by rw[cD w bp 4 _ _ _ h.parser];rfl,row:=by rw[aA _ _ _ _ (by simpa using h.ne)];exact h.row}
theorem B7.zr3(h:B7 w bp gt cap cur s ts st)(n:Nat):B7 (w.setCell (aD bp 5) (vI n)) bp gt cap cur s ts {st with fault:=n}:=
 {h with parser:=by rw[cD w bp 5 _ _ _ h.parser];rfl,row:=by rw[aA _ _ _ _ (by simpa using h.ne)];exact h.row}
theorem Nd(a b c:Int)(w:World):Sem.run prog (Instr.field 176 (.agg #[vI a,vI b,vI c]) 0) w=.ok (vI a) w:=kR
theorem zdi(a b c:Int)(w:World):Sem.run prog (Instr.field 176 (.agg #[vI a,vI b,vI c]) 1) w=.ok (vI b) w:=kR
theorem zdj(a b c:Int)(w:World):Sem.run prog (Instr.field 176 (.agg #[vI a,vI b,vI c]) 2) w=.ok (vI c) w:=kR
theorem Zu(h:B7 w bp gt cap cur s ts st){st':PS}(b:Hj ts st=some st'):
    Calls prog 160 #[pT bp] w λe w'=>e=.returned (.tuple #[])/\Bl bp w w'/\B7 w' bp gt cap cur s ts st':=by
  have⟨x,y,z,A,j,B⟩:=h.p;unfold Hj at b;cases g:st.stuck
  · rw[g]at b j
    simp only[xA,if_false]at b;have⟨t,m,i⟩:=zbE.1 b;simp only[zsI]at i;subst i;have d:=h;have k:Ej ts st=some t:=m;have v:=zdi;go_in;go_wp2_with (go_at_call 155;refine(Cs d k).mono ?_;rintro e n ⟨rfl,f⟩;have c:=d.kept f;have l:Bl bp w n:=Bl.Ax f;have p:=c.p.2.2.2.2.2;have r:=c.fz 5;have o:=c.p.2.2.2.2.1;have q:=c.fz 4)
    go_end0;exact⟨rfl,(l.set 5 _).set 4 _,(c.zr3 _).zrv _⟩
  · rw[g]at b j
    simp at b;subst b;go_in;go_wp21;go_end0;exact⟨rfl,Bl.refl _ _,h⟩
end
end
end
end Go.Proofs.YtckhafpejefbbaaGreatDoor
namespace Go.RowKit
theorem Hid.o{p:Prop}(h:Hid p):p:=h
end Go.RowKit
namespace Go.Proofs.YtckhafpejefbbaaGreatDoor
abbrev zH(w:World)(b:Nat)(c:Array Value)(t:TypeId):Prop:=w.heap[b]?=some (.cells c t (0,0))
section
open Tw Go.Proofs.Tryz
open Go.RowKit
section
section
variable {w w':World}{bp gt cap:Nat}{cur:Array Value}{s:ByteArray}{ts:List Tw.Tok}{st:Tw.PS}
variable{w:World}{b:Nat}{o:Obj}
theorem Ag{x y z:Value}{t:TypeId}(h:zH w b #[x,y,z] t):
  w.cell? (aD b 0)=some x/\w.cell? (aD b 1)=some y/\w.cell? (aD b 2)=some z/\w.frozen? (aD b 0)=false/\w.frozen? (aD b 1)=false/\w.frozen? (aD b 2)=false:=by
 refine⟨?_,?_,?_,eB _ _ _ _ _ h,eB _ _ _ _ _ h,eB _ _ _ _ _ h⟩<;>(rw[mB w b _ _ _ _ h];rfl)
theorem Ac(w:World)(o:Obj):(w.alloc o).heap[w.heap.size]?=some o:=heap_alloc_new w o
theorem Bl.at{bp:Nat}{w':World}(h:Bl bp w w')(a:w.heap[b]?=some o)(c:b≠bp):w'.heap[b]?=some o:=by
 rw[h.block b (zgE.1 a).1 (by simpa using c)];exact a
theorem Pq(a:w.heap[b]?=some o)(c:Obj):(w.alloc c).heap[b]?=some o:=by
 rw[Below.heap_alloc w c b (zgE.1 a).1];exact a
theorem B7.Co(h:B7 w bp gt cap cur s ts st)(b j:Nat)(v:Value)(a:b≠bp)(c:b≠gt):B7 (w.setCell (aD b j) v) bp gt cap cur s ts st:=
 {h with parser:=by rw[aA _ _ _ _ (by simpa using a.symm)];exact h.parser,row:=by rw[aA _ _ _ _ (by simpa using c.symm)];exact h.row}
theorem Dq(h:B7 w bp gt cap cur s ts st)(i:Int){t:Tw.Tok}{st':PS}(I:Tw.Bg ts i st=some (t,st')):
    Calls prog 82 #[pT bp,vI i] w λe w'=>e=.returned (.agg #[vI t.sort,vI t.fr,vI t.to])/\Bl bp w w'/\B7 w' bp gt cap cur s ts st':=by
  unfold Tw.Bg at I;have⟨f,P,d⟩:=zbE.1 I;clear I;have n:=h;have H:=P;have a4:=h.Js;have a5:=h.zco;clear h P;by_cases p:f.sort=i
  · rw[mA p]at d
    have T:(f.sort != i)=false:=(by simp[p]);clear p;by_cases q:i=0
    · rw[mA q]at d
      simp[Option.some.injEq,Prod.mk.injEq]at d;obtain⟨rfl,rfl⟩:=d;have U:(i != 0)=false:=(by simp[q]);clear q;go_in;go_wp2_with (first
        |(go_at_call 155;refine(Cs (n.alloc _) H).mono ?_;rintro e c ⟨rfl,a⟩;have g:Hid (B7 c bp gt cap cur s ts st):=(n.alloc _).kept a;have r:Bl bp w c:=((Bl.refl bp w).alloc _).trans (Bl.Ax a);have G:w.heap.size<c.heap.size:=(by have:=a.size;simp at this;omega);have m:=(a.block _ sM sM).trans (Ac w _);have⟨j,k,l,C,D,E⟩:=Ag m;have⟨x,y,Q,z,A,B⟩:=g.o.p;have J:=g.o.fz 2;have M:bp<c.heap.size:=oM;clear a x y z A B))
      refine bodyPost_ret (v:=.agg #[vI f.sort,vI f.fr,vI f.to]) (by simp[results,results82,go_sem,j,k,l,G]) rfl ⟨rfl,?_,?_⟩
      · go_light
        exact(((r.Cz _ _ _ (znL _)).Cz _ _ _ (znL _)).Cz _ _ _ (znL _)).alloc _
      · go_light
        exact(((g.o.Co _ _ _ oM oM).Co _ _ _ oM oM).Co _ _ _ oM oM).alloc _
    · rw[jA q]at d
      split at d;rotate_left
      · cases d
      rename_i a6;simp[Option.some.injEq,Prod.mk.injEq]at d;obtain⟨rfl,rfl⟩:=d;have U:(i != 0)=true:=(by simp[q]);clear q;go_in;go_wp2_with (first
        |(go_at_call 155;refine(Cs (n.alloc _) H).mono ?_;rintro e c ⟨rfl,a⟩;have g:Hid (B7 c bp gt cap cur s ts st):=(n.alloc _).kept a;have r:=((Bl.refl bp w).alloc _).trans (Bl.Ax a);have G:w.heap.size<c.heap.size:=(by have:=a.size;simp at this;omega);have m:zH c w.heap.size #[vI 0,vI 0,vI 0] 176:=(a.block _ sM sM).trans (Ac w _);have⟨j,k,l,C,D,E⟩:=Ag m;have⟨x,y,Q,z,A,B⟩:=g.o.p;have J:=g.o.fz 2;have M:bp<c.heap.size:=oM;clear a x y z A B))
      refine bodyPost_ret (v:=.agg #[vI f.sort,vI f.fr,vI f.to]) (by simp[results,results82,go_sem,j,k,l,G]) rfl ⟨rfl,?_,?_⟩
      · go_light
        exact((((r.set 2 _).Cz _ _ _ (znL _)).Cz _ _ _ (znL _)).Cz _ _ _ (znL _)).alloc _
      · go_light
        exact((((g.o.zt3 (st.next+1) oM).Co _ _ _ oM oM).Co _ _ _ oM oM).Co _ _ _ oM oM).alloc _
  · rw[jA p]at d
    have⟨a7,N,O⟩:=zbE.1 d;clear d;simp[Option.some.injEq,Prod.mk.injEq]at O;obtain⟨rfl,rfl⟩:=O;have R:=N;have T:(f.sort != i)=true:=(by simp[p]);clear N p;go_in;go_wp2_with (first
      |(go_at_call 155;refine(Cs (n.alloc _) H).mono ?_;rintro e c ⟨rfl,a⟩;have g:Hid (B7 c bp gt cap cur s ts st):=(n.alloc _).kept a;have r:=((Bl.refl bp w).alloc _).trans (Bl.Ax a);have G:w.heap.size<c.heap.size:=(by have:=a.size;simp at this;omega);have m:=(a.block _ sM sM).trans (Ac w _);have⟨j,k,l,C,D,E⟩:=Ag m;have⟨x,y,Q,z,A,B⟩:=g.o.p;have J:=g.o.fz 2;have M:bp<c.heap.size:=oM;clear a x y z A B)
      |(go_at_call 160;refine(Zu (g.o.alloc _) R).mono ?_;rintro e w2 ⟨rfl,F,L⟩;have S:=L;have V:=(r.alloc _).trans F;have W:=Ag (F.at (Pq m _) oM);have X:=Ag (F.at (Ac c _) oM);clear j k l C D E;have⟨j,k,l,C,D,E⟩:=W;have⟨Y,Z,a0,a1,a2,a3⟩:=X;clear L F m))
    refine bodyPost_ret (v:=.agg #[vI f.sort,vI f.fr,vI f.to]) (by simp[results,results82,go_sem,j,k,l]) rfl ⟨rfl,?_,?_⟩
    · go_light
      exact((V.Cz _ _ _ (znL _)).Cz _ _ _ (znL _)).Cz _ _ _ (znL _)
    · go_light
      exact((S.Co _ _ _ oM oM).Co _ _ _ oM oM).Co _ _ _ oM oM
end
end
end
end Go.Proofs.YtckhafpejefbbaaGreatDoor
