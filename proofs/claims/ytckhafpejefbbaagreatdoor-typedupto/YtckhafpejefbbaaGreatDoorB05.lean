import Derived.Test.YtckhafpejefbbaaGreatDoorB04
import Derived.BigQuiet
import Derived.RegionTactic
import Derived.BigRegion

set_option maxRecDepth 100000
set_option maxHeartbeats 4000000
namespace Go.Proofs.YtckhafpejefbbaaGreatDoor
section
abbrev pT(b:Nat):Value:=.pointer (some ⟨b,0,none⟩)
abbrev sL(g n c:Nat):Value:=.slice (some ⟨g,0,none⟩) n c
abbrev aA:=@heap_setCell_other
abbrev xA:=@Bool.false_eq_true
abbrev aB:=@Nat.lt_of_lt_of_le
abbrev eB:=@frozen_of_row
abbrev kB:=@Nat.le_trans
abbrev mB:=@cell_of_row
abbrev cD:=@heap_setCell_same
end
section
open Tw Go.Proofs.Tryz
open Go.RowKit
variable{w a:World}{bp gt cap:Nat}{cur:Array Value}{s:ByteArray}{ts:List Tw.Tok}{st:Tw.PS}{t:Tw.Tok}
structure PCtx(w:World)(bp gt cap:Nat)(cur:Array Value)(s:ByteArray)(ts:List Tw.Tok)(st:PS):Prop where
 parser:w.heap[bp]?=some (.cells #[.string s,.slice (some ⟨gt,0,none⟩) ts.length cap,.int .i64 st.next,.int .i64 st.depth,.bool st.stuck,.int .i64 st.fault] 179 (0,0))
 row:w.heap[gt]?=some (.cells cur 176 (0,0))
 ne:gt≠bp
 cells:cur.toList.take (ts.length*3)=Ch ts
 len:ts.length<=cap
 capm:cap<=maxLen
 size:s.size<=300
 many:ts.length<=301
 nxt:st.next<=301
 dep:st.depth<=301
theorem Xg(ts:List Tw.Tok)(j:Nat)(t:Tw.Tok)(h:ts[j]?=some t):
  (Ch ts)[j*3]?=some (vI t.sort)/\(Ch ts)[j*3+1]?=some (vI t.fr)/\(Ch ts)[j*3+2]?=some (vI t.to):=by
 induction ts generalizing j with
 |nil=>simp at h
 |cons a ts ih=>
  cases j with
  |zero=>simp at h;subst h;simp[Ch,St]
  |succ j=>
   have:=ih j (by simpa using h);simp only[Ch,St];rw[show(j+1)*3=j*3+1+1+1 from oM];simpa using this
theorem PCtx.tok{w:World}{bp gt cap:Nat}{cur:Array Value}{s:ByteArray}{ts:List Tw.Tok}{st:PS}(h:PCtx w bp gt cap cur s ts st){j:Nat}{t:Tw.Tok}(d:ts[j]?=some t):
  w.cell? (aD gt (j*3))=some (vI t.sort)/\w.cell? (aD gt (j*3+1))=some (vI t.fr)/\w.cell? (aD gt (j*3+2))=some (vI t.to):=by
 obtain⟨a,b,c⟩:=Xg ts j t d;have e:j<ts.length:=(zlE.1 d).1;rw[<-h.cells,List.getElem?_take,mA oM]at a b c;refine⟨?_,?_,?_⟩
 ·rw[mB w gt _ cur _ _ h.row];simpa using a
 ·rw[mB w gt _ cur _ _ h.row];simpa using b
 ·rw[mB w gt _ cur _ _ h.row];simpa using c
theorem PCtx.p(h:PCtx w bp gt cap cur s ts st):
  w.cell? (aD bp 0)=some (.string s)/\w.cell? (aD bp 1)=some (sL gt ts.length cap)/\w.cell? (aD bp 2)=some (vI st.next)/\w.cell? (aD bp 3)=some (vI st.depth)/\w.cell? (aD bp 4)=some (.bool st.stuck)/\w.cell? (aD bp 5)=some (vI st.fault):=by
 refine⟨?_,?_,?_,?_,?_,?_⟩<;>(rw[mB w bp _ _ _ _ h.parser];rfl)
theorem zcx(h:PCtx w bp gt cap cur s ts st)(d:st.stuck=false)(b:ts[st.next]?=some t):
  Calls prog 155 #[pT bp] w λe w'=>e=.returned (.agg #[vI t.sort,vI t.fr,vI t.to])/\w.grownBy w' none:=by
 obtain⟨x,y,z⟩:=h.tok b;obtain⟨n,o,p,q,f,r⟩:=h.p;have m:st.next<ts.length:=(zlE.1 b).1;rw[d]at f;have i:bp<w.heap.size:=(zgE.1 h.parser).1;have j:gt<w.heap.size:=(zgE.1 h.row).1;have g:prog.cellsOf 176=3:=kR;have l:(st.next:Int)<(ts.length:Int):=oM
 go_in;go_wp2_with fail;go_region;go_wp2_with fail;refine bodyPost_ret (v:=.agg #[vI t.sort,vI t.fr,vI t.to]) (by simp[results,results155,go_sem]) rfl ⟨rfl,?_⟩;go_light;exact⟨rfl,rfl,rfl,sM,λk c _=>Below.heap_alloc w _ k c⟩
theorem zau(h:PCtx w bp gt cap cur s ts st)(l:st.stuck=true)(b:ts[ts.length-1]?=some t):
  Calls prog 155 #[pT bp] w λe w'=>e=.returned (.agg #[vI t.sort,vI t.fr,vI t.to])/\w.grownBy w' none:=by
 have i:ts.length-1<ts.length:=(zlE.1 b).1;have y:=h.many;obtain⟨c,d,f⟩:=h.tok b;obtain⟨A,m,B,C,o,D⟩:=h.p;rw[l]at o;have q:bp<w.heap.size:=(zgE.1 h.parser).1;have r:gt<w.heap.size:=(zgE.1 h.row).1;have p:prog.cellsOf 176=3:=kR;obtain⟨n,j⟩:∃n,ts.length=n+1:=⟨ts.length-1,oM⟩;rw[j]at m c d f i;simp only[Nat.add_sub_cancel]at c d f;have x:(n:Int)<((n+1:Nat):Int):=oM;have z:n<=300:=oM
 go_in;go_wp2_with fail;go_region;go_wp2_with fail;refine bodyPost_ret (v:=.agg #[vI t.sort,vI t.fr,vI t.to]) (by simp[results,results155,go_sem]) rfl ⟨rfl,?_⟩;go_light;exact⟨rfl,rfl,rfl,sM,λk g _=>Below.heap_alloc w _ k g⟩
theorem Ca(h:PCtx w bp gt cap cur s ts st)(b:tokS ts st=some t):
  Calls prog 155 #[pT bp] w λe w'=>e=.returned (.agg #[vI t.sort,vI t.fr,vI t.to])/\w.grownBy w' none:=by
 unfold tokS at b;split at b
 ·exact zau h ‹_› b
 ·exact zcx h (by rename_i c;simpa[Bool.not_eq_true]using c) b
def Keep(bp:Nat)(w w':World):Prop:=w.grownBy w' (some bp)
theorem Keep.refl(bp:Nat)(w:World):Keep bp w w:=⟨rfl,rfl,rfl,znL _,λ_ _ _=>rfl⟩
theorem Keep.trans{b c:World}(h:Keep bp a b)(k:Keep bp b c):Keep bp a c:=
 ⟨k.os.trans h.os,k.tape.trans h.tape,k.output.trans h.output,kB h.size k.size,λi d e=>(k.block i (aB d h.size) e).trans (h.block i d e)⟩
theorem Keep.of_none{w':World}(h:w.grownBy w' none):Keep bp w w':=⟨h.os,h.tape,h.output,h.size,λi b _=>h.block i b sM⟩
theorem Keep.drew(h:Keep bp a w):Keep bp a w.drew:=⟨h.os,h.tape,h.output,h.size,h.block⟩
theorem Keep.alloc(h:Keep bp a w)(o:Obj):Keep bp a (w.alloc o):=
 h.trans ⟨rfl,rfl,rfl,sM,λk b _=>Below.heap_alloc w o k b⟩
theorem Keep.set(h:Keep bp a w)(j:Nat)(v:Value):Keep bp a (w.setCell (aD bp j) v):=
 h.trans ⟨rfl,rfl,rfl,sM,λk _ b=>aA w (aD bp j) k v (λe=>b (by simp[e]))⟩
theorem Keep.setNew(h:Keep bp a w)(b j:Nat)(v:Value)(e:a.heap.size<=b):Keep bp a (w.setCell (aD b j) v):=
 ⟨h.os,h.tape,h.output,by simpa using h.size,λk c d=>by rw[aA w (aD b j) k v (by simp;omega)];exact h.block k c d⟩
section
variable {w w':World}{bp gt cap:Nat}{cur:Array Value}{s:ByteArray}{ts:List Tw.Tok}{st:Tw.PS}
theorem PCtx.Gp(h:PCtx w bp gt cap cur s ts st):bp<w.heap.size:=(zgE.1 h.parser).1
theorem PCtx.Hs(h:PCtx w bp gt cap cur s ts st):gt<w.heap.size:=(zgE.1 h.row).1
theorem PCtx.kept(h:PCtx w bp gt cap cur s ts st)(g:w.grownBy w' none):PCtx w' bp gt cap cur s ts st:=
 {h with parser:=by rw[g.block bp h.Gp sM];exact h.parser,row:=by rw[g.block gt h.Hs sM];exact h.row}
theorem PCtx.fz(h:PCtx w bp gt cap cur s ts st)(j:Nat):w.frozen? (aD bp j)=false:=eB w bp j _ _ h.parser
theorem PCtx.drew(h:PCtx w bp gt cap cur s ts st):PCtx w.drew bp gt cap cur s ts st:={h with}
theorem PCtx.alloc(h:PCtx w bp gt cap cur s ts st)(o:Obj):PCtx (w.alloc o) bp gt cap cur s ts st:=h.kept (zwA w o none)
theorem PCtx.setNext(h:PCtx w bp gt cap cur s ts st)(n:Nat)(b:n<=301):PCtx (w.setCell (aD bp 2) (vI n)) bp gt cap cur s ts {st with next:=n}:=
 {h with parser:=by rw[cD w bp 2 _ _ _ h.parser];rfl,nxt:=b,row:=by rw[aA _ _ _ _ (by simpa using h.ne)];exact h.row}
theorem PCtx.setDepth(h:PCtx w bp gt cap cur s ts st)(n:Nat)(b:n<=301):PCtx (w.setCell (aD bp 3) (vI n)) bp gt cap cur s ts {st with depth:=n}:=
 {h with parser:=by rw[cD w bp 3 _ _ _ h.parser];rfl,dep:=b,row:=by rw[aA _ _ _ _ (by simpa using h.ne)];exact h.row}
theorem PCtx.setStuck(h:PCtx w bp gt cap cur s ts st)(b:Bool):PCtx (w.setCell (aD bp 4) (.bool b)) bp gt cap cur s ts {st with stuck:=b}:=
 {h with parser:=by rw[cD w bp 4 _ _ _ h.parser];rfl,row:=by rw[aA _ _ _ _ (by simpa using h.ne)];exact h.row}
theorem PCtx.setFault(h:PCtx w bp gt cap cur s ts st)(n:Nat):PCtx (w.setCell (aD bp 5) (vI n)) bp gt cap cur s ts {st with fault:=n}:=
 {h with parser:=by rw[cD w bp 5 _ _ _ h.parser];rfl,row:=by rw[aA _ _ _ _ (by simpa using h.ne)];exact h.row}
theorem Ip(a b c:Int)(w:World):Sem.run prog (Instr.field 176 (.agg #[vI a,vI b,vI c]) 0) w=.ok (vI a) w:=kR
theorem Y3(a b c:Int)(w:World):Sem.run prog (Instr.field 176 (.agg #[vI a,vI b,vI c]) 1) w=.ok (vI b) w:=kR
theorem Y4(a b c:Int)(w:World):Sem.run prog (Instr.field 176 (.agg #[vI a,vI b,vI c]) 2) w=.ok (vI c) w:=kR
theorem Vj(h:PCtx w bp gt cap cur s ts st){st':PS}(b:Fb ts st=some st'):
    Calls prog 160 #[pT bp] w λe w'=>e=.returned (.tuple #[])/\Keep bp w w'/\PCtx w' bp gt cap cur s ts st':=by
  obtain⟨x,y,z,A,j,B⟩:=h.p;unfold Fb at b;cases g:st.stuck
  · rw[g]at b j
    simp only[xA,if_false]at b;obtain⟨t,n,i⟩:=zbE.1 b;simp only[zsI]at i;subst i;have d:Hid (PCtx w bp gt cap cur s ts st):=h;have l:Hid (tokS ts st=some t):=n;have v:=Y3
    go_in;go_wp2_with (go_at_call 155;refine(Ca d.o l.o).mono ?_;rintro e k ⟨rfl,f⟩;have c:Hid (PCtx k bp gt cap cur s ts st):=d.o.kept f;have m:Hid (Keep bp w k):=Keep.of_none f;have p:=c.o.p.2.2.2.2.2;have r:=c.o.fz 5;have o:=c.o.p.2.2.2.2.1;have q:=c.o.fz 4)
    go_end0;exact⟨rfl,(m.o.set 5 _).set 4 _,(c.o.setFault _).setStuck _⟩
  · rw[g]at b j
    simp at b;subst b
    go_in;go_wp2_with fail;go_end0;exact⟨rfl,Keep.refl _ _,h⟩
end
end
section
open Tw Go.Proofs.Tryz
open Go.RowKit
section
variable {w w':World}{bp gt cap:Nat}{cur:Array Value}{s:ByteArray}{ts:List Tw.Tok}{st:Tw.PS}
variable{w:World}{b:Nat}{o:Obj}
theorem An{x y z:Value}{t:TypeId}(h:w.heap[b]?=some (.cells #[x,y,z] t (0,0))):
  w.cell? (aD b 0)=some x/\w.cell? (aD b 1)=some y/\w.cell? (aD b 2)=some z/\w.frozen? (aD b 0)=false/\w.frozen? (aD b 1)=false/\w.frozen? (aD b 2)=false:=by
 refine⟨?_,?_,?_,eB _ _ _ _ _ h,eB _ _ _ _ _ h,eB _ _ _ _ _ h⟩<;>(rw[mB w b _ _ _ _ h];rfl)
theorem Ac(w:World)(o:Obj):(w.alloc o).heap[w.heap.size]?=some o:=heap_alloc_new w o
theorem Keep.at{bp:Nat}{w':World}(h:Keep bp w w')(a:w.heap[b]?=some o)(c:b≠bp):w'.heap[b]?=some o:=by
 rw[h.block b (zgE.1 a).1 (by simpa using c)];exact a
theorem Ly(a:w.heap[b]?=some o)(c:Obj):(w.alloc c).heap[b]?=some o:=by
 rw[Below.heap_alloc w c b (zgE.1 a).1];exact a
theorem PCtx.setOther(h:PCtx w bp gt cap cur s ts st)(b j:Nat)(v:Value)(a:b≠bp)(c:b≠gt):PCtx (w.setCell (aD b j) v) bp gt cap cur s ts st:=
 {h with parser:=by rw[aA _ _ _ _ (by simpa using a.symm)];exact h.parser,row:=by rw[aA _ _ _ _ (by simpa using c.symm)];exact h.row}
theorem Cy(h:PCtx w bp gt cap cur s ts st)(i:Int){t:Tw.Tok}{st':PS}(I:Tw.Au ts i st=some (t,st')):
    Calls prog 82 #[pT bp,vI i] w λe w'=>e=.returned (.agg #[vI t.sort,vI t.fr,vI t.to])/\Keep bp w w'/\PCtx w' bp gt cap cur s ts st':=by
  unfold Tw.Au at I;obtain⟨d,P,f⟩:=zbE.1 I;clear I;have p:Hid (PCtx w bp gt cap cur s ts st):=h;have H:Hid (tokS ts st=some d):=P;have a7:=h.Gp;have a8:=h.Hs;clear h P;have fd:=Ip;by_cases m:d.sort=i
  · rw[mA m]at f
    have V:(d.sort != i)=false:=(by simp[m]);have a0:Hid (d.sort=i):=m;clear m;by_cases q:i=0
    · rw[mA q]at f
      simp only[zsI,zpI]at f;obtain⟨rfl,rfl⟩:=f;have W:(i != 0)=false:=(by simp[q]);clear q
      go_in;go_wp2_with (first
        |(go_at_call 155;refine(Ca (p.o.alloc _) H.o).mono ?_;rintro e a ⟨rfl,c⟩;have g:Hid (PCtx a bp gt cap cur s ts st):=(p.o.alloc _).kept c;have r:Hid (Keep bp w a):=((Keep.refl bp w).alloc _).trans (Keep.of_none c);have G:w.heap.size<a.heap.size:=(by have:=c.size;simp at this;omega);have n:Hid (a.heap[w.heap.size]?=some (.cells #[vI 0,vI 0,vI 0] 176 (0,0))):=(c.block _ sM sM).trans (Ac w _);obtain⟨j,k,l,C,D,E⟩:=An n.o;obtain⟨x,y,Q,z,A,B⟩:=g.o.p;have J:=g.o.fz 2;have M:bp<a.heap.size:=oM;clear c x y z A B))
      refine bodyPost_ret (v:=.agg #[vI d.sort,vI d.fr,vI d.to]) (by simp[results,results82,go_sem,j,k,l,G]) rfl ⟨rfl,?_,?_⟩
      · go_light
        exact(((r.o.setNew _ _ _ (znL _)).setNew _ _ _ (znL _)).setNew _ _ _ (znL _)).alloc _
      · go_light
        exact(((g.o.setOther _ _ _ oM oM).setOther _ _ _ oM oM).setOther _ _ _ oM oM).alloc _
    · rw[jA q]at f
      split at f;rotate_left
      · cases f
      rename_i a9;simp only[zsI,zpI]at f;obtain⟨rfl,rfl⟩:=f;have W:(i != 0)=true:=(by simp[q]);clear q
      go_in;go_wp2_with (first
        |(go_at_call 155;refine(Ca (p.o.alloc _) H.o).mono ?_;rintro e a ⟨rfl,c⟩;have g:Hid (PCtx a bp gt cap cur s ts st):=(p.o.alloc _).kept c;have r:Hid (Keep bp w a):=((Keep.refl bp w).alloc _).trans (Keep.of_none c);have G:w.heap.size<a.heap.size:=(by have:=c.size;simp at this;omega);have n:Hid (a.heap[w.heap.size]?=some (.cells #[vI 0,vI 0,vI 0] 176 (0,0))):=(c.block _ sM sM).trans (Ac w _);obtain⟨j,k,l,C,D,E⟩:=An n.o;obtain⟨x,y,Q,z,A,B⟩:=g.o.p;have J:=g.o.fz 2;have M:bp<a.heap.size:=oM;clear c x y z A B))
      refine bodyPost_ret (v:=.agg #[vI d.sort,vI d.fr,vI d.to]) (by simp[results,results82,go_sem,j,k,l,G]) rfl ⟨rfl,?_,?_⟩
      · go_light
        exact((((r.o.set 2 _).setNew _ _ _ (znL _)).setNew _ _ _ (znL _)).setNew _ _ _ (znL _)).alloc _
      · go_light
        exact((((g.o.setNext (st.next+1) oM).setOther _ _ _ oM oM).setOther _ _ _ oM oM).setOther _ _ _ oM oM).alloc _
  · rw[jA m]at f
    obtain⟨R,N,O⟩:=zbE.1 f;clear f;simp only[zsI,zpI]at O;obtain⟨rfl,rfl⟩:=O;have T:Hid (Fb ts st=some R):=N;have V:(d.sort != i)=true:=(by simp[m]);clear N m
    go_in;go_wp2_with (first
      |(go_at_call 155;refine(Ca (p.o.alloc _) H.o).mono ?_;rintro e a ⟨rfl,c⟩;have g:Hid (PCtx a bp gt cap cur s ts st):=(p.o.alloc _).kept c;have r:Hid (Keep bp w a):=((Keep.refl bp w).alloc _).trans (Keep.of_none c);have G:w.heap.size<a.heap.size:=(by have:=c.size;simp at this;omega);have n:Hid (a.heap[w.heap.size]?=some (.cells #[vI 0,vI 0,vI 0] 176 (0,0))):=(c.block _ sM sM).trans (Ac w _);obtain⟨j,k,l,C,D,E⟩:=An n.o;obtain⟨x,y,Q,z,A,B⟩:=g.o.p;have J:=g.o.fz 2;have M:bp<a.heap.size:=oM;clear c x y z A B)
      |(go_at_call 160;refine(Vj (g.o.alloc _) T.o).mono ?_;rintro e S ⟨rfl,F,L⟩;have U:Hid (PCtx S bp gt cap cur s ts R):=L;have X:Hid (Keep bp w S):=(r.o.alloc _).trans F;have Y:=An (F.at (Ly n.o _) oM);have Z:=An (F.at (Ac a _) oM);clear j k l C D E;obtain⟨j,k,l,C,D,E⟩:=Y;obtain⟨a1,a2,a3,a4,a5,a6⟩:=Z;clear L F n))
    refine bodyPost_ret (v:=.agg #[vI d.sort,vI d.fr,vI d.to]) (by simp[results,results82,go_sem,j,k,l]) rfl ⟨rfl,?_,?_⟩
    · go_light
      exact((X.o.setNew _ _ _ (znL _)).setNew _ _ _ (znL _)).setNew _ _ _ (znL _)
    · go_light
      exact((U.o.setOther _ _ _ oM oM).setOther _ _ _ oM oM).setOther _ _ _ oM oM
end
end
end Go.Proofs.YtckhafpejefbbaaGreatDoor
