import Derived.Test.YtckhafpejefbbaaGreatDoorB05
import Derived.Defers

set_option maxRecDepth 100000
set_option maxHeartbeats 4000000
namespace Go.Proofs.YtckhafpejefbbaaGreatDoor
section
open Tw Go.Proofs.Tryz
open Go.RowKit
section
variable {w w':World}{bp gt cap:Nat}{cur:Array Value}{s:ByteArray}{ts:List Tw.Tok}{st:Tw.PS}
variable{st':Tw.PS}
def D9(l:List Int):Array Value:=(l.map λn=>Value.int .i64 n).toArray
theorem Hl(h:PCtx w bp gt cap cur s ts st)(l:List Int)(g:Nat)(Y:l.length<=5)(C:w.heap[g]?=some (.cells (D9 l) 172 (0,0)))(Q:g≠bp){r:Int}(B:Ar ts l st=some (r,st')):
    Calls prog 203 #[pT bp,sL g l.length l.length] w λe w'=>e=.returned (vI r)/\Keep bp w w'/\PCtx w' bp gt cap cur s ts st':=by
  have M:Hid (PCtx w bp gt cap cur s ts st):=h;have L:Hid (w.heap[g]?=some (.cells (D9 l) 172 (0,0))):=C;have J:Hid (Ar ts l st=some (r,st')):=B;have U:=Ip;have T:prog.cellsOf 172=1:=kR;clear h C B
  go_in;go_wp2_with fail
  go_loopw [9] (λp wr=>∃k:Nat,p=vI k/\k<=l.length/\Hid (Keep bp w wr)/\Hid (PCtx wr bp gt cap cur s ts st)/\Hid (Ar ts (l.drop k) st=some (r,st'))) (λp _=>l.length-(intOf p).toNat)
  case atStart=>exact⟨0,rfl,oM,Keep.refl _ _,M.o,by show _=_;rw[List.drop_zero];exact J.o⟩
  case round=>
    obtain⟨k,rfl,W,HK,d,x⟩:=hrel;by_cases E:k<l.length
    · have A:l.drop k=l[k]::l.drop (k+1):=lD E
      have j:=x.o;rw[A,Ar]at j;obtain⟨t,F,c⟩:=zbE.1 j;have y:Hid (tokS ts st=some t):=F;have V:wr.cell? (aD g k)=some (vI l[k]):=by
        rw[mB wr g _ _ _ _ (HK.o.at L.o Q)];simp[D9,E]
      generalize S:l[k]=q at *;clear j F A S;have X:(k:Int)<(l.length:Int):=oM;by_cases b:t.sort=q
      · rw[mA b]at c
        obtain⟨⟨H,v⟩,G,o⟩:=zbE.1 c;simp only[zsI,zpI]at o;have P:(t.sort==q)=true:=(by simp[b]);have N:Hid (Tw.Au ts q st=some (H,v)):=G;have i:Hid (H.sort=r/\v=st'):=o;clear b c o G;go_wp2_with (first
          |(go_at_call 155;refine(Ca d.o y.o).mono ?_;rintro e f ⟨rfl,a⟩;have m:Hid (PCtx f bp gt cap cur s ts st):=d.o.kept a;have n:Hid (Keep bp w f):=HK.o.trans (Keep.of_none a);clear a)
          |(go_at_call 82;refine(Cy m.o _ N.o).mono ?_;rintro e I ⟨rfl,D,z⟩;have O:Hid (PCtx I bp gt cap cur s ts v):=z;have R:Hid (Keep bp w I):=n.o.trans D;clear D z))
        go_ret;exact⟨Ej i.o.1,R.o,i.o.2 ▸ O.o⟩
      · rw[jA b]at c
        have P:(t.sort==q)=false:=(by simp[b]);have i:Hid (Ar ts (l.drop (k+1)) st=some (r,st')):=c;clear b c;go_wp2_with (first
          |(go_at_call 155;refine(Ca d.o y.o).mono ?_;rintro e f ⟨rfl,a⟩;have m:Hid (PCtx f bp gt cap cur s ts st):=d.o.kept a;have n:Hid (Keep bp w f):=HK.o.trans (Keep.of_none a);clear a))
        go_roundw
        case rel=>go_light;exact⟨k+1,by go_num,oM,n.o,m.o,i.o⟩
        case measure=>go_light;simp[intOf];omega
    · go_wp2_with fail
      go_ret;go_light
      have:=x.o;rw[List.drop_eq_nil_of_le oM,Ar]at this;simp only[zsI,zpI]at this;exact⟨Ej this.1,HK.o,this.2 ▸ d.o⟩
theorem Ma(h:PCtx w bp gt cap cur s ts st)(m:Int){a:Nat}(r:Cv ts m st=some (a,st')):
    Calls prog 201 #[pT bp,vI m] w λe w'=>e=.returned (vI a)/\Keep bp w w'/\PCtx w' bp gt cap cur s ts st':=by
  unfold Cv at r;obtain⟨f,c,k⟩:=zbE.1 r;split at k;rotate_left
  · cases k
  rename_i M;obtain⟨⟨I,n⟩,C,v⟩:=zbE.1 k;simp only[zsI,zpI]at v;obtain⟨rfl,rfl⟩:=v;have o:Hid (PCtx w bp gt cap cur s ts st):=h;have p:Hid (Tw.Au ts m {f with depth:=f.depth+1}=some (I,n)):=C;obtain⟨N,O,P,Q,R,S⟩:=h.p;have fz:=h.fz 3;have J:=Y3;by_cases q:st.depth=40
  · rw[mA q]at c
    have y:Hid (Fb ts st=some f):=c;have A:((st.depth:Int)==40)=true:=by simp;omega
    go_in;go_wp2_with (first
      |(go_at_call 160;refine(Vj o.o y.o).mono ?_;rintro e x ⟨rfl,t,i⟩;have z:Hid (PCtx x bp gt cap cur s ts f):=i;have B:Hid (Keep bp w x):=t;obtain⟨D,E,F,T,G,H⟩:=i.p;have L:=i.fz 3;clear t i D E F G H)
      |(go_at_call 82;refine(Cy (z.o.setDepth (f.depth+1) oM) _ p.o).mono ?_;rintro e g ⟨rfl,d,b⟩;have j:Hid (PCtx g bp gt cap cur s ts n):=b;have l:Hid (Keep bp w g):=(B.o.set 3 _).trans d;clear d b))
    go_ret;exact⟨rfl,l.o,j.o⟩
  · rw[jA q]at c
    simp only[zsI]at c;subst c;have A:((st.depth:Int)==40)=false:=by simp;omega
    go_in;go_wp2_with (first
      |(go_at_call 82;refine(Cy (o.o.setDepth (st.depth+1) oM) _ p.o).mono ?_;rintro e g ⟨rfl,d,b⟩;have j:Hid (PCtx g bp gt cap cur s ts n):=b;have l:Hid (Keep bp w g):=((Keep.refl bp w).set 3 _).trans d;clear d b))
    go_ret;exact⟨rfl,l.o,j.o⟩
theorem Ht(h:PCtx w bp gt cap cur s ts st)(u:FrameMode)(a:Tw.endS st=some st'):
  CallsD prog 202 #[pT bp] u w λe i w'=>i=u/\(e=.returned (.tuple #[])/\Keep bp w w'/\PCtx w' bp gt cap cur s ts st'):=by
 unfold Tw.endS at a;split at a
 ·cases a
 simp only[zsI]at a;subst a;obtain⟨l,m,n,g,o,p⟩:=h.p;have fz:=h.fz 3;have j:=h.dep;obtain⟨d,b⟩:∃d,st.depth=d+1:=⟨st.depth-1,oM⟩;rw[b]at g;have k:d<=300:=oM;have c:Hid (st.depth=d+1):=b;have f:Hid (PCtx w bp gt cap cur s ts st):=h
 go_enter_d func202,ntmps202
 go_wp2;go_end0;refine⟨rfl,(Keep.refl bp w).set 3 _,?_⟩
 have:=f.o.setDepth d oM;rwa[show d=st.depth-1 from by have:=c.o;omega]at this ⊢
end
end
section
open Tw Go.Proofs.Tryz
open Go.RowKit
variable{a b w:World}{lo hi:Nat}{v:Value}{t:Tw.T}
theorem Ab{c:World}(h:a.grownBy b none)(k:b.grownBy c none):a.grownBy c none:=
 ⟨k.os.trans h.os,k.tape.trans h.tape,k.output.trans h.output,kB h.size k.size,λi hi d=>(k.block i (aB hi h.size) d).trans (h.block i hi d)⟩
theorem Ad(h:a.grownBy b none):a.grownBy b.drew none:=⟨h.os,h.tape,h.output,h.size,h.block⟩
theorem Ai(h:a.grownBy b none)(o:Obj):a.grownBy (b.alloc o) none:=Ab h (zwA b o none)
theorem Aa(a:World):a.grownBy a none:=⟨rfl,rfl,rfl,znL _,λ_ _ _=>rfl⟩
theorem Rh(h:a.grownBy b none){g:Nat}(e:a.heap.size<=g)(j:Nat)(v:Value):a.grownBy (b.setCell (aD g j) v) none:=
 ⟨h.os,h.tape,h.output,by simpa using h.size,λk c d=>by rw[aA b (aD g j) k v (by simp;omega)];exact h.block k c d⟩
abbrev ug(l:List UInt8):Value:=.string ⟨l.toArray⟩
def ptrT:Tw.T->TypeId
 |.name _ _ _=>83
 |.int _ _ _=>191
 |.truth _ _ _=>195
 |.side _ _ _=>199
 |.bracket _ _ _=>204
 |.pair _ _ _ _=>207
 |.call _ _ _ _=>209
 |.binary _ _ _ _ _=>211
 |.cond _ _ _ _ _=>213
 |.fn _ _ _ _ _=>215
 |.lett _ _ _ _ _ _ _=>136
def nodeAt(w:World)(lo hi:Nat)(fr to:Nat)(rest:List Value)(c st:TypeId)(v:Value):Prop:=
 ∃b,lo<=b/\b<hi/\v=.iface c (.pointer (some ⟨b,0,none⟩))/\w.heap[b]?=some (.cells (#[.int .i64 fr,.int .i64 to]++rest.toArray) st (0,0))
def Rep(w:World)(lo hi:Nat):Tw.T->Value->Prop
 |.name fr to tx,v=>nodeAt w lo hi fr to [ug tx] 83 87 v
 |.int fr to n,v=>nodeAt w lo hi fr to [.int .i64 n] 191 194 v
 |.truth fr to b,v=>nodeAt w lo hi fr to [.bool b] 195 198 v
 |.side fr to b,v=>nodeAt w lo hi fr to [.bool b] 199 201 v
 |.bracket fr to i,v=>∃v1,nodeAt w lo hi fr to [v1] 204 206 v/\Rep w lo hi i v1
 |.pair fr to l r,v=>∃v1 v2,nodeAt w lo hi fr to [v1,v2] 207 229 v/\Rep w lo hi l v1/\Rep w lo hi r v2
 |.call fr to l r,v=>∃v1 v2,nodeAt w lo hi fr to [v1,v2] 209 319 v/\Rep w lo hi l v1/\Rep w lo hi r v2
 |.binary fr to sg l r,v=>∃v1 v2,nodeAt w lo hi fr to [.int .i64 sg,v1,v2] 211 322 v/\Rep w lo hi l v1/\Rep w lo hi r v2
 |.cond fr to c t e,v=>∃v1 v2 v3,nodeAt w lo hi fr to [v1,v2,v3] 213 326 v/\Rep w lo hi c v1/\Rep w lo hi t v2/\Rep w lo hi e v3
 |.fn fr to bn bat b,v=>∃v1,nodeAt w lo hi fr to [ug bn,.int .i64 bat,v1] 215 235 v/\Rep w lo hi b v1
 |.lett fr to rc bn bat d b,v=>∃v1 v2,nodeAt w lo hi fr to [.bool rc,ug bn,.int .i64 bat,v1,v2] 136 140 v/\Rep w lo hi d v1/\Rep w lo hi b v2
theorem nodeAt.kept{g:World}{lo' hi' fr to:Nat}{rest:List Value}{f st:TypeId}(h:nodeAt w lo hi fr to rest f st v)(j:∀b,lo<=b->b<hi->b<w.heap.size->g.heap[b]?=w.heap[b]?)(l:lo'<=lo)(k:hi<=hi'):nodeAt g lo' hi' fr to rest f st v:=by
 obtain⟨b,c,d,i,e⟩:=h;exact⟨b,kB l c,aB d k,i,by rw[j b c d (zgE.1 e).1];exact e⟩
theorem Rep.kept{w f:World}{lo lo' hi hi':Nat}(c:∀b,lo<=b->b<hi->b<w.heap.size->f.heap[b]?=w.heap[b]?)(e:lo'<=lo)(d:hi<=hi'):∀ {t:Tw.T} {v:Value},Rep w lo hi t v->Rep f lo' hi' t v
 |.name ..,_,h=>nodeAt.kept h c e d
 |.int ..,_,h=>nodeAt.kept h c e d
 |.truth ..,_,h=>nodeAt.kept h c e d
 |.side ..,_,h=>nodeAt.kept h c e d
 |.bracket ..,_,⟨v1,h,r1⟩=>⟨v1,h.kept c e d,Rep.kept c e d r1⟩
 |.pair ..,_,⟨v1,v2,h,r1,r2⟩=>⟨v1,v2,h.kept c e d,Rep.kept c e d r1,Rep.kept c e d r2⟩
 |.call ..,_,⟨v1,v2,h,r1,r2⟩=>⟨v1,v2,h.kept c e d,Rep.kept c e d r1,Rep.kept c e d r2⟩
 |.binary ..,_,⟨v1,v2,h,r1,r2⟩=>⟨v1,v2,h.kept c e d,Rep.kept c e d r1,Rep.kept c e d r2⟩
 |.cond ..,_,⟨v1,v2,v3,h,r1,r2,r3⟩=>⟨v1,v2,v3,h.kept c e d,Rep.kept c e d r1,Rep.kept c e d r2,Rep.kept c e d r3⟩
 |.fn ..,_,⟨v1,h,r1⟩=>⟨v1,h.kept c e d,Rep.kept c e d r1⟩
 |.lett ..,_,⟨v1,v2,h,r1,r2⟩=>⟨v1,v2,h.kept c e d,Rep.kept c e d r1,Rep.kept c e d r2⟩
theorem Rep.node(h:Rep w lo hi t v):
  ∃b,(lo<=b/\b<hi)/\b<w.heap.size/\v=.iface (ptrT t) (pT b)/\w.cell? (aD b 0)=some (vI t.fr)/\w.cell? (aD b 1)=some (vI t.to):=by
 have c:∀ {fr to:Nat} {f:List Value} {d g:TypeId},nodeAt w lo hi fr to f d g v->∃b,(lo<=b/\b<hi)/\b<w.heap.size/\v=.iface d (pT b)/\w.cell? (aD b 0)=some (vI fr)/\w.cell? (aD b 1)=some (vI to):=by
  rintro fr to f d g ⟨b,i,j,k,e⟩;refine⟨b,⟨i,j⟩,(zgE.1 e).1,k,?_,?_⟩<;>(rw[mB w b _ _ _ _ e];simp)
 cases t with
 |name=>exact c h
 |int=>exact c h
 |truth=>exact c h
 |side=>exact c h
 |bracket=>obtain⟨_,h,_⟩:=h;exact c h
 |pair=>obtain⟨_,_,h,_⟩:=h;exact c h
 |call=>obtain⟨_,_,h,_⟩:=h;exact c h
 |binary=>obtain⟨_,_,h,_⟩:=h;exact c h
 |cond=>obtain⟨_,_,_,h,_⟩:=h;exact c h
 |fn=>obtain⟨_,h,_⟩:=h;exact c h
 |lett=>obtain⟨_,_,h,_⟩:=h;exact c h
theorem zcy(a:Addr)(w:World):Sem.run Tryz.prog (method 517 83 (.pointer (some a)) "Place") w=Sem.run Tryz.prog (do let v ←loadVar 85 a;pure (266,v)) w:=by kernel_rfl
theorem zf6(a:Addr)(w:World):Sem.run Tryz.prog (method 517 191 (.pointer (some a)) "Place") w=Sem.run Tryz.prog (do let v ←loadVar 85 a;pure (266,v)) w:=by kernel_rfl
theorem zav(a:Addr)(w:World):Sem.run Tryz.prog (method 517 195 (.pointer (some a)) "Place") w=Sem.run Tryz.prog (do let v ←loadVar 85 a;pure (266,v)) w:=by kernel_rfl
theorem zcz(a:Addr)(w:World):Sem.run Tryz.prog (method 517 199 (.pointer (some a)) "Place") w=Sem.run Tryz.prog (do let v ←loadVar 85 a;pure (266,v)) w:=by kernel_rfl
theorem Xh(a:Addr)(w:World):Sem.run Tryz.prog (method 517 204 (.pointer (some a)) "Place") w=Sem.run Tryz.prog (do let v ←loadVar 85 a;pure (266,v)) w:=by kernel_rfl
theorem zc0(a:Addr)(w:World):Sem.run Tryz.prog (method 517 207 (.pointer (some a)) "Place") w=Sem.run Tryz.prog (do let v ←loadVar 85 a;pure (266,v)) w:=by kernel_rfl
theorem zc1(a:Addr)(w:World):Sem.run Tryz.prog (method 517 209 (.pointer (some a)) "Place") w=Sem.run Tryz.prog (do let v ←loadVar 85 a;pure (266,v)) w:=by kernel_rfl
theorem Zd(a:Addr)(w:World):Sem.run Tryz.prog (method 517 211 (.pointer (some a)) "Place") w=Sem.run Tryz.prog (do let v ←loadVar 85 a;pure (266,v)) w:=by kernel_rfl
theorem zik(a:Addr)(w:World):Sem.run Tryz.prog (method 517 213 (.pointer (some a)) "Place") w=Sem.run Tryz.prog (do let v ←loadVar 85 a;pure (266,v)) w:=by kernel_rfl
theorem zf7(a:Addr)(w:World):Sem.run Tryz.prog (method 517 215 (.pointer (some a)) "Place") w=Sem.run Tryz.prog (do let v ←loadVar 85 a;pure (266,v)) w:=by kernel_rfl
theorem zf8(a:Addr)(w:World):Sem.run Tryz.prog (method 517 136 (.pointer (some a)) "Place") w=Sem.run Tryz.prog (do let v ←loadVar 85 a;pure (266,v)) w:=by kernel_rfl
theorem zil(t:Tw.T)(a:Addr)(w:World):Sem.run Tryz.prog (method 517 (ptrT t) (.pointer (some a)) "Place") w=Sem.run Tryz.prog (do let v ←loadVar 85 a;pure (266,v)) w:=by
 cases t with
 |name=>exact zcy a w
 |int=>exact zf6 a w
 |truth=>exact zav a w
 |side=>exact zcz a w
 |bracket=>exact Xh a w
 |pair=>exact zc0 a w
 |call=>exact zc1 a w
 |binary=>exact Zd a w
 |cond=>exact zik a w
 |fn=>exact zf7 a w
 |lett=>exact zf8 a w
theorem Sx(t:Tw.T)(b:Nat)(w:World)(x y:Int)(d:w.cell? (aD b 0)=some (vI x))(e:w.cell? (aD b 1)=some (vI y)):
  Sem.run Tryz.prog (method 517 (ptrT t) (.pointer (some ⟨b,0,none⟩)) "Place") w=.ok (266,.agg #[.int .i64 x,.int .i64 y]) w:=by
 rw[zil];have c:prog.cellsOf 85=2:=kR;go_simp
theorem Sy(w:World)(x y:Int):
  Calls prog 266 #[.agg #[vI x,vI y]] w λe c=>e=.returned (.agg #[vI x,vI y])/\w.grownBy c none:=by
 go_in;go_wp2_with fail;refine bodyPost_ret (v:=.agg #[vI x,vI y]) (by simp[results,results266,go_sem]) rfl ⟨rfl,?_⟩;exact Ai (Ai (Aa _) _) _
theorem Be{b:Nat}{x y:Value}{t:TypeId}(h:w.heap[b]?=some (.cells #[x,y] t (0,0))):
  w.cell? (aD b 0)=some x/\w.cell? (aD b 1)=some y/\w.frozen? (aD b 0)=false/\w.frozen? (aD b 1)=false:=by
 refine⟨?_,?_,eB _ _ _ _ _ h,eB _ _ _ _ _ h⟩<;>(rw[mB w b _ _ _ _ h];rfl)
theorem Wz(a b:Int)(w:World):Sem.run prog (Instr.field 85 (.agg #[vI a,vI b]) 0) w=.ok (vI a) w:=kR
theorem ze1(a b:Int)(w:World):Sem.run prog (Instr.field 85 (.agg #[vI a,vI b]) 1) w=.ok (vI b) w:=kR
theorem I5(w:World)(fr:Int)(h:Rep w lo hi t v):
    Calls prog 205 #[vI fr,v] w λe j=>e=.returned (.agg #[vI fr,vI t.to])/\w.grownBy j none:=by
  obtain⟨b,_,q,rfl,l,m⟩:=h.node;have p:=ze1;have r:=Sx t b (w.alloc (.cells #[vI 0,vI 0] 85)) t.fr t.to (by go_simp) (by go_simp);generalize ptrT t=T at *
  go_in;go_wp2_with (go_at_call 266;refine(Sy _ _ _).mono ?_;rintro e k ⟨rfl,c⟩;have g:Hid (w.grownBy k none):=Ab (Ai (Aa _) _) c;have i:=Be ((c.block _ sM sM).trans (Ac w _));obtain⟨d,f,n,o⟩:=i;clear c)
  refine bodyPost_ret (v:=.agg #[vI fr,vI t.to]) (by simp[results,results205,go_sem,d,f]) rfl ⟨rfl,?_⟩;exact Rh (Rh g.o (znL _) _ _) (znL _) _ _
end
section
open Tw Go.Proofs.Tryz
open Go.RowKit
variable{w w':World}{lo lo' hi hi':Nat}{t:Tw.T}{v:Value}
theorem Rep.grown(h:Rep w lo hi t v)(c:w.grownBy w' none)(e:lo'<=lo)(d:hi<=hi'):Rep w' lo' hi' t v:=
 Rep.kept (λb _ _ a=>c.block b a sM) e d h
theorem Rep.keep{bp:Nat}(h:Rep w lo hi t v)(c:Keep bp w w')(g:bp<lo)(e:lo'<=lo)(d:hi<=hi'):Rep w' lo' hi' t v:=
 Rep.kept (λb f _ a=>c.block b a (by simp;omega)) e d h
theorem Rep.set(h:Rep w lo hi t v){b j:Nat}(u:Value)(f:b<lo\/hi<=b)(c:lo'<=lo)(a:hi<=hi'):Rep (w.setCell (aD b j) u) lo' hi' t v:=
 Rep.kept (λk d e _=>aA w (aD b j) k u (by simp;omega)) c a h
theorem Rep.wide(h:Rep w lo hi t v)(b:lo'<=lo)(a:hi<=hi'):Rep w lo' hi' t v:=
 Rep.kept (λ_ _ _ _=>rfl) b a h
theorem Qp(w:World)(k:Int){l r:Tw.T}{v1 v2:Value}(g:Rep w lo hi l v1)(h:Rep w lo hi r v2)(_hlo:lo<=w.heap.size)(_hhi:hi<=w.heap.size):
    Calls prog 207 #[vI k,v1,v2] w λe w'=>∃v,e=.returned v/\w.grownBy w' none/\Rep w' lo w'.heap.size (.binary l.fr r.to k l r) v:=by
  have m:Hid (Rep w lo hi l v1):=g;have d:Hid (Rep w lo hi r v2):=h;obtain⟨f,_,A,j,n,o⟩:=g.node;have x:Hid (v1=.iface (ptrT l) (pT f)):=j;obtain⟨y,_,_,p,_,_⟩:=h.node;have z:=Wz;have B:=Sx l f w l.fr l.to n o;generalize ptrT l=T at *;generalize ptrT r=T2 at *;subst j p
  go_in;go_wp2_with (first
    |(go_at_call 266;refine(Sy _ _ _).mono ?_;rintro e q ⟨rfl,a⟩;have i:Hid (w.grownBy q none):=a;clear a)
    |(go_at_call 205;refine(I5 _ _ (d.o.grown i.o (znL _) (znL _))).mono ?_;rintro e c ⟨rfl,a⟩;have b:Hid (w.grownBy c none):=Ab i.o a;clear a))
  go_ret;refine⟨_,rfl,Ai b.o _,?_⟩;have C:=b.o.size;exact⟨_,_,⟨c.heap.size,oM,sM,rfl,Ac c _⟩,m.o.grown (Ai b.o _) (znL _) (by simp;omega),d.o.grown (Ai b.o _) (znL _) (by simp;omega)⟩
def Said.ParseInt:Prop:=∀(s:ByteArray) (_:s.size<=300) (v:Int) (_:Lib.parseIntB 64 s.data.toList=.ok v) (w:World),
  Calls prog 239 #[.string s,.int .i64 10,.int .i64 64] w λe w'=>e=.returned (.tuple #[.int .i64 v,.nilIface])/\w.grownBy w' none
theorem zf9(b:Said.ParseInt)(s:ByteArray)(d:s.size<=300)(v:Int)(f:Lib.parseIntB 64 s.data.toList=.ok v)(w:World):
  Calls prog 238 #[.string s] w λe w'=>e=.returned (vI v)/\w.grownBy w' none:=by
 have a:Hid (Lib.parseIntB 64 s.data.toList=.ok v):=f
 go_in;go_wp2_with (go_at_call 239;refine(b _ d _ a.o _).mono ?_;rintro e g ⟨rfl,c⟩);go_ret;exact⟨rfl,c⟩
theorem Cz(n:Int)(w:World):
  Calls prog 234 #[vI n] w λe w'=>e=.returned (.bool (Aj n))/\w=w':=by
 go_in
 go_wp2
 all_goals (go_ret;go_light;exact⟨Ei (by simp_all[Aj]),rfl⟩)
section
variable {w w':World}{bp gt cap:Nat}{cur:Array Value}{s:ByteArray}{ts:List Tw.Tok}{st:Tw.PS}
theorem Iu(s:ByteArray)(a b:Nat):s.extract a b=⟨(Bf s.data.toList a b).toArray⟩:=by
 apply zcu;rw[Lib.extract_data];rfl
theorem Vk(h:PCtx w bp gt cap cur s ts st){g:List UInt8}{a:Nat}{st':PS}(i:Tw.Ci s.data.toList ts st=some ((g,a),st')):
    Calls prog 204 #[pT bp] w λe w'=>e=.returned (.agg #[ug g,vI a])/\Keep bp w w'/\PCtx w' bp gt cap cur s ts st':=by
  unfold Tw.Ci at i;obtain⟨⟨t,j⟩,A,c⟩:=zbE.1 i;split at c;rotate_left
  · cases c
  rename_i y;obtain⟨r,x⟩:=y;simp only[zsI,zpI]at c;obtain⟨⟨rfl,rfl⟩,rfl⟩:=c;have q:s.data.toList.length=s.size:=rfl;rw[q]at x;simp only at r;have P:=h.size;have k:Hid (PCtx w bp gt cap cur s ts st):=h;have l:Hid (Tw.Au ts 1 st=some (t,j)):=A;have J:=h.Gp;have M:=h.Hs
  go_in;go_wp2_with (first
    |(go_at_call 82;refine(Cy (k.o.alloc _) _ l.o).mono ?_;rintro e d ⟨rfl,b,f⟩;have o:Hid (PCtx d bp gt cap cur s ts j):=f;have p:Hid (Keep bp w d):=((Keep.refl bp w).alloc _).trans b;have z:w.heap.size<d.heap.size:=(by have:=b.size;simp at this;omega);have B:=Be (b.at (Ac w _) oM);obtain⟨m,n,H,I⟩:=B;obtain⟨Q,C,D,E,F,G⟩:=f.p;have L:bp<d.heap.size:=oM;clear b f C D E F G))
  have N:(t.fr:Int)<=(t.to:Int):=oM;have O:(t.to:Int)<=(s.size:Int):=oM;go_region;go_wp2_with fail;refine bodyPost_ret (v:=.agg #[.string (s.extract t.fr t.to),vI t.fr]) (by simp[results,results204,go_sem,m,n,z]) rfl ⟨?_,?_,?_⟩
  · rw[Iu]
  · go_light
    exact(((p.o.setNew _ _ _ (znL _)).setNew _ _ _ (znL _)).alloc _).drew
  · go_light
    exact(((o.o.setOther _ _ _ oM oM).setOther _ _ _ oM oM).alloc _).drew
end
end
section
open Tw Go.Proofs.Tryz
open Go.RowKit
variable{n bp gt cap:Nat}{w:World}{cur:Array Value}{s:ByteArray}{ts:List Tw.Tok}{st st':Tw.PS}{t:Tw.T}{tk:Tw.Tok}
def Jg(w:World)(bp gt cap:Nat)(cur:Array Value)(s:ByteArray)(ts:List Tw.Tok)(t:Tw.T)(st':PS)(e:Ending)(a:World):Prop:=
 ∃v,e=.returned v/\Keep bp w a/\PCtx a bp gt cap cur s ts st'/\Rep a w.heap.size a.heap.size t v
def Cf(f:FuncId)(S:List UInt8->List Tw.Tok->Nat->PS->Option (Tw.T×PS))(n:Nat):Prop:=
 ∀ {w:World} {bp gt cap:Nat} {cur:Array Value} {s:ByteArray} {ts:List Tw.Tok} {st:PS} {t:Tw.T} {st':PS},
  PCtx w bp gt cap cur s ts st->S s.data.toList ts n st=some (t,st')->Calls prog f #[.pointer (some ⟨bp,0,none⟩)] w (Jg w bp gt cap cur s ts t st')
theorem zim(o:Cf 156 letS n)
    (h:PCtx w bp gt cap cur s ts st) (q:tokS ts st=some tk) (p:letS s.data.toList ts n st=some (t,st')) (r:(tk.sort==3)=true) :
    Calls prog 81 #[pT bp] w (Jg w bp gt cap cur s ts t st'):=by
  have c:Hid (PCtx w bp gt cap cur s ts st):=h;have k:Hid (tokS ts st=some tk):=q;have j:Hid (letS s.data.toList ts n st=some (t,st')):=p;have x:=Ip
  go_in;go_wp2_with (first
    |(go_at_call 155;refine(Ca c.o k.o).mono ?_;rintro l i ⟨rfl,b⟩;have m:Hid (PCtx i bp gt cap cur s ts st):=c.o.kept b;have e:Hid (w.grownBy i none):=b;clear b)
    |(go_at_call 156;refine(o m.o j.o).mono ?_;rintro l a ⟨v,rfl,f,d,g⟩;have X:Hid (Keep bp w a/\PCtx a bp gt cap cur s ts st'/\Rep a w.heap.size a.heap.size t v):=⟨(Keep.of_none e.o).trans f,d,g.wide e.o.size (znL _)⟩;clear f d g))
  go_ret;exact⟨_,rfl,X.o⟩
theorem Xi(o:Cf 157 funS n)
    (h:PCtx w bp gt cap cur s ts st) (q:tokS ts st=some tk) (p:funS s.data.toList ts n st=some (t,st')) (r:(tk.sort==3)=false) (x:(tk.sort==6)=true) :
    Calls prog 81 #[pT bp] w (Jg w bp gt cap cur s ts t st'):=by
  have c:Hid (PCtx w bp gt cap cur s ts st):=h;have k:Hid (tokS ts st=some tk):=q;have j:Hid (funS s.data.toList ts n st=some (t,st')):=p;have y:=Ip
  go_in;go_wp2_with (first
    |(go_at_call 155;refine(Ca c.o k.o).mono ?_;rintro l i ⟨rfl,b⟩;have m:Hid (PCtx i bp gt cap cur s ts st):=c.o.kept b;have e:Hid (w.grownBy i none):=b;clear b)
    |(go_at_call 157;refine(o m.o j.o).mono ?_;rintro l a ⟨v,rfl,f,d,g⟩;have X:Hid (Keep bp w a/\PCtx a bp gt cap cur s ts st'/\Rep a w.heap.size a.heap.size t v):=⟨(Keep.of_none e.o).trans f,d,g.wide e.o.size (znL _)⟩;clear f d g))
  go_ret;exact⟨_,rfl,X.o⟩
theorem zaw(o:Cf 158 Ee n)
    (h:PCtx w bp gt cap cur s ts st) (q:tokS ts st=some tk) (p:Ee s.data.toList ts n st=some (t,st')) (r:(tk.sort==3)=false) (x:(tk.sort==6)=false) (y:(tk.sort==7)=true) :
    Calls prog 81 #[pT bp] w (Jg w bp gt cap cur s ts t st'):=by
  have c:Hid (PCtx w bp gt cap cur s ts st):=h;have k:Hid (tokS ts st=some tk):=q;have j:Hid (Ee s.data.toList ts n st=some (t,st')):=p;have z:=Ip
  go_in;go_wp2_with (first
    |(go_at_call 155;refine(Ca c.o k.o).mono ?_;rintro l i ⟨rfl,b⟩;have m:Hid (PCtx i bp gt cap cur s ts st):=c.o.kept b;have e:Hid (w.grownBy i none):=b;clear b)
    |(go_at_call 158;refine(o m.o j.o).mono ?_;rintro l a ⟨v,rfl,f,d,g⟩;have X:Hid (Keep bp w a/\PCtx a bp gt cap cur s ts st'/\Rep a w.heap.size a.heap.size t v):=⟨(Keep.of_none e.o).trans f,d,g.wide e.o.size (znL _)⟩;clear f d g))
  go_ret;exact⟨_,rfl,X.o⟩
theorem U6(o:Cf 159 cmpS n)
    (h:PCtx w bp gt cap cur s ts st) (q:tokS ts st=some tk) (p:cmpS s.data.toList ts n st=some (t,st')) (r:(tk.sort==3)=false) (x:(tk.sort==6)=false) (y:(tk.sort==7)=false) :
    Calls prog 81 #[pT bp] w (Jg w bp gt cap cur s ts t st'):=by
  have c:Hid (PCtx w bp gt cap cur s ts st):=h;have k:Hid (tokS ts st=some tk):=q;have j:Hid (cmpS s.data.toList ts n st=some (t,st')):=p;have z:=Ip
  go_in;go_wp2_with (first
    |(go_at_call 155;refine(Ca c.o k.o).mono ?_;rintro l i ⟨rfl,b⟩;have m:Hid (PCtx i bp gt cap cur s ts st):=c.o.kept b;have e:Hid (w.grownBy i none):=b;clear b)
    |(go_at_call 159;refine(o m.o j.o).mono ?_;rintro l a ⟨v,rfl,f,d,g⟩;have X:Hid (Keep bp w a/\PCtx a bp gt cap cur s ts st'/\Rep a w.heap.size a.heap.size t v):=⟨(Keep.of_none e.o).trans f,d,g.wide e.o.size (znL _)⟩;clear f d g))
  go_ret;exact⟨_,rfl,X.o⟩
theorem zga(j:Cf 156 letS n)(i:Cf 157 funS n)(g:Cf 158 Ee n)(k:Cf 159 cmpS n):
  Cf 81 A8 (n+1):=by
 intro w bp gt cap cur s ts st t st' h f;rw[A8]at f;obtain⟨tk,e,a⟩:=zbE.1 f;by_cases b:tk.sort=3
 ·rw[mA b]at a;exact zim j h e a (by simp[b])
 ·rw[jA b]at a;by_cases c:tk.sort=6
  ·rw[mA c]at a;exact Xi i h e a (by simp[b]) (by simp[c])
  ·rw[jA c]at a;by_cases d:tk.sort=7
   ·rw[mA d]at a;exact zaw g h e a (by simp[b]) (by simp[c]) (by simp[d])
   ·rw[jA d]at a;exact U6 k h e a (by simp[b]) (by simp[c]) (by simp[d])
theorem zin(hE:Cf 81 A8 n):
    Cf 157 funS (n+1):=by
  intro w bp gt cap cur s ts st t st' h hf0;rw[funS]at hf0;obtain⟨⟨bfr,st1⟩,hb,hf1⟩:=zbE.1 hf0;obtain⟨⟨⟨bn,bat⟩,st2⟩,hbd,hf2⟩:=zbE.1 hf1;obtain⟨⟨ta,st3⟩,ha,hf3⟩:=zbE.1 hf2;obtain⟨⟨x,st4⟩,hx,hf4⟩:=zbE.1 hf3;obtain⟨st5,he,hf5⟩:=zbE.1 hf4;simp only[zsI,zpI]at hf5;obtain⟨rfl,rfl⟩:=hf5;simp only at hbd ha hx he;have HH:Hid (PCtx w bp gt cap cur s ts st):=h;have H1:Hid (Cv ts 6 st=some (bfr,st1)):=hb;have H2:Hid (Tw.Ci s.data.toList ts st1=some ((bn,bat),st2)):=hbd;have H3:Hid (Tw.Au ts 14 st2=some (ta,st3)):=ha;have H4:Hid (A8 s.data.toList ts n st3=some (x,st4)):=hx;have H5:Hid (Tw.endS st4=some st5):=he;have hbp:=h.Gp;have hgt:=h.Hs;go_enter_defers func157,ntmps157;go_wp2_with (first
    |(go_at_call 201;refine(Ma HH.o _ H1.o).mono ?_;rintro e w1 ⟨rfl,hk,h⟩;have P1:Hid (PCtx w1 bp gt cap cur s ts st1):=h;have K1:Hid (Keep bp w w1):=hk;have z1:w.heap.size<=w1.heap.size:=hk.size;clear hk h)
    |(go_at_call 204;refine(Vk P1.o H2.o).mono ?_;rintro e w2 ⟨rfl,hk,h⟩;have P2:Hid (PCtx w2 bp gt cap cur s ts st2):=h;have K2:Hid (Keep bp w w2):=K1.o.trans hk;have z2:w1.heap.size<=w2.heap.size:=hk.size;clear hk h)
    |(go_at_call 82;refine(Cy (P2.o.alloc _) _ H3.o).mono ?_;rintro e w3 ⟨rfl,hk,h⟩;have P3:Hid (PCtx w3 bp gt cap cur s ts st3):=h;have K3:Hid (Keep bp w w3):=(K2.o.alloc _).trans hk;have z3:w2.heap.size<w3.heap.size:=(by have:=hk.size;simp at this;omega);have N3:Hid (w3.heap[w2.heap.size]?=some (.cells #[vI 0,vI 0,ug bn,vI bat,.nilIface] 235 (0,0))):=hk.at (Ac w2 _) oM;clear hk h)
    |(go_at_call 81;refine(hE P3.o H4.o).mono ?_;rintro e w4 ⟨v,rfl,hk,h,r⟩;have P4:Hid (PCtx w4 bp gt cap cur s ts st4):=h;have K4:Hid (Keep bp w w4):=K3.o.trans hk;have z4:w3.heap.size<=w4.heap.size:=hk.size;have N4:Hid (w4.heap[w2.heap.size]?=some (.cells #[vI 0,vI 0,ug bn,vI bat,.nilIface] 235 (0,0))):=hk.at N3.o oM;obtain⟨vb,_,_,hv,_,_⟩:=r.node;generalize ptrT x=T at hv;subst hv;have R4:Hid (Rep w4 w3.heap.size w4.heap.size x (.iface T (pT vb))):=r;have c4:w4.cell? (aD w2.heap.size 4)=some .nilIface:=zcR N4.o;have f4:=eB _ _ 4 _ _ N4.o;clear hk h r)
    |(go_at_call 205;refine(I5 _ _ (R4.o.set _ (.inl z3) (znL _) (znL _))).mono ?_;rintro e w5 ⟨rfl,hg⟩;have N4':Hid ((w4.setCell (aD w2.heap.size 4) (.iface T (pT vb))).heap[w2.heap.size]?=some (.cells #[vI 0,vI 0,ug bn,vI bat,.iface T (pT vb)] 235 (0,0))):=(by show _=_;rw[cD _ _ _ _ _ _ N4.o];rfl);have N5:Hid (w5.heap[w2.heap.size]?=some (.cells #[vI 0,vI 0,ug bn,vI bat,.iface T (pT vb)] 235 (0,0))):=(Keep.of_none (bp:=bp) hg).at N4'.o oM;have P5:Hid (PCtx w5 bp gt cap cur s ts st4):=(P4.o.setOther _ _ _ oM oM).kept hg;have K5:Hid (Keep bp w w5):=(K4.o.setNew _ _ _ oM).trans (Keep.of_none hg);have R5:Hid (Rep w5 w3.heap.size w4.heap.size x (.iface T (pT vb))):=(R4.o.set _ (.inl z3) (znL _) (znL _)).grown hg (znL _) (znL _);have K5s:Hid (w4.heap.size<=w5.heap.size):=(by show _<=_;have:=hg.size;simpa using this);have d0:w5.cell? (aD w2.heap.size 0)=some (vI 0):=zcR N5.o;have d1:w5.cell? (aD w2.heap.size 1)=some (vI 0):=zcR N5.o;have g0:=eB _ _ 0 _ _ N5.o;have g1:=eB _ _ 1 _ _ N5.o;clear hg))
  refine leaves_cons (f:=202) (args:=#[pT bp]) sM (by simp[go_sem]) ?_;refine(Ht ((P5.o.setOther _ _ _ oM oM).setOther _ _ _ oM oM) .returning H5.o).mono ?_;rintro e u' w6 ⟨rfl,rfl,hk6,h6⟩;refine⟨_,results_tmp rfl _ _ _,?_⟩;go_light;have N6:((w5.setCell (aD w2.heap.size 0) (vI bfr)).setCell (aD w2.heap.size 1) (vI x.to)).heap[w2.heap.size]?=some (.cells #[vI bfr,vI x.to,ug bn,vI bat,.iface T (pT vb)] 235 (0,0)):=by
    rw[cD _ _ _ _ _ _ (cD _ _ _ _ _ _ N5.o)];rfl
  refine⟨_,rfl,((K5.o.setNew _ _ _ oM).setNew _ _ _ oM).trans hk6,h6,?_⟩;have z6:=hk6.size;have z5:=K5s.o;simp at z6;exact⟨_,⟨w2.heap.size,oM,oM,rfl,hk6.at N6 oM⟩,((R5.o.set _ (.inl z3) (znL _) (znL _)).set _ (.inl z3) (znL _) (znL _)).keep hk6 oM oM oM⟩
end
section
open Tw Go.Proofs.Tryz
open Go.RowKit
section
variable {w w':World}{bp gt cap:Nat}{cur:Array Value}{s:ByteArray}{ts:List Tw.Tok}{st:Tw.PS}
variable{r:Int}{st':Tw.PS}
theorem W8(h:PCtx w bp gt cap cur s ts st)(a:Int)(d:Ar ts [a] st=some (r,st')):
  Calls prog 203 #[pT bp,sL w.heap.size 1 1] (w.alloc (.cells #[vI a] 172)) λe w'=>e=.returned (vI r)/\(Keep bp w w'/\w.heap.size<w'.heap.size)/\PCtx w' bp gt cap cur s ts st':=by
 have f:=h.Gp;refine(Hl (h.alloc _) [a] w.heap.size sM (Ac w _) oM d).mono ?_;rintro e w' ⟨rfl,b,c⟩;exact⟨rfl,⟨((Keep.refl bp w).alloc _).trans b,by have:=b.size;simp at this;omega⟩,c⟩
theorem zcr(h:PCtx w bp gt cap cur s ts st)(a b:Int)(f:Ar ts [a,b] st=some (r,st')):
  Calls prog 203 #[pT bp,sL w.heap.size 2 2] (w.alloc (.cells #[vI a,vI b] 172)) λe w'=>e=.returned (vI r)/\(Keep bp w w'/\w.heap.size<w'.heap.size)/\PCtx w' bp gt cap cur s ts st':=by
 have g:=h.Gp;refine(Hl (h.alloc _) [a,b] w.heap.size sM (Ac w _) oM f).mono ?_;rintro e w' ⟨rfl,c,d⟩;exact⟨rfl,⟨((Keep.refl bp w).alloc _).trans c,by have:=c.size;simp at this;omega⟩,d⟩
end
theorem zio{n:Nat}(hE:Cf 81 A8 n):
    Cf 156 letS (n+1):=by
  intro w bp gt cap cur s ts st t st' h hf0;rw[letS]at hf0;obtain⟨⟨bfr,st1⟩,hb,hf1⟩:=zbE.1 hf0;obtain⟨⟨rc,st2⟩,hrc,hf2⟩:=zbE.1 hf1;obtain⟨⟨⟨bn,bat⟩,st3⟩,hbd,hf3⟩:=zbE.1 hf2;obtain⟨⟨ta,st4⟩,ha,hf4⟩:=zbE.1 hf3;obtain⟨⟨d,st5⟩,hd,hf5⟩:=zbE.1 hf4;obtain⟨⟨ti,st6⟩,hi,hf6⟩:=zbE.1 hf5;obtain⟨⟨x,st7⟩,hx,hf7⟩:=zbE.1 hf6;obtain⟨st8,he,hf8⟩:=zbE.1 hf7;simp only[zsI,zpI]at hf8;obtain⟨rfl,rfl⟩:=hf8;simp only at hrc hbd ha hd hi hx he;have HH:Hid (PCtx w bp gt cap cur s ts st):=h;have H1:Hid (Cv ts 3 st=some (bfr,st1)):=hb;have H2:Hid (Ar ts [4] st1=some (rc,st2)):=hrc;have H3:Hid (Tw.Ci s.data.toList ts st2=some ((bn,bat),st3)):=hbd;have H4:Hid (Tw.Au ts 15 st3=some (ta,st4)):=ha;have H5:Hid (A8 s.data.toList ts n st4=some (d,st5)):=hd;have H6:Hid (Tw.Au ts 5 st5=some (ti,st6)):=hi;have H7:Hid (A8 s.data.toList ts n st6=some (x,st7)):=hx;have H8:Hid (Tw.endS st7=some st8):=he;have hbp:=h.Gp;have hgt:=h.Hs;go_enter_defers func156,ntmps156;go_wp2_with (first
    |(go_at_call 201;refine(Ma HH.o _ H1.o).mono ?_;rintro e w1 ⟨rfl,hk,h⟩;have P1:Hid (PCtx w1 bp gt cap cur s ts st1):=h;have K1:Hid (Keep bp w w1):=hk;have z1:w.heap.size<=w1.heap.size:=hk.size;clear hk h)
    |(go_at_call 203;refine(W8 P1.o 4 H2.o).mono ?_;rintro e w2 ⟨rfl,⟨hk,hz⟩,h⟩;have P2:Hid (PCtx w2 bp gt cap cur s ts st2):=h;have K2:Hid (Keep bp w w2):=K1.o.trans hk;have z2:w1.heap.size<w2.heap.size:=hz;clear hk h hz)
    |(go_at_call 204;refine(Vk (P2.o.alloc _) H3.o).mono ?_;rintro e w3 ⟨rfl,hk,h⟩;have P3:Hid (PCtx w3 bp gt cap cur s ts st3):=h;have K3:Hid (Keep bp w w3):=(K2.o.alloc _).trans hk;have z3:w2.heap.size<w3.heap.size:=(by have:=hk.size;simp at this;omega);have N3:Hid (w3.heap[w2.heap.size]?=some (.cells #[vI 0,vI 0,.bool (rc==4),.string ⟨#[]⟩,vI 0,.nilIface,.nilIface] 140 (0,0))):=hk.at (Ac w2 _) oM;have c3:w3.cell? (aD w2.heap.size 3)=some (.string ⟨#[]⟩):=zcR N3.o;have c4:w3.cell? (aD w2.heap.size 4)=some (vI 0):=zcR N3.o;have f3:=eB _ _ 3 _ _ N3.o;have f4:=eB _ _ 4 _ _ N3.o;clear hk h))
  -- the sign
  have N3b:Hid (((w3.setCell (aD w2.heap.size 3) (.string ⟨bn.toArray⟩)).setCell (aD w2.heap.size 4) (vI bat)).heap[w2.heap.size]?=some (.cells #[vI 0,vI 0,.bool (rc==4),ug bn,vI bat,.nilIface,.nilIface] 140 (0,0))):=by
    show _=_;rw[cD _ _ _ _ _ _ (cD _ _ _ _ _ _ N3.o)];rfl
  have P3b:=(P3.o.setOther w2.heap.size 3 (.string ⟨bn.toArray⟩) oM oM).setOther w2.heap.size 4 (vI bat) oM oM;have K3b:=(K3.o.setNew w2.heap.size 3 (.string ⟨bn.toArray⟩) oM).setNew w2.heap.size 4 (vI bat) oM;refine(Cy P3b _ H4.o).mono ?_;rintro e w4 ⟨rfl,hk,h⟩;have P4:Hid (PCtx w4 bp gt cap cur s ts st4):=h;have K4:Hid (Keep bp w w4):=K3b.trans hk;have z4:w3.heap.size<=w4.heap.size:=by have:=hk.size;simpa using this
  have N4:Hid (w4.heap[w2.heap.size]?=some (.cells #[vI 0,vI 0,.bool (rc==4),ug bn,vI bat,.nilIface,.nilIface] 140 (0,0))):=hk.at N3b.o oM;go_wp2_with fail
  -- the definition
  refine(hE P4.o H5.o).mono ?_;rintro e w5 ⟨v,rfl,hk,h,r⟩;have P5:Hid (PCtx w5 bp gt cap cur s ts st5):=h;have K5:Hid (Keep bp w w5):=K4.o.trans hk;have z5:w4.heap.size<=w5.heap.size:=hk.size;have N5:Hid (w5.heap[w2.heap.size]?=some (.cells #[vI 0,vI 0,.bool (rc==4),ug bn,vI bat,.nilIface,.nilIface] 140 (0,0))):=hk.at N4.o oM;obtain⟨b1,_,_,hv,_,_⟩:=r.node;generalize ptrT d=T1 at hv;subst hv;have R5:Hid (Rep w5 w4.heap.size w5.heap.size d (.iface T1 (pT b1))):=r;have c5:w5.cell? (aD w2.heap.size 5)=some .nilIface:=zcR N5.o;have f5:=eB _ _ 5 _ _ N5.o;go_wp2_with fail
  -- 'in'
  have N5b:Hid ((w5.setCell (aD w2.heap.size 5) (.iface T1 (pT b1))).heap[w2.heap.size]?=some (.cells #[vI 0,vI 0,.bool (rc==4),ug bn,vI bat,.iface T1 (pT b1),.nilIface] 140 (0,0))):=by
    show _=_;rw[cD _ _ _ _ _ _ N5.o];rfl
  have P5b:=P5.o.setOther w2.heap.size 5 (.iface T1 (pT b1)) oM oM;have K5b:=K5.o.setNew w2.heap.size 5 (.iface T1 (pT b1)) oM;have R5b:=R5.o.set (b:=w2.heap.size) (j:=5) (lo':=w4.heap.size) (.iface T1 (pT b1)) (.inl oM) (znL _) (znL _);refine(Cy P5b _ H6.o).mono ?_;rintro e w6 ⟨rfl,hk,h⟩;have P6:Hid (PCtx w6 bp gt cap cur s ts st6):=h;have K6:Hid (Keep bp w w6):=K5b.trans hk;have z6:w5.heap.size<=w6.heap.size:=by have:=hk.size;simpa using this
  have N6:Hid (w6.heap[w2.heap.size]?=some (.cells #[vI 0,vI 0,.bool (rc==4),ug bn,vI bat,.iface T1 (pT b1),.nilIface] 140 (0,0))):=hk.at N5b.o oM;have R6:Hid (Rep w6 w4.heap.size w5.heap.size d (.iface T1 (pT b1))):=R5b.keep hk oM (znL _) (znL _);go_wp2_with fail
  -- the body
  refine(hE P6.o H7.o).mono ?_;rintro e w7 ⟨v,rfl,hk,h,r⟩;have P7:Hid (PCtx w7 bp gt cap cur s ts st7):=h;have K7:Hid (Keep bp w w7):=K6.o.trans hk;have z7:w6.heap.size<=w7.heap.size:=hk.size;have N7:Hid (w7.heap[w2.heap.size]?=some (.cells #[vI 0,vI 0,.bool (rc==4),ug bn,vI bat,.iface T1 (pT b1),.nilIface] 140 (0,0))):=hk.at N6.o oM;have R7d:Hid (Rep w7 w4.heap.size w5.heap.size d (.iface T1 (pT b1))):=R6.o.keep hk oM (znL _) (znL _);obtain⟨b2,_,_,hv,_,_⟩:=r.node;generalize ptrT x=T2 at hv;subst hv;have R7:Hid (Rep w7 w6.heap.size w7.heap.size x (.iface T2 (pT b2))):=r;have c6:w7.cell? (aD w2.heap.size 6)=some .nilIface:=zcR N7.o;have f6:=eB _ _ 6 _ _ N7.o;go_wp2_with fail
  -- the span
  have N7b:Hid ((w7.setCell (aD w2.heap.size 6) (.iface T2 (pT b2))).heap[w2.heap.size]?=some (.cells #[vI 0,vI 0,.bool (rc==4),ug bn,vI bat,.iface T1 (pT b1),.iface T2 (pT b2)] 140 (0,0))):=by
    show _=_;rw[cD _ _ _ _ _ _ N7.o];rfl
  have P7b:=P7.o.setOther w2.heap.size 6 (.iface T2 (pT b2)) oM oM;have K7b:=K7.o.setNew w2.heap.size 6 (.iface T2 (pT b2)) oM;have R7db:=R7d.o.set (b:=w2.heap.size) (j:=6) (lo':=w4.heap.size) (.iface T2 (pT b2)) (.inl oM) (znL _) (znL _);have R7b:=R7.o.set (b:=w2.heap.size) (j:=6) (lo':=w6.heap.size) (.iface T2 (pT b2)) (.inl oM) (znL _) (znL _);refine(I5 _ _ R7b).mono ?_;rintro e w8 ⟨rfl,hg⟩;have P8:Hid (PCtx w8 bp gt cap cur s ts st7):=P7b.kept hg;have K8:Hid (Keep bp w w8):=K7b.trans (Keep.of_none hg);have N8:Hid (w8.heap[w2.heap.size]?=some (.cells #[vI 0,vI 0,.bool (rc==4),ug bn,vI bat,.iface T1 (pT b1),.iface T2 (pT b2)] 140 (0,0))):=(Keep.of_none (bp:=bp) hg).at N7b.o oM;have R8d:Hid (Rep w8 w4.heap.size w5.heap.size d (.iface T1 (pT b1))):=R7db.grown hg (znL _) (znL _);have R8:Hid (Rep w8 w6.heap.size w7.heap.size x (.iface T2 (pT b2))):=R7b.grown hg (znL _) (znL _);have z8:w7.heap.size<=w8.heap.size:=by have:=hg.size;simpa using this
  have d0:w8.cell? (aD w2.heap.size 0)=some (vI 0):=zcR N8.o;have d1:w8.cell? (aD w2.heap.size 1)=some (vI 0):=zcR N8.o;have g0:=eB _ _ 0 _ _ N8.o;have g1:=eB _ _ 1 _ _ N8.o;go_wp2_with fail;refine leaves_cons (f:=202) (args:=#[pT bp]) sM (by simp[go_sem]) ?_;refine(Ht ((P8.o.setOther _ _ _ oM oM).setOther _ _ _ oM oM) .returning H8.o).mono ?_;rintro e u' w9 ⟨rfl,rfl,hk9,h9⟩;refine⟨_,results_tmp rfl _ _ _,?_⟩;go_light;have N9:((w8.setCell (aD w2.heap.size 0) (vI bfr)).setCell (aD w2.heap.size 1) (vI x.to)).heap[w2.heap.size]?=some (.cells #[vI bfr,vI x.to,.bool (rc==4),ug bn,vI bat,.iface T1 (pT b1),.iface T2 (pT b2)] 140 (0,0)):=by
    rw[cD _ _ _ _ _ _ (cD _ _ _ _ _ _ N8.o)];rfl
  refine⟨_,rfl,((K8.o.setNew _ _ _ oM).setNew _ _ _ oM).trans hk9,h9,?_⟩;have z9:=hk9.size;simp at z9;exact⟨_,_,⟨w2.heap.size,oM,oM,rfl,hk9.at N9 oM⟩,((R8d.o.set _ (.inl oM) (znL _) (znL _)).set _ (.inl oM) (znL _) (znL _)).keep hk9 oM oM oM,((R8.o.set _ (.inl oM) (znL _) (znL _)).set _ (.inl oM) (znL _) (znL _)).keep hk9 oM oM oM⟩
end
section
open Tw Go.Proofs.Tryz
open Go.RowKit
theorem zgb{n:Nat}(hE:Cf 81 A8 n):
  Cf 158 Ee (n+1):=by
 intro w bp gt cap cur s ts st t st' h hf0;rw[Ee]at hf0;obtain⟨⟨bfr,st1⟩,hb,hf1⟩:=zbE.1 hf0;obtain⟨⟨c,st2⟩,hc,hf2⟩:=zbE.1 hf1;obtain⟨⟨ta,st3⟩,ha,hf3⟩:=zbE.1 hf2;obtain⟨⟨x,st4⟩,hx,hf4⟩:=zbE.1 hf3;obtain⟨⟨tb,st5⟩,hb5,hf5⟩:=zbE.1 hf4;obtain⟨⟨y,st6⟩,hy,hf6⟩:=zbE.1 hf5;obtain⟨st7,he,hf7⟩:=zbE.1 hf6;simp only[zsI,zpI]at hf7;obtain⟨rfl,rfl⟩:=hf7;simp only at hc ha hx hb5 hy he;have HH:Hid (PCtx w bp gt cap cur s ts st):=h;have H1:Hid (Cv ts 7 st=some (bfr,st1)):=hb;have H2:Hid (A8 s.data.toList ts n st1=some (c,st2)):=hc;have H3:Hid (Tw.Au ts 8 st2=some (ta,st3)):=ha;have H4:Hid (A8 s.data.toList ts n st3=some (x,st4)):=hx;have H5:Hid (Tw.Au ts 9 st4=some (tb,st5)):=hb5;have H6:Hid (A8 s.data.toList ts n st5=some (y,st6)):=hy;have H7:Hid (Tw.endS st6=some st7):=he;have hbp:=h.Gp;have hgt:=h.Hs;go_enter_defers func158,ntmps158;go_wp2_with fail;refine(Ma HH.o _ H1.o).mono ?_;rintro e w1 ⟨rfl,hk,h⟩;have P1:Hid (PCtx w1 bp gt cap cur s ts st1):=h;have K1:Hid (Keep bp w w1):=hk;have z1:w.heap.size<=w1.heap.size:=hk.size;go_wp2_with fail
 -- the truth
 refine(hE P1.o H2.o).mono ?_;rintro e w2 ⟨v,rfl,hk,h,r⟩;have P2:Hid (PCtx w2 bp gt cap cur s ts st2):=h;have K2:Hid (Keep bp w w2):=K1.o.trans hk;have z2:w1.heap.size<=w2.heap.size:=hk.size;obtain⟨b1,_,_,hv,_,_⟩:=r.node;generalize ptrT c=T1 at hv;subst hv;have R2:Hid (Rep w2 w1.heap.size w2.heap.size c (.iface T1 (pT b1))):=r;go_wp2_with fail;refine(Cy (P2.o.alloc _) _ H3.o).mono ?_;rintro e w3 ⟨rfl,hk,h⟩;have P3:Hid (PCtx w3 bp gt cap cur s ts st3):=h;have K3:Hid (Keep bp w w3):=(K2.o.alloc _).trans hk;have z3:w2.heap.size<w3.heap.size:=by have:=hk.size;simp at this;omega
 have N3:Hid (w3.heap[w2.heap.size]?=some (.cells #[vI 0,vI 0,.iface T1 (pT b1),.nilIface,.nilIface] 326 (0,0))):=hk.at (Ac w2 _) oM;have R3:Hid (Rep w3 w1.heap.size w2.heap.size c (.iface T1 (pT b1))):=(R2.o.grown (zwA w2 _ none) (znL _) (znL _)).keep hk oM (znL _) (znL _);go_wp2_with fail
 -- then
 refine(hE P3.o H4.o).mono ?_;rintro e w4 ⟨v,rfl,hk,h,r⟩;have P4:Hid (PCtx w4 bp gt cap cur s ts st4):=h;have K4:Hid (Keep bp w w4):=K3.o.trans hk;have z4:w3.heap.size<=w4.heap.size:=hk.size;have N4:Hid (w4.heap[w2.heap.size]?=some (.cells #[vI 0,vI 0,.iface T1 (pT b1),.nilIface,.nilIface] 326 (0,0))):=hk.at N3.o oM;have R4c:Hid (Rep w4 w1.heap.size w2.heap.size c (.iface T1 (pT b1))):=R3.o.keep hk oM (znL _) (znL _);obtain⟨b2,_,_,hv,_,_⟩:=r.node;generalize ptrT x=T2 at hv;subst hv;have R4:Hid (Rep w4 w3.heap.size w4.heap.size x (.iface T2 (pT b2))):=r;have c3:w4.cell? (aD w2.heap.size 3)=some .nilIface:=zcR N4.o;have f3:=eB _ _ 3 _ _ N4.o;go_wp2_with fail;have N4b:Hid ((w4.setCell (aD w2.heap.size 3) (.iface T2 (pT b2))).heap[w2.heap.size]?=some (.cells #[vI 0,vI 0,.iface T1 (pT b1),.iface T2 (pT b2),.nilIface] 326 (0,0))):=by
  show _=_;rw[cD _ _ _ _ _ _ N4.o];rfl
 have P4b:=P4.o.setOther w2.heap.size 3 (.iface T2 (pT b2)) oM oM;have K4b:=K4.o.setNew w2.heap.size 3 (.iface T2 (pT b2)) oM;have R4b:=R4.o.set (b:=w2.heap.size) (j:=3) (lo':=w3.heap.size) (.iface T2 (pT b2)) (.inl oM) (znL _) (znL _);have R4cb:=R4c.o.set (b:=w2.heap.size) (j:=3) (lo':=w1.heap.size) (.iface T2 (pT b2)) (.inr oM) (znL _) (znL _);refine(Cy P4b _ H5.o).mono ?_;rintro e w5 ⟨rfl,hk,h⟩;have P5:Hid (PCtx w5 bp gt cap cur s ts st5):=h;have K5:Hid (Keep bp w w5):=K4b.trans hk;have z5:w4.heap.size<=w5.heap.size:=by have:=hk.size;simpa using this
 have N5:Hid (w5.heap[w2.heap.size]?=some (.cells #[vI 0,vI 0,.iface T1 (pT b1),.iface T2 (pT b2),.nilIface] 326 (0,0))):=hk.at N4b.o oM;have R5:Hid (Rep w5 w3.heap.size w4.heap.size x (.iface T2 (pT b2))):=R4b.keep hk oM (znL _) (znL _);have R5c:Hid (Rep w5 w1.heap.size w2.heap.size c (.iface T1 (pT b1))):=R4cb.keep hk oM (znL _) (znL _);go_wp2_with fail
 -- else
 refine(hE P5.o H6.o).mono ?_;rintro e w6 ⟨v,rfl,hk,h,r⟩;have P6:Hid (PCtx w6 bp gt cap cur s ts st6):=h;have K6:Hid (Keep bp w w6):=K5.o.trans hk;have z6:w5.heap.size<=w6.heap.size:=hk.size;have N6:Hid (w6.heap[w2.heap.size]?=some (.cells #[vI 0,vI 0,.iface T1 (pT b1),.iface T2 (pT b2),.nilIface] 326 (0,0))):=hk.at N5.o oM;have R6x:Hid (Rep w6 w3.heap.size w4.heap.size x (.iface T2 (pT b2))):=R5.o.keep hk oM (znL _) (znL _);have R6c:Hid (Rep w6 w1.heap.size w2.heap.size c (.iface T1 (pT b1))):=R5c.o.keep hk oM (znL _) (znL _);obtain⟨b3,_,_,hv,_,_⟩:=r.node;generalize ptrT y=T3 at hv;subst hv;have R6:Hid (Rep w6 w5.heap.size w6.heap.size y (.iface T3 (pT b3))):=r;have c4:w6.cell? (aD w2.heap.size 4)=some .nilIface:=zcR N6.o;have f4:=eB _ _ 4 _ _ N6.o;go_wp2_with fail;have N6b:Hid ((w6.setCell (aD w2.heap.size 4) (.iface T3 (pT b3))).heap[w2.heap.size]?=some (.cells #[vI 0,vI 0,.iface T1 (pT b1),.iface T2 (pT b2),.iface T3 (pT b3)] 326 (0,0))):=by
  show _=_;rw[cD _ _ _ _ _ _ N6.o];rfl
 have P6b:=P6.o.setOther w2.heap.size 4 (.iface T3 (pT b3)) oM oM;have K6b:=K6.o.setNew w2.heap.size 4 (.iface T3 (pT b3)) oM;have R6b:=R6.o.set (b:=w2.heap.size) (j:=4) (lo':=w5.heap.size) (.iface T3 (pT b3)) (.inl oM) (znL _) (znL _);have R6xb:=R6x.o.set (b:=w2.heap.size) (j:=4) (lo':=w3.heap.size) (.iface T3 (pT b3)) (.inl oM) (znL _) (znL _);have R6cb:=R6c.o.set (b:=w2.heap.size) (j:=4) (lo':=w1.heap.size) (.iface T3 (pT b3)) (.inr oM) (znL _) (znL _);refine(I5 _ _ R6b).mono ?_;rintro e w7 ⟨rfl,hg⟩;have P7:Hid (PCtx w7 bp gt cap cur s ts st6):=P6b.kept hg;have K7:Hid (Keep bp w w7):=K6b.trans (Keep.of_none hg);have N7:Hid (w7.heap[w2.heap.size]?=some (.cells #[vI 0,vI 0,.iface T1 (pT b1),.iface T2 (pT b2),.iface T3 (pT b3)] 326 (0,0))):=(Keep.of_none (bp:=bp) hg).at N6b.o oM;have R7:Hid (Rep w7 w5.heap.size w6.heap.size y (.iface T3 (pT b3))):=R6b.grown hg (znL _) (znL _);have R7x:Hid (Rep w7 w3.heap.size w4.heap.size x (.iface T2 (pT b2))):=R6xb.grown hg (znL _) (znL _);have R7c:Hid (Rep w7 w1.heap.size w2.heap.size c (.iface T1 (pT b1))):=R6cb.grown hg (znL _) (znL _);have z7:w6.heap.size<=w7.heap.size:=by have:=hg.size;simpa using this
 have d0:w7.cell? (aD w2.heap.size 0)=some (vI 0):=zcR N7.o;have d1:w7.cell? (aD w2.heap.size 1)=some (vI 0):=zcR N7.o;have g0:=eB _ _ 0 _ _ N7.o;have g1:=eB _ _ 1 _ _ N7.o;go_wp2_with fail;refine leaves_cons (f:=202) (args:=#[pT bp]) sM (by simp[go_sem]) ?_;refine(Ht ((P7.o.setOther _ _ _ oM oM).setOther _ _ _ oM oM) .returning H7.o).mono ?_;rintro e u' w9 ⟨rfl,rfl,hk9,h9⟩;refine⟨_,results_tmp rfl _ _ _,?_⟩;go_light;have N9:((w7.setCell (aD w2.heap.size 0) (vI bfr)).setCell (aD w2.heap.size 1) (vI y.to)).heap[w2.heap.size]?=some (.cells #[vI bfr,vI y.to,.iface T1 (pT b1),.iface T2 (pT b2),.iface T3 (pT b3)] 326 (0,0)):=by
  rw[cD _ _ _ _ _ _ (cD _ _ _ _ _ _ N7.o)];rfl
 refine⟨_,rfl,((K7.o.setNew _ _ _ oM).setNew _ _ _ oM).trans hk9,h9,?_⟩;have z9:=hk9.size;simp at z9;exact⟨_,_,_,⟨w2.heap.size,oM,oM,rfl,hk9.at N9 oM⟩,
  ((R7c.o.set _ (.inr oM) (znL _) (znL _)).set _ (.inr oM) (znL _) (znL _)).keep hk9 oM oM oM,
  ((R7x.o.set _ (.inl oM) (znL _) (znL _)).set _ (.inl oM) (znL _) (znL _)).keep hk9 oM oM oM,
  ((R7.o.set _ (.inl oM) (znL _) (znL _)).set _ (.inl oM) (znL _) (znL _)).keep hk9 oM oM oM⟩
end
section
open Tw Go.Proofs.Tryz
open Go.RowKit
theorem ziq{n:Nat}(hS:Cf 206 sumS n):
  Cf 159 cmpS (n+1):=by
 intro w bp gt cap cur s ts st t st' h hf0;rw[cmpS]at hf0;obtain⟨⟨a,st1⟩,ha,hf1⟩:=zbE.1 hf0;obtain⟨⟨sg,st2⟩,hsg,hf2⟩:=zbE.1 hf1;simp only at hsg hf2;have HH:Hid (PCtx w bp gt cap cur s ts st):=h;have H1:Hid (sumS s.data.toList ts n st=some (a,st1)):=ha;have H2:Hid (Ar ts [23,15] st1=some (sg,st2)):=hsg;have hbp:=h.Gp;by_cases hz:sg=0
 ·rw[mA hz]at hf2;simp only[zsI,zpI]at hf2;obtain⟨rfl,rfl⟩:=hf2;have bz:(sg != 0)=false:=by simp[hz]
  go_in;go_wp2_with fail;refine(hS HH.o H1.o).mono ?_;rintro e w1 ⟨v,rfl,hk,h,r⟩;have P1:Hid (PCtx w1 bp gt cap cur s ts st1):=h;have K1:Hid (Keep bp w w1):=hk;have R1:Hid (Rep w1 w.heap.size w1.heap.size a v):=r;have z1:=hk.size;go_wp2_with fail;refine(zcr P1.o 23 15 H2.o).mono ?_;rintro e w2 ⟨rfl,⟨hk,hz⟩,h⟩;have X:Hid (Keep bp w w2/\PCtx w2 bp gt cap cur s ts st2/\Rep w2 w.heap.size w2.heap.size a v):=⟨K1.o.trans hk,h,R1.o.keep hk hbp (znL _) oM⟩;go_wp2_with fail;go_ret;exact⟨_,rfl,X.o⟩
 ·rw[jA hz]at hf2;obtain⟨⟨b,st3⟩,hb,hf3⟩:=zbE.1 hf2;simp only[zsI,zpI]at hf3;obtain⟨rfl,rfl⟩:=hf3;have H3:Hid (sumS s.data.toList ts n st2=some (b,st3)):=hb;have bz:(sg != 0)=true:=by simp[hz]
  go_in;go_wp2_with fail;refine(hS HH.o H1.o).mono ?_;rintro e w1 ⟨v,rfl,hk,h,r⟩;have P1:Hid (PCtx w1 bp gt cap cur s ts st1):=h;have K1:Hid (Keep bp w w1):=hk;have R1:Hid (Rep w1 w.heap.size w1.heap.size a v):=r;have z1:=hk.size;go_wp2_with fail;refine(zcr P1.o 23 15 H2.o).mono ?_;rintro e w2 ⟨rfl,⟨hk,hz⟩,h⟩;have P2:Hid (PCtx w2 bp gt cap cur s ts st2):=h;have K2:Hid (Keep bp w w2):=K1.o.trans hk;have R2:Hid (Rep w2 w.heap.size w1.heap.size a v):=R1.o.keep hk hbp (znL _) (znL _);go_wp2_with fail;refine(hS P2.o H3.o).mono ?_;rintro e w3 ⟨v2,rfl,hk,h,r⟩;have P3:Hid (PCtx w3 bp gt cap cur s ts st3):=h;have K3:Hid (Keep bp w w3):=K2.o.trans hk;have z3:=hk.size;have R3:Hid (Rep w3 w.heap.size w3.heap.size a v):=R2.o.keep hk hbp (znL _) oM;have R3b:Hid (Rep w3 w.heap.size w3.heap.size b v2):=r.wide oM (znL _);go_wp2_with fail;refine(Qp w3 sg R3.o R3b.o oM (znL _)).mono ?_;rintro e w4 ⟨v3,rfl,hg,r⟩;have X:Hid (Keep bp w w4/\PCtx w4 bp gt cap cur s ts st3/\Rep w4 w.heap.size w4.heap.size (.binary a.fr b.to sg a b) v3):=⟨K3.o.trans (Keep.of_none hg),P3.o.kept hg,r⟩;go_wp2_with fail;go_ret;exact⟨_,rfl,X.o⟩
end
end Go.Proofs.YtckhafpejefbbaaGreatDoor
