import Derived.Test.YtckhafpejefbbaaGreatDoorB05

set_option maxRecDepth 100000
set_option maxHeartbeats 4000000
namespace Go.Proofs.YtckhafpejefbbaaGreatDoor
section
open Tw Go.Proofs.Tryz
open Go.RowKit
section
section
variable {w w':World}{bp gt cap:Nat}{cur:Array Value}{s:ByteArray}{ts:List Tw.Tok}{st:Tw.PS}
variable{st':Tw.PS}
def Yb(l:List Int):Array Value:=(l.map λn=>Value.int .i64 n).toArray
theorem Om(h:B7 w bp gt cap cur s ts st)(l:List Int)(g:Nat)(W:l.length<=5)(B:zH w g (Yb l) 172)(N:g≠bp){r:Int}(A:Bn ts l st=some (r,st')):
    Calls prog 203 #[pT bp,sL g l.length l.length] w λe w'=>e=.returned (vI r)/\Bl bp w w'/\B7 w' bp gt cap cur s ts st':=by
  have I:=h;have H:=B;have G:=A;have S:=Nd;clear h B A;go_in;go_wp21
  go_loopw [9] (λp wr=>∃k:Nat,p=vI k/\k<=l.length/\Hid (Bl bp w wr)/\Hid (B7 wr bp gt cap cur s ts st)/\Hid (Bn ts (l.drop k) st=some (r,st'))) (λp _=>l.length-(intOf p).toNat)
  case atStart=>exact⟨0,rfl,oM,Bl.refl _ _,I,by show _=_;rw[List.drop_zero];exact G⟩
  case round=>
    obtain⟨k,rfl,U,HK,d,v⟩:=hrel;by_cases D:k<l.length
    · have z:l.drop k=l[k]::l.drop (k+1):=lD D
      have j:=v.o;rw[z,Bn]at j;have⟨t,E,c⟩:=zbE.1 j;have x:=E;have T:wr.cell? (aD g k)=some (vI l[k]):=by
        rw[mB wr g _ _ _ _ (HK.o.at H N)];simp[Yb,D]
      generalize P:l[k]=q at *;clear j E z P;have V:(k:Int)<(l.length:Int):=oM;by_cases b:t.sort=q
      · rw[mA b]at c
        have⟨⟨R,Q⟩,F,o⟩:=zbE.1 c;simp[Option.some.injEq,Prod.mk.injEq]at o;have M:(t.sort==q)=true:=(by simp[b]);have J:=F;have i:Hid (R.sort=r/\Q=st'):=o;clear b c o F;go_wp2_with (first
          |(go_at_call 155;refine(Cs d.o x).mono ?_;rintro e f ⟨rfl,a⟩;have m:Hid (B7 f bp gt cap cur s ts st):=d.o.kept a;have n:Bl bp w f:=HK.o.trans (Bl.Ax a);clear a)
          |(go_at_call 82;refine(Dq m.o _ J).mono ?_;rintro e X ⟨rfl,C,y⟩;have L:=y;have O:=n.trans C;clear C y))
        go_ret;exact⟨Fu i.o.1,O,i.o.2 ▸ L⟩
      · rw[jA b]at c
        have M:(t.sort==q)=false:=(by simp[b]);have i:Hid (Bn ts (l.drop (k+1)) st=some (r,st')):=c;clear b c;go_wp2_with (first
          |(go_at_call 155;refine(Cs d.o x).mono ?_;rintro e f ⟨rfl,a⟩;have m:Hid (B7 f bp gt cap cur s ts st):=d.o.kept a;have n:Bl bp w f:=HK.o.trans (Bl.Ax a);clear a))
        go_roundw
        case rel=>go_light;exact⟨k+1,by go_num,oM,n,m.o,i.o⟩
        case measure=>go_light;simp[intOf];omega
    · go_wp21
      go_ret;go_light
      have:=v.o;rw[List.drop_eq_nil_of_le oM,Bn]at this;simp[Option.some.injEq,Prod.mk.injEq]at this;exact⟨Fu this.1,HK.o,this.2 ▸ d.o⟩
theorem Pr(h:B7 w bp gt cap cur s ts st)(q:Int){a:Nat}(n:Fg ts q st=some (a,st')):
    Calls prog 201 #[pT bp,vI q] w λe w'=>e=.returned (vI a)/\Bl bp w w'/\B7 w' bp gt cap cur s ts st':=by
  unfold Fg at n;have⟨E,c,i⟩:=zbE.1 n;split at i;rotate_left
  · cases i
  rename_i I;have⟨⟨S,R⟩,y,p⟩:=zbE.1 i;simp[Option.some.injEq,Prod.mk.injEq]at p;obtain⟨rfl,rfl⟩:=p;have k:=h;have l:=y;have⟨J,L,M,N,O,P⟩:=h.p;have fz:=h.fz 3;have G:=zdi;by_cases m:st.depth=40
  · rw[mA m]at c
    have r:=c;have v:((st.depth:Int)==40)=true:=(by simp;omega);go_in;go_wp2_with (first
      |(go_at_call 160;refine(Zu k r).mono ?_;rintro e T ⟨rfl,o,f⟩;have t:=f;have x:=o;have⟨z,A,B,Q,C,D⟩:=f.p;have H:=f.fz 3;clear o f z A B C D)
      |(go_at_call 82;refine(Dq (t.zbr (E.depth+1) oM) _ l).mono ?_;rintro e F ⟨rfl,d,b⟩;have g:=b;have j:=(x.set 3 _).trans d;clear d b))
    go_ret;exact⟨rfl,j,g⟩
  · rw[jA m]at c
    simp[Option.some.injEq]at c;subst c;have v:((st.depth:Int)==40)=false:=(by simp;omega);go_in;go_wp2_with (first
      |(go_at_call 82;refine(Dq (k.zbr (st.depth+1) oM) _ l).mono ?_;rintro e F ⟨rfl,d,b⟩;have g:=b;have j:=((Bl.refl bp w).set 3 _).trans d;clear d b))
    go_ret;exact⟨rfl,j,g⟩
theorem Jt(h:B7 w bp gt cap cur s ts st)(u:FrameMode)(a:Tw.endS st=some st'):
  CallsD prog 202 #[pT bp] u w λe i w'=>i=u/\(e=.returned (.tuple #[])/\Bl bp w w'/\B7 w' bp gt cap cur s ts st'):=by
 unfold Tw.endS at a;split at a
 ·cases a
 simp[Option.some.injEq]at a;subst a;have⟨l,m,n,g,o,p⟩:=h.p;have fz:=h.fz 3;have j:=h.dep;obtain⟨d,b⟩:∃d,st.depth=d+1:=⟨st.depth-1,oM⟩;rw[b]at g;have k:d<=300:=oM;have c:=b;have f:=h
 go_enter_d func202,ntmps202
 go_wp2;go_end0;refine⟨rfl,(Bl.refl bp w).set 3 _,?_⟩
 have:=f.zbr d oM;rwa[show d=st.depth-1 from by have:=c;omega]at this ⊢
end
end
section
variable{a b w:World}{lo hi:Nat}{v:Value}{t:Tw.T}
theorem Ab{c:World}(h:zG a b)(k:zG b c):zG a c:=
 ⟨k.os.trans h.os,k.tape.trans h.tape,k.output.trans h.output,kB h.size k.size,λi hi d=>(k.block i (aB hi h.size) d).trans (h.block i hi d)⟩
theorem Ad(h:zG a b):a.grownBy b.drew none:=⟨h.os,h.tape,h.output,h.size,h.block⟩
theorem Aj(h:zG a b)(o:Obj):a.grownBy (b.alloc o) none:=Ab h (zwA b o none)
theorem Aa(a:World):zG a a:=⟨rfl,rfl,rfl,znL _,λ_ _ _=>rfl⟩
theorem Vk(h:zG a b){g:Nat}(e:a.heap.size<=g)(j:Nat)(v:Value):a.grownBy (b.setCell (aD g j) v) none:=
 ⟨h.os,h.tape,h.output,by simpa using h.size,λk c d=>by rw[aA b (aD g j) k v (by simp;omega)];exact h.block k c d⟩
abbrev ug(l:zU):Value:=.string ⟨l.toArray⟩
def Td:Tw.T->TypeId
 |.name _ _ _=>83
 |.int _ _ _=>191
 |.Ak _ _ _=>195
 |.side _ _ _=>199
 |.bracket _ _ _=>204
 |.pair _ _ _ _=>207
 |.call _ _ _ _=>209
 |.binary _ _ _ _ _=>211
 |.cond _ _ _ _ _=>213
 |.fn _ _ _ _ _=>215
 |.Am _ _ _ _ _ _ _=>136
def nodeAt(w:World)(lo hi:Nat)(fr to:Nat)(rest:List Value)(c st:TypeId)(v:Value):Prop:=
 ∃b,lo<=b/\b<hi/\v=.iface c (.pointer (some ⟨b,0,none⟩))/\w.heap[b]?=some (.cells (#[.int .i64 fr,.int .i64 to]++rest.toArray) st (0,0))
def Rep(w:World)(lo hi:Nat):Tw.T->Value->Prop
 |.name fr to tx,v=>nodeAt w lo hi fr to [ug tx] 83 87 v
 |.int fr to n,v=>nodeAt w lo hi fr to [.int .i64 n] 191 194 v
 |.Ak fr to b,v=>nodeAt w lo hi fr to [.bool b] 195 198 v
 |.side fr to b,v=>nodeAt w lo hi fr to [.bool b] 199 201 v
 |.bracket fr to i,v=>∃v1,nodeAt w lo hi fr to [v1] 204 206 v/\Rep w lo hi i v1
 |.pair fr to l r,v=>∃v1 v2,nodeAt w lo hi fr to [v1,v2] 207 229 v/\Rep w lo hi l v1/\Rep w lo hi r v2
 |.call fr to l r,v=>∃v1 v2,nodeAt w lo hi fr to [v1,v2] 209 319 v/\Rep w lo hi l v1/\Rep w lo hi r v2
 |.binary fr to sg l r,v=>∃v1 v2,nodeAt w lo hi fr to [.int .i64 sg,v1,v2] 211 322 v/\Rep w lo hi l v1/\Rep w lo hi r v2
 |.cond fr to c t e,v=>∃v1 v2 v3,nodeAt w lo hi fr to [v1,v2,v3] 213 326 v/\Rep w lo hi c v1/\Rep w lo hi t v2/\Rep w lo hi e v3
 |.fn fr to bn bat b,v=>∃v1,nodeAt w lo hi fr to [ug bn,.int .i64 bat,v1] 215 235 v/\Rep w lo hi b v1
 |.Am fr to rc bn bat d b,v=>∃v1 v2,nodeAt w lo hi fr to [.bool rc,ug bn,.int .i64 bat,v1,v2] 136 140 v/\Rep w lo hi d v1/\Rep w lo hi b v2
theorem nodeAt.kept{w':World}{lo' hi' fr to:Nat}{rest:List Value}{f st:TypeId}(h:nodeAt w lo hi fr to rest f st v)(i:∀b,lo<=b->b<hi->b<w.heap.size->w'.heap[b]?=w.heap[b]?)(k:lo'<=lo)(j:hi<=hi'):nodeAt w' lo' hi' fr to rest f st v:=by
 have⟨b,c,d,g,e⟩:=h;exact⟨b,kB k c,aB d j,g,by rw[i b c d (zgE.1 e).1];exact e⟩
theorem Rep.kept{w w':World}{lo lo' hi hi':Nat}(c:∀b,lo<=b->b<hi->b<w.heap.size->w'.heap[b]?=w.heap[b]?)(e:lo'<=lo)(d:hi<=hi'):∀ {t:Tw.T} {v:Value},Rep w lo hi t v->Rep w' lo' hi' t v
 |.name ..,_,h=>nodeAt.kept h c e d
 |.int ..,_,h=>nodeAt.kept h c e d
 |.Ak ..,_,h=>nodeAt.kept h c e d
 |.side ..,_,h=>nodeAt.kept h c e d
 |.bracket ..,_,⟨v1,h,r1⟩=>⟨v1,h.kept c e d,Rep.kept c e d r1⟩
 |.pair ..,_,⟨v1,v2,h,r1,r2⟩=>⟨v1,v2,h.kept c e d,Rep.kept c e d r1,Rep.kept c e d r2⟩
 |.call ..,_,⟨v1,v2,h,r1,r2⟩=>⟨v1,v2,h.kept c e d,Rep.kept c e d r1,Rep.kept c e d r2⟩
 |.binary ..,_,⟨v1,v2,h,r1,r2⟩=>⟨v1,v2,h.kept c e d,Rep.kept c e d r1,Rep.kept c e d r2⟩
 |.cond ..,_,⟨v1,v2,v3,h,r1,r2,r3⟩=>⟨v1,v2,v3,h.kept c e d,Rep.kept c e d r1,Rep.kept c e d r2,Rep.kept c e d r3⟩
 |.fn ..,_,⟨v1,h,r1⟩=>⟨v1,h.kept c e d,Rep.kept c e d r1⟩
 |.Am ..,_,⟨v1,v2,h,r1,r2⟩=>⟨v1,v2,h.kept c e d,Rep.kept c e d r1,Rep.kept c e d r2⟩
theorem Rep.node(h:Rep w lo hi t v):
  ∃b,(lo<=b/\b<hi)/\b<w.heap.size/\v=.iface (Td t) (pT b)/\w.cell? (aD b 0)=some (vI t.fr)/\w.cell? (aD b 1)=some (vI t.to):=by
 have c:∀ {fr to:Nat} {f:List Value} {d g:TypeId},nodeAt w lo hi fr to f d g v->∃b,(lo<=b/\b<hi)/\b<w.heap.size/\v=.iface d (pT b)/\w.cell? (aD b 0)=some (vI fr)/\w.cell? (aD b 1)=some (vI to):=by
  rintro fr to f d g ⟨b,i,j,k,e⟩;refine⟨b,⟨i,j⟩,(zgE.1 e).1,k,?_,?_⟩<;>(rw[mB w b _ _ _ _ e];simp)
 cases t with
 |name=>exact c h
 |int=>exact c h
 |Ak=>exact c h
 |side=>exact c h
 |bracket=>obtain⟨_,h,_⟩:=h;exact c h
 |pair=>obtain⟨_,_,h,_⟩:=h;exact c h
 |call=>obtain⟨_,_,h,_⟩:=h;exact c h
 |binary=>obtain⟨_,_,h,_⟩:=h;exact c h
 |cond=>obtain⟨_,_,_,h,_⟩:=h;exact c h
 |fn=>obtain⟨_,h,_⟩:=h;exact c h
 |Am=>obtain⟨_,_,h,_⟩:=h;exact c h
theorem zh4(a:Addr)(w:World):Sem.run Tryz.prog (method 517 83 (.pointer (some a)) "Place") w=Sem.run Tryz.prog (do let v ←loadVar 85 a;pure (266,v)) w:=by kernel_rfl
theorem zly(a:Addr)(w:World):Sem.run Tryz.prog (method 517 191 (.pointer (some a)) "Place") w=Sem.run Tryz.prog (do let v ←loadVar 85 a;pure (266,v)) w:=by kernel_rfl
theorem zff(a:Addr)(w:World):Sem.run Tryz.prog (method 517 195 (.pointer (some a)) "Place") w=Sem.run Tryz.prog (do let v ←loadVar 85 a;pure (266,v)) w:=by kernel_rfl
theorem zh5(a:Addr)(w:World):Sem.run Tryz.prog (method 517 199 (.pointer (some a)) "Place") w=Sem.run Tryz.prog (do let v ←loadVar 85 a;pure (266,v)) w:=by kernel_rfl
theorem zbv(a:Addr)(w:World):Sem.run Tryz.prog (method 517 204 (.pointer (some a)) "Place") w=Sem.run Tryz.prog (do let v ←loadVar 85 a;pure (266,v)) w:=by kernel_rfl
theorem zh6(a:Addr)(w:World):Sem.run Tryz.prog (method 517 207 (.pointer (some a)) "Place") w=Sem.run Tryz.prog (do let v ←loadVar 85 a;pure (266,v)) w:=by kernel_rfl
theorem zh7(a:Addr)(w:World):Sem.run Tryz.prog (method 517 209 (.pointer (some a)) "Place") w=Sem.run Tryz.prog (do let v ←loadVar 85 a;pure (266,v)) w:=by kernel_rfl
theorem zdr(a:Addr)(w:World):Sem.run Tryz.prog (method 517 211 (.pointer (some a)) "Place") w=Sem.run Tryz.prog (do let v ←loadVar 85 a;pure (266,v)) w:=by kernel_rfl
theorem zov(a:Addr)(w:World):Sem.run Tryz.prog (method 517 213 (.pointer (some a)) "Place") w=Sem.run Tryz.prog (do let v ←loadVar 85 a;pure (266,v)) w:=by kernel_rfl
theorem zlz(a:Addr)(w:World):Sem.run Tryz.prog (method 517 215 (.pointer (some a)) "Place") w=Sem.run Tryz.prog (do let v ←loadVar 85 a;pure (266,v)) w:=by kernel_rfl
theorem zl0(a:Addr)(w:World):Sem.run Tryz.prog (method 517 136 (.pointer (some a)) "Place") w=Sem.run Tryz.prog (do let v ←loadVar 85 a;pure (266,v)) w:=by kernel_rfl
theorem zow(t:Tw.T)(a:Addr)(w:World):Sem.run Tryz.prog (method 517 (Td t) (.pointer (some a)) "Place") w=Sem.run Tryz.prog (do let v ←loadVar 85 a;pure (266,v)) w:=by
 cases t with
 |name=>exact zh4 a w
 |int=>exact zly a w
 |Ak=>exact zff a w
 |side=>exact zh5 a w
 |bracket=>exact zbv a w
 |pair=>exact zh6 a w
 |call=>exact zh7 a w
 |binary=>exact zdr a w
 |cond=>exact zov a w
 |fn=>exact zlz a w
 |Am=>exact zl0 a w
theorem W8(t:Tw.T)(b:Nat)(w:World)(x y:Int)(c:w.cell? (aD b 0)=some (vI x))(d:w.cell? (aD b 1)=some (vI y)):
  Sem.run Tryz.prog (method 517 (Td t) (.pointer (some ⟨b,0,none⟩)) "Place") w=.ok (266,.agg #[.int .i64 x,.int .i64 y]) w:=by
 rw[zow];go_simp
theorem W9(w:World)(x y:Int):
  Calls prog 266 #[.agg #[vI x,vI y]] w λe w'=>e=.returned (.agg #[vI x,vI y])/\zG w w':=by
 go_in;go_wp21;refine bodyPost_ret (v:=.agg #[vI x,vI y]) (by simp[results,results266,go_sem]) rfl ⟨rfl,?_⟩;exact Aj (Aj (Aa _) _) _
theorem A8{b:Nat}{x y:Value}{t:TypeId}(h:zH w b #[x,y] t):
  w.cell? (aD b 0)=some x/\w.cell? (aD b 1)=some y/\w.frozen? (aD b 0)=false/\w.frozen? (aD b 1)=false:=by
 refine⟨?_,?_,eB _ _ _ _ _ h,eB _ _ _ _ _ h⟩<;>(rw[mB w b _ _ _ _ h];rfl)
theorem zbd(a b:Int)(w:World):Sem.run prog (Instr.field 85 (.agg #[vI a,vI b]) 0) w=.ok (vI a) w:=kR
theorem zkj(a b:Int)(w:World):Sem.run prog (Instr.field 85 (.agg #[vI a,vI b]) 1) w=.ok (vI b) w:=kR
theorem Lo(w:World)(fr:Int)(h:Rep w lo hi t v):
    Calls prog 205 #[vI fr,v] w λe w'=>e=.returned (.agg #[vI fr,vI t.to])/\zG w w':=by
  obtain⟨b,_,o,rfl,j,k⟩:=h.node;have n:=zkj;have p:=W8 t b (w.alloc (.cells #[vI 0,vI 0] 85)) t.fr t.to (by go_simp) (by go_simp);generalize Td t=T at *;go_in;go_wp2_with (go_at_call 266;refine(W9 _ _ _).mono ?_;rintro e q ⟨rfl,c⟩;have g:=Ab (Aj (Aa _) _) c;have i:=A8 ((c.block _ sM sM).trans (Ac w _));have⟨d,f,l,m⟩:=i;clear c)
  refine bodyPost_ret (v:=.agg #[vI fr,vI t.to]) (by simp[results,results205,go_sem,d,f]) rfl ⟨rfl,?_⟩;exact Vk (Vk g (znL _) _ _) (znL _) _ _
end
section
variable{w w':World}{lo lo' hi hi':Nat}{t:Tw.T}{v:Value}
theorem Rep.grown(h:Rep w lo hi t v)(c:zG w w')(e:lo'<=lo)(d:hi<=hi'):Rep w' lo' hi' t v:=
 Rep.kept (λb _ _ a=>c.block b a sM) e d h
theorem Rep.Aq{bp:Nat}(h:Rep w lo hi t v)(c:Bl bp w w')(g:bp<lo)(e:lo'<=lo)(d:hi<=hi'):Rep w' lo' hi' t v:=
 Rep.kept (λb f _ a=>c.block b a (by simp;omega)) e d h
theorem Rep.set(h:Rep w lo hi t v){b j:Nat}(u:Value)(f:b<lo\/hi<=b)(c:lo'<=lo)(a:hi<=hi'):Rep (w.setCell (aD b j) u) lo' hi' t v:=
 Rep.kept (λk d e _=>aA w (aD b j) k u (by simp;omega)) c a h
theorem Rep.wide(h:Rep w lo hi t v)(b:lo'<=lo)(a:hi<=hi'):Rep w lo' hi' t v:=
 Rep.kept (λ_ _ _ _=>rfl) b a h
theorem Zv(w:World)(i:Int){l r:Tw.T}{v1 v2:Value}(d:Rep w lo hi l v1)(f:Rep w lo hi r v2)(_hlo:lo<=w.heap.size)(_hhi:hi<=w.heap.size):
    Calls prog 207 #[vI i,v1,v2] w λe w'=>∃v,e=.returned v/\zG w w'/\Rep w' lo w'.heap.size (.binary l.fr r.to i l r) v:=by
  have k:=d;have c:=f;have⟨m,_,z,h,n,o⟩:=d.node;have q:=h;have⟨x,_,_,p,_,_⟩:=f.node;have y:=zbd;have A:=W8 l m w l.fr l.to n o;generalize Td l=T at *;generalize Td r=T2 at *;subst h p;go_in;go_wp2_with (first
    |(go_at_call 266;refine(W9 _ _ _).mono ?_;rintro e C ⟨rfl,a⟩;have g:=a;clear a)
    |(go_at_call 205;refine(Lo _ _ (c.grown g (znL _) (znL _))).mono ?_;rintro e j ⟨rfl,a⟩;have b:=Ab g a;clear a))
  go_ret;refine⟨_,rfl,Aj b _,?_⟩;have B:=b.size;exact⟨_,_,⟨j.heap.size,oM,sM,rfl,Ac j _⟩,k.grown (Aj b _) (znL _) (by simp;omega),c.grown (Aj b _) (znL _) (by simp;omega)⟩
def Ew.Ho:Prop:=∀(s:ByteArray) (_:s.size<=300) (v:Int) (_:Lib.parseIntB 64 s.data.toList=.ok v) (w:World),
  Calls prog 239 #[.string s,.int .i64 10,.int .i64 64] w λe w'=>e=.returned (.tuple #[.int .i64 v,.nilIface])/\w.grownBy w' none
theorem zl1(b:Ew.Ho)(s:ByteArray)(d:s.size<=300)(v:Int)(hv:Lib.parseIntB 64 s.data.toList=.ok v)(w:World):
  Calls prog 238 #[.string s] w λe w'=>e=.returned (vI v)/\zG w w':=by
 have a:=hv;go_in;go_wp2_with (go_at_call 239;refine(b _ d _ a _).mono ?_;rintro e f ⟨rfl,c⟩);go_ret;exact⟨rfl,c⟩
theorem Dr(n:Int)(w:World):
  Calls prog 234 #[vI n] w λe w'=>e=.returned (.bool (Ap n))/\w=w':=by
 go_in
 go_wp2
 all_goals (go_ret;go_light;exact⟨Ft (by simp_all[Ap]),rfl⟩)
section
variable {w w':World}{bp gt cap:Nat}{cur:Array Value}{s:ByteArray}{ts:List Tw.Tok}{st:Tw.PS}
theorem Lh(s:ByteArray)(a b:Nat):s.extract a b=⟨(Bv s.data.toList a b).toArray⟩:=by
 apply zh0;rw[Lib.extract_data];rfl
theorem Zw(h:B7 w bp gt cap cur s ts st){bn:zU}{a:Nat}{st':PS}(f:Tw.Dv s.data.toList ts st=some ((bn,a),st')):
    Calls prog 204 #[pT bp] w λe w'=>e=.returned (.agg #[ug bn,vI a])/\Bl bp w w'/\B7 w' bp gt cap cur s ts st':=by
  unfold Tw.Dv at f;have⟨⟨t,O⟩,y,c⟩:=zbE.1 f;split at c;rotate_left
  · cases c
  rename_i r;have⟨p,q⟩:=r;simp[Option.some.injEq,Prod.mk.injEq]at c;obtain⟨⟨rfl,rfl⟩,rfl⟩:=c;have o:s.data.toList.length=s.size:=rfl;rw[o]at q;simp only at p;have i:=h;have j:=y;have H:=h.Js;have J:=h.zco;go_in;go_wp2_with (first
    |(go_at_call 82;refine(Dq (i.alloc _) _ j).mono ?_;rintro e g ⟨rfl,b,d⟩;have m:=d;have n:=((Bl.refl bp w).alloc _).trans b;have x:w.heap.size<g.heap.size:=(by have:=b.size;simp at this;omega);have z:=A8 (b.at (Ac w _) oM);have⟨k,l,F,G⟩:=z;have⟨N,A,B,C,D,E⟩:=d.p;have I:bp<g.heap.size:=oM;clear b d A B C D E))
  have L:(t.fr:Int)<=(t.to:Int):=oM;have M:(t.to:Int)<=(s.size:Int):=oM;go_region;go_wp21;refine bodyPost_ret (v:=.agg #[.string (s.extract t.fr t.to),vI t.fr]) (by simp[results,results204,go_sem,k,l,x]) rfl ⟨?_,?_,?_⟩
  · rw[Lh]
  · go_light
    exact(((n.Cz _ _ _ (znL _)).Cz _ _ _ (znL _)).alloc _).drew
  · go_light
    exact(((m.Co _ _ _ oM oM).Co _ _ _ oM oM).alloc _).drew
end
end
section
variable{n bp gt cap:Nat}{w:World}{cur:Array Value}{s:ByteArray}{ts:List Tw.Tok}{st st':Tw.PS}{t:Tw.T}{tk:Tw.Tok}
def Mi(w:World)(bp gt cap:Nat)(cur:Array Value)(s:ByteArray)(ts:List Tw.Tok)(t:Tw.T)(st':PS)(e:Ending)(w':World):Prop:=
 ∃v,e=.returned v/\Bl bp w w'/\B7 w' bp gt cap cur s ts st'/\Rep w' w.heap.size w'.heap.size t v
def Db(f:FuncId)(S:zU->List Tw.Tok->Nat->PS->Option (Tw.T×PS))(n:Nat):Prop:=
 ∀ {w:World} {bp gt cap:Nat} {cur:Array Value} {s:ByteArray} {ts:List Tw.Tok} {st:PS} {t:Tw.T} {st':PS},
  B7 w bp gt cap cur s ts st->S s.data.toList ts n st=some (t,st')->Calls prog f #[.pointer (some ⟨bp,0,none⟩)] w (Mi w bp gt cap cur s ts t st')
theorem zox(m:Db 156 Oh n)
    (h:B7 w bp gt cap cur s ts st) (p:Ej ts st=some tk) (o:Oh s.data.toList ts n st=some (t,st')) (q:(tk.sort==3)=true) :
    Calls prog 81 #[pT bp] w (Mi w bp gt cap cur s ts t st'):=by
  have c:=h;have j:=p;have i:=o;have r:=Nd;go_in;go_wp2_with (first
    |(go_at_call 155;refine(Cs c j).mono ?_;rintro k x ⟨rfl,b⟩;have l:=c.kept b;have e:=b;clear b)
    |(go_at_call 156;refine(m l i).mono ?_;rintro k a ⟨v,rfl,f,d,g⟩;have X:Bl bp w a/\B7 a bp gt cap cur s ts st'/\Rep a w.heap.size a.heap.size t v:=⟨(Bl.Ax e).trans f,d,g.wide e.size (znL _)⟩;clear f d g))
  go_ret;exact⟨_,rfl,X⟩
theorem zbw(m:Db 157 Oj n)
    (h:B7 w bp gt cap cur s ts st) (p:Ej ts st=some tk) (o:Oj s.data.toList ts n st=some (t,st')) (q:(tk.sort==3)=false) (r:(tk.sort==6)=true) :
    Calls prog 81 #[pT bp] w (Mi w bp gt cap cur s ts t st'):=by
  have c:=h;have j:=p;have i:=o;have x:=Nd;go_in;go_wp2_with (first
    |(go_at_call 155;refine(Cs c j).mono ?_;rintro k y ⟨rfl,b⟩;have l:=c.kept b;have e:=b;clear b)
    |(go_at_call 157;refine(m l i).mono ?_;rintro k a ⟨v,rfl,f,d,g⟩;have X:Bl bp w a/\B7 a bp gt cap cur s ts st'/\Rep a w.heap.size a.heap.size t v:=⟨(Bl.Ax e).trans f,d,g.wide e.size (znL _)⟩;clear f d g))
  go_ret;exact⟨_,rfl,X⟩
theorem zfg(m:Db 158 Ie n)
    (h:B7 w bp gt cap cur s ts st) (p:Ej ts st=some tk) (o:Ie s.data.toList ts n st=some (t,st')) (q:(tk.sort==3)=false) (r:(tk.sort==6)=false) (x:(tk.sort==7)=true) :
    Calls prog 81 #[pT bp] w (Mi w bp gt cap cur s ts t st'):=by
  have c:=h;have j:=p;have i:=o;have y:=Nd;go_in;go_wp2_with (first
    |(go_at_call 155;refine(Cs c j).mono ?_;rintro k z ⟨rfl,b⟩;have l:=c.kept b;have e:=b;clear b)
    |(go_at_call 158;refine(m l i).mono ?_;rintro k a ⟨v,rfl,f,d,g⟩;have X:Bl bp w a/\B7 a bp gt cap cur s ts st'/\Rep a w.heap.size a.heap.size t v:=⟨(Bl.Ax e).trans f,d,g.wide e.size (znL _)⟩;clear f d g))
  go_ret;exact⟨_,rfl,X⟩
theorem Zg(m:Db 159 Kk n)
    (h:B7 w bp gt cap cur s ts st) (p:Ej ts st=some tk) (o:Kk s.data.toList ts n st=some (t,st')) (q:(tk.sort==3)=false) (r:(tk.sort==6)=false) (x:(tk.sort==7)=false) :
    Calls prog 81 #[pT bp] w (Mi w bp gt cap cur s ts t st'):=by
  have c:=h;have j:=p;have i:=o;have y:=Nd;go_in;go_wp2_with (first
    |(go_at_call 155;refine(Cs c j).mono ?_;rintro k z ⟨rfl,b⟩;have l:=c.kept b;have e:=b;clear b)
    |(go_at_call 159;refine(m l i).mono ?_;rintro k a ⟨v,rfl,f,d,g⟩;have X:Bl bp w a/\B7 a bp gt cap cur s ts st'/\Rep a w.heap.size a.heap.size t v:=⟨(Bl.Ax e).trans f,d,g.wide e.size (znL _)⟩;clear f d g))
  go_ret;exact⟨_,rfl,X⟩
theorem zl2(j:Db 156 Oh n)(i:Db 157 Oj n)(g:Db 158 Ie n)(k:Db 159 Kk n):
  Db 81 Cg (n+1):=by
 intro w bp gt cap cur s ts st t st' h f;rw[Cg]at f;have⟨tk,e,a⟩:=zbE.1 f;by_cases b:tk.sort=3
 ·rw[mA b]at a;exact zox j h e a (by simp[b])
 ·rw[jA b]at a;by_cases c:tk.sort=6
  ·rw[mA c]at a;exact zbw i h e a (by simp[b]) (by simp[c])
  ·rw[jA c]at a;by_cases d:tk.sort=7
   ·rw[mA d]at a;exact zfg g h e a (by simp[b]) (by simp[c]) (by simp[d])
   ·rw[jA d]at a;exact Zg k h e a (by simp[b]) (by simp[c]) (by simp[d])
theorem zoy(hE:Db 81 Cg n):
    Db 157 Oj (n+1):=by
  intro w bp gt cap cur s ts st t st' h hf0;rw[Oj]at hf0;have⟨⟨bfr,st1⟩,hb,hf1⟩:=zbE.1 hf0;have⟨⟨⟨bn,bat⟩,st2⟩,hbd,hf2⟩:=zbE.1 hf1;have⟨⟨ta,st3⟩,ha,hf3⟩:=zbE.1 hf2;have⟨⟨x,st4⟩,hx,hf4⟩:=zbE.1 hf3;have⟨st5,he,hf5⟩:=zbE.1 hf4;simp[Option.some.injEq,Prod.mk.injEq]at hf5;obtain⟨rfl,rfl⟩:=hf5;simp only at hbd ha hx he;have HH:=h;have H1:=hb;have H2:=hbd;have H3:=ha;have H4:=hx;have H5:=he;have hbp:=h.Js;have hgt:=h.zco;go_enter_defers func157,ntmps157;go_wp2_with (first
    |(go_at_call 201;refine(Pr HH _ H1).mono ?_;rintro e w1 ⟨rfl,hk,h⟩;have P1:=h;have K1:=hk;have z1:=hk.size;clear hk h)
    |(go_at_call 204;refine(Zw P1 H2).mono ?_;rintro e w2 ⟨rfl,hk,h⟩;have P2:=h;have K2:=K1.trans hk;have z2:=hk.size;clear hk h)
    |(go_at_call 82;refine(Dq (P2.alloc _) _ H3).mono ?_;rintro e w3 ⟨rfl,hk,h⟩;have P3:=h;have K3:=(K2.alloc _).trans hk;have z3:w2.heap.size<w3.heap.size:=(by have:=hk.size;simp at this;omega);have N3:=hk.at (Ac w2 _) oM;clear hk h)
    |(go_at_call 81;refine(hE P3 H4).mono ?_;rintro e w4 ⟨v,rfl,hk,h,r⟩;have P4:=h;have K4:=K3.trans hk;have z4:=hk.size;have N4:=hk.at N3 oM;have⟨vb,_,_,hv,_,_⟩:=r.node;generalize Td x=T at hv;subst hv;have R4:=r;have c4:w4.cell? (aD w2.heap.size 4)=some .nilIface:=zcR N4;have f4:=eB _ _ 4 _ _ N4;clear hk h r)
    |(go_at_call 205;refine(Lo _ _ (R4.set _ (.inl z3) (znL _) (znL _))).mono ?_;rintro e w5 ⟨rfl,hg⟩;have N4':(w4.setCell (aD w2.heap.size 4) (.iface T (pT vb))).heap[w2.heap.size]?=some (.cells #[vI 0,vI 0,ug bn,vI bat,.iface T (pT vb)] 235 (0,0)):=(by show _=_;rw[cD _ _ _ _ _ _ N4];rfl);have N5:=(Bl.Ax (bp:=bp) hg).at N4' oM;have P5:=(P4.Co _ _ _ oM oM).kept hg;have K5:=(K4.Cz _ _ _ oM).trans (Bl.Ax hg);have R5:=(R4.set _ (.inl z3) (znL _) (znL _)).grown hg (znL _) (znL _);have K5s:w4.heap.size<=w5.heap.size:=(by show _<=_;have:=hg.size;simpa using this);have d0:w5.cell? (aD w2.heap.size 0)=some (vI 0):=zcR N5;have d1:w5.cell? (aD w2.heap.size 1)=some (vI 0):=zcR N5;have g0:=eB _ _ 0 _ _ N5;have g1:=eB _ _ 1 _ _ N5;clear hg))
  refine leaves_cons (f:=202) (args:=#[pT bp]) sM (by simp[go_sem]) ?_;refine(Jt ((P5.Co _ _ _ oM oM).Co _ _ _ oM oM) .returning H5).mono ?_;rintro e u' w6 ⟨rfl,rfl,hk6,h6⟩;refine⟨_,results_tmp rfl _ _ _,?_⟩;go_light;have N6:((w5.setCell (aD w2.heap.size 0) (vI bfr)).setCell (aD w2.heap.size 1) (vI x.to)).heap[w2.heap.size]?=some (.cells #[vI bfr,vI x.to,ug bn,vI bat,.iface T (pT vb)] 235 (0,0)):=by
    rw[cD _ _ _ _ _ _ (cD _ _ _ _ _ _ N5)];rfl
  refine⟨_,rfl,((K5.Cz _ _ _ oM).Cz _ _ _ oM).trans hk6,h6,?_⟩;have z6:=hk6.size;have z5:=K5s;simp at z6;exact⟨_,⟨w2.heap.size,oM,oM,rfl,hk6.at N6 oM⟩,((R5.set _ (.inl z3) (znL _) (znL _)).set _ (.inl z3) (znL _) (znL _)).Aq hk6 oM oM oM⟩
end
section
section
variable {w w':World}{bp gt cap:Nat}{cur:Array Value}{s:ByteArray}{ts:List Tw.Tok}{st:Tw.PS}
variable{r:Int}{st':Tw.PS}
theorem zbe(h:B7 w bp gt cap cur s ts st)(a:Int)(b:Bn ts [a] st=some (r,st')):
  Calls prog 203 #[pT bp,sL w.heap.size 1 1] (w.alloc (.cells #[vI a] 172)) λe w'=>e=.returned (vI r)/\(Bl bp w w'/\w.heap.size<w'.heap.size)/\B7 w' bp gt cap cur s ts st':=by
 have c:=h.Js;go_call Om (h.alloc _) [a] w.heap.size sM (Ac w _) oM b as e w' ⟨rfl,hk,h'⟩;exact⟨rfl,⟨((Bl.refl bp w).alloc _).trans hk,by have:=hk.size;simp at this;omega⟩,h'⟩
theorem zhp(h:B7 w bp gt cap cur s ts st)(a b:Int)(c:Bn ts [a,b] st=some (r,st')):
  Calls prog 203 #[pT bp,sL w.heap.size 2 2] (w.alloc (.cells #[vI a,vI b] 172)) λe w'=>e=.returned (vI r)/\(Bl bp w w'/\w.heap.size<w'.heap.size)/\B7 w' bp gt cap cur s ts st':=by
 have d:=h.Js;go_call Om (h.alloc _) [a,b] w.heap.size sM (Ac w _) oM c as e w' ⟨rfl,hk,h'⟩;exact⟨rfl,⟨((Bl.refl bp w).alloc _).trans hk,by have:=hk.size;simp at this;omega⟩,h'⟩
end
theorem zoz{n:Nat}(hE:Db 81 Cg n):
    Db 156 Oh (n+1):=by
  intro w bp gt cap cur s ts st t st' h hf0;rw[Oh]at hf0;have⟨⟨bfr,st1⟩,hb,hf1⟩:=zbE.1 hf0;have⟨⟨rc,st2⟩,hrc,hf2⟩:=zbE.1 hf1;have⟨⟨⟨bn,bat⟩,st3⟩,hbd,hf3⟩:=zbE.1 hf2;have⟨⟨ta,st4⟩,ha,hf4⟩:=zbE.1 hf3;have⟨⟨d,st5⟩,hd,hf5⟩:=zbE.1 hf4;have⟨⟨ti,st6⟩,hi,hf6⟩:=zbE.1 hf5;have⟨⟨x,st7⟩,hx,hf7⟩:=zbE.1 hf6;have⟨st8,he,hf8⟩:=zbE.1 hf7;simp[Option.some.injEq,Prod.mk.injEq]at hf8;obtain⟨rfl,rfl⟩:=hf8;simp only at hrc hbd ha hd hi hx he;have HH:=h;have H1:=hb;have H2:=hrc;have H3:=hbd;have H4:=ha;have H5:=hd;have H6:=hi;have H7:=hx;have H8:=he;have hbp:=h.Js;have hgt:=h.zco;go_enter_defers func156,ntmps156;go_wp2_with (first
    |(go_at_call 201;refine(Pr HH _ H1).mono ?_;rintro e w1 ⟨rfl,hk,h⟩;have P1:=h;have K1:=hk;have z1:=hk.size;clear hk h)
    |(go_at_call 203;refine(zbe P1 4 H2).mono ?_;rintro e w2 ⟨rfl,⟨hk,hz⟩,h⟩;have P2:=h;have K2:=K1.trans hk;have z2:=hz;clear hk h hz)
    |(go_at_call 204;refine(Zw (P2.alloc _) H3).mono ?_;rintro e w3 ⟨rfl,hk,h⟩;have P3:=h;have K3:=(K2.alloc _).trans hk;have z3:w2.heap.size<w3.heap.size:=(by have:=hk.size;simp at this;omega);have N3:=hk.at (Ac w2 _) oM;have c3:w3.cell? (aD w2.heap.size 3)=some (.string ⟨#[]⟩):=zcR N3;have c4:w3.cell? (aD w2.heap.size 4)=some (vI 0):=zcR N3;have f3:=eB _ _ 3 _ _ N3;have f4:=eB _ _ 4 _ _ N3;clear hk h))
  -- the sign
  have N3b:((w3.setCell (aD w2.heap.size 3) (.string ⟨bn.toArray⟩)).setCell (aD w2.heap.size 4) (vI bat)).heap[w2.heap.size]?=some (.cells #[vI 0,vI 0,.bool (rc==4),ug bn,vI bat,.nilIface,.nilIface] 140 (0,0)):=by
    show _=_;rw[cD _ _ _ _ _ _ (cD _ _ _ _ _ _ N3)];rfl
  have P3b:=(P3.Co w2.heap.size 3 (.string ⟨bn.toArray⟩) oM oM).Co w2.heap.size 4 (vI bat) oM oM;have K3b:=(K3.Cz w2.heap.size 3 (.string ⟨bn.toArray⟩) oM).Cz w2.heap.size 4 (vI bat) oM;refine(Dq P3b _ H4).mono ?_;rintro e w4 ⟨rfl,hk,h⟩;have P4:=h;have K4:=K3b.trans hk;have z4:w3.heap.size<=w4.heap.size:=by have:=hk.size;simpa using this
  have N4:=hk.at N3b oM;go_wp21
  -- the definition
  refine(hE P4 H5).mono ?_;rintro e w5 ⟨v,rfl,hk,h,r⟩;have P5:=h;have K5:=K4.trans hk;have z5:=hk.size;have N5:=hk.at N4 oM;have⟨b1,_,_,hv,_,_⟩:=r.node;generalize Td d=T1 at hv;subst hv;have R5:=r;have c5:w5.cell? (aD w2.heap.size 5)=some .nilIface:=zcR N5;have f5:=eB _ _ 5 _ _ N5;go_wp21
  -- 'in'
  have N5b:(w5.setCell (aD w2.heap.size 5) (.iface T1 (pT b1))).heap[w2.heap.size]?=some (.cells #[vI 0,vI 0,.bool (rc==4),ug bn,vI bat,.iface T1 (pT b1),.nilIface] 140 (0,0)):=by
    show _=_;rw[cD _ _ _ _ _ _ N5];rfl
  have P5b:=P5.Co w2.heap.size 5 (.iface T1 (pT b1)) oM oM;have K5b:=K5.Cz w2.heap.size 5 (.iface T1 (pT b1)) oM;have R5b:=R5.set (b:=w2.heap.size) (j:=5) (lo':=w4.heap.size) (.iface T1 (pT b1)) (.inl oM) (znL _) (znL _);refine(Dq P5b _ H6).mono ?_;rintro e w6 ⟨rfl,hk,h⟩;have P6:=h;have K6:=K5b.trans hk;have z6:w5.heap.size<=w6.heap.size:=by have:=hk.size;simpa using this
  have N6:=hk.at N5b oM;have R6:=R5b.Aq hk oM (znL _) (znL _);go_wp21
  -- the body
  refine(hE P6 H7).mono ?_;rintro e w7 ⟨v,rfl,hk,h,r⟩;have P7:=h;have K7:=K6.trans hk;have z7:=hk.size;have N7:=hk.at N6 oM;have R7d:=R6.Aq hk oM (znL _) (znL _);have⟨b2,_,_,hv,_,_⟩:=r.node;generalize Td x=T2 at hv;subst hv;have R7:=r;have c6:w7.cell? (aD w2.heap.size 6)=some .nilIface:=zcR N7;have f6:=eB _ _ 6 _ _ N7;go_wp21
  -- the span
  have N7b:(w7.setCell (aD w2.heap.size 6) (.iface T2 (pT b2))).heap[w2.heap.size]?=some (.cells #[vI 0,vI 0,.bool (rc==4),ug bn,vI bat,.iface T1 (pT b1),.iface T2 (pT b2)] 140 (0,0)):=by
    show _=_;rw[cD _ _ _ _ _ _ N7];rfl
  have P7b:=P7.Co w2.heap.size 6 (.iface T2 (pT b2)) oM oM;have K7b:=K7.Cz w2.heap.size 6 (.iface T2 (pT b2)) oM;have R7db:=R7d.set (b:=w2.heap.size) (j:=6) (lo':=w4.heap.size) (.iface T2 (pT b2)) (.inl oM) (znL _) (znL _);have R7b:=R7.set (b:=w2.heap.size) (j:=6) (lo':=w6.heap.size) (.iface T2 (pT b2)) (.inl oM) (znL _) (znL _);refine(Lo _ _ R7b).mono ?_;rintro e w8 ⟨rfl,hg⟩;have P8:=P7b.kept hg;have K8:=K7b.trans (Bl.Ax hg);have N8:=(Bl.Ax (bp:=bp) hg).at N7b oM;have R8d:=R7db.grown hg (znL _) (znL _);have R8:=R7b.grown hg (znL _) (znL _);have z8:w7.heap.size<=w8.heap.size:=by have:=hg.size;simpa using this
  have d0:w8.cell? (aD w2.heap.size 0)=some (vI 0):=zcR N8;have d1:w8.cell? (aD w2.heap.size 1)=some (vI 0):=zcR N8;have g0:=eB _ _ 0 _ _ N8;have g1:=eB _ _ 1 _ _ N8;go_wp21;refine leaves_cons (f:=202) (args:=#[pT bp]) sM (by simp[go_sem]) ?_;refine(Jt ((P8.Co _ _ _ oM oM).Co _ _ _ oM oM) .returning H8).mono ?_;rintro e u' w9 ⟨rfl,rfl,hk9,h9⟩;refine⟨_,results_tmp rfl _ _ _,?_⟩;go_light;have N9:((w8.setCell (aD w2.heap.size 0) (vI bfr)).setCell (aD w2.heap.size 1) (vI x.to)).heap[w2.heap.size]?=some (.cells #[vI bfr,vI x.to,.bool (rc==4),ug bn,vI bat,.iface T1 (pT b1),.iface T2 (pT b2)] 140 (0,0)):=by
    rw[cD _ _ _ _ _ _ (cD _ _ _ _ _ _ N8)];rfl
  refine⟨_,rfl,((K8.Cz _ _ _ oM).Cz _ _ _ oM).trans hk9,h9,?_⟩;have z9:=hk9.size;simp at z9;exact⟨_,_,⟨w2.heap.size,oM,oM,rfl,hk9.at N9 oM⟩,((R8d.set _ (.inl oM) (znL _) (znL _)).set _ (.inl oM) (znL _) (znL _)).Aq hk9 oM oM oM,((R8.set _ (.inl oM) (znL _) (znL _)).set _ (.inl oM) (znL _) (znL _)).Aq hk9 oM oM oM⟩
end
theorem zl3{n:Nat}(hE:Db 81 Cg n):
  Db 158 Ie (n+1):=by
 intro w bp gt cap cur s ts st t st' h hf0;rw[Ie]at hf0;have⟨⟨bfr,st1⟩,hb,hf1⟩:=zbE.1 hf0;have⟨⟨c,st2⟩,hc,hf2⟩:=zbE.1 hf1;have⟨⟨ta,st3⟩,ha,hf3⟩:=zbE.1 hf2;have⟨⟨x,st4⟩,hx,hf4⟩:=zbE.1 hf3;have⟨⟨tb,st5⟩,hb5,hf5⟩:=zbE.1 hf4;have⟨⟨y,st6⟩,hy,hf6⟩:=zbE.1 hf5;have⟨st7,he,hf7⟩:=zbE.1 hf6;simp[Option.some.injEq,Prod.mk.injEq]at hf7;obtain⟨rfl,rfl⟩:=hf7;simp only at hc ha hx hb5 hy he;have HH:=h;have H1:=hb;have H2:=hc;have H3:=ha;have H4:=hx;have H5:=hb5;have H6:=hy;have H7:=he;have hbp:=h.Js;have hgt:=h.zco;go_enter_defers func158,ntmps158;go_wp21;refine(Pr HH _ H1).mono ?_;rintro e w1 ⟨rfl,hk,h⟩;have P1:=h;have K1:=hk;have z1:=hk.size;go_wp21
 -- the Ak
 refine(hE P1 H2).mono ?_;rintro e w2 ⟨v,rfl,hk,h,r⟩;have P2:=h;have K2:=K1.trans hk;have z2:=hk.size;have⟨b1,_,_,hv,_,_⟩:=r.node;generalize Td c=T1 at hv;subst hv;have R2:=r;go_wp21;refine(Dq (P2.alloc _) _ H3).mono ?_;rintro e w3 ⟨rfl,hk,h⟩;have P3:=h;have K3:=(K2.alloc _).trans hk;have z3:w2.heap.size<w3.heap.size:=by have:=hk.size;simp at this;omega
 have N3:=hk.at (Ac w2 _) oM;have R3:=(R2.grown (zwA w2 _ none) (znL _) (znL _)).Aq hk oM (znL _) (znL _);go_wp21
 -- then
 refine(hE P3 H4).mono ?_;rintro e w4 ⟨v,rfl,hk,h,r⟩;have P4:=h;have K4:=K3.trans hk;have z4:=hk.size;have N4:=hk.at N3 oM;have R4c:=R3.Aq hk oM (znL _) (znL _);have⟨b2,_,_,hv,_,_⟩:=r.node;generalize Td x=T2 at hv;subst hv;have R4:=r;have c3:w4.cell? (aD w2.heap.size 3)=some .nilIface:=zcR N4;have f3:=eB _ _ 3 _ _ N4;go_wp21;have N4b:(w4.setCell (aD w2.heap.size 3) (.iface T2 (pT b2))).heap[w2.heap.size]?=some (.cells #[vI 0,vI 0,.iface T1 (pT b1),.iface T2 (pT b2),.nilIface] 326 (0,0)):=by
  show _=_;rw[cD _ _ _ _ _ _ N4];rfl
 have P4b:=P4.Co w2.heap.size 3 (.iface T2 (pT b2)) oM oM;have K4b:=K4.Cz w2.heap.size 3 (.iface T2 (pT b2)) oM;have R4b:=R4.set (b:=w2.heap.size) (j:=3) (lo':=w3.heap.size) (.iface T2 (pT b2)) (.inl oM) (znL _) (znL _);have R4cb:=R4c.set (b:=w2.heap.size) (j:=3) (lo':=w1.heap.size) (.iface T2 (pT b2)) (.inr oM) (znL _) (znL _);refine(Dq P4b _ H5).mono ?_;rintro e w5 ⟨rfl,hk,h⟩;have P5:=h;have K5:=K4b.trans hk;have z5:w4.heap.size<=w5.heap.size:=by have:=hk.size;simpa using this
 have N5:=hk.at N4b oM;have R5:=R4b.Aq hk oM (znL _) (znL _);have R5c:=R4cb.Aq hk oM (znL _) (znL _);go_wp21
 -- else
 refine(hE P5 H6).mono ?_;rintro e w6 ⟨v,rfl,hk,h,r⟩;have P6:=h;have K6:=K5.trans hk;have z6:=hk.size;have N6:=hk.at N5 oM;have R6x:=R5.Aq hk oM (znL _) (znL _);have R6c:=R5c.Aq hk oM (znL _) (znL _);have⟨b3,_,_,hv,_,_⟩:=r.node;generalize Td y=T3 at hv;subst hv;have R6:=r;have c4:w6.cell? (aD w2.heap.size 4)=some .nilIface:=zcR N6;have f4:=eB _ _ 4 _ _ N6;go_wp21;have N6b:(w6.setCell (aD w2.heap.size 4) (.iface T3 (pT b3))).heap[w2.heap.size]?=some (.cells #[vI 0,vI 0,.iface T1 (pT b1),.iface T2 (pT b2),.iface T3 (pT b3)] 326 (0,0)):=by
  show _=_;rw[cD _ _ _ _ _ _ N6];rfl
 have P6b:=P6.Co w2.heap.size 4 (.iface T3 (pT b3)) oM oM;have K6b:=K6.Cz w2.heap.size 4 (.iface T3 (pT b3)) oM;have R6b:=R6.set (b:=w2.heap.size) (j:=4) (lo':=w5.heap.size) (.iface T3 (pT b3)) (.inl oM) (znL _) (znL _);have R6xb:=R6x.set (b:=w2.heap.size) (j:=4) (lo':=w3.heap.size) (.iface T3 (pT b3)) (.inl oM) (znL _) (znL _);have R6cb:=R6c.set (b:=w2.heap.size) (j:=4) (lo':=w1.heap.size) (.iface T3 (pT b3)) (.inr oM) (znL _) (znL _);refine(Lo _ _ R6b).mono ?_;rintro e w7 ⟨rfl,hg⟩;have P7:=P6b.kept hg;have K7:=K6b.trans (Bl.Ax hg);have N7:=(Bl.Ax (bp:=bp) hg).at N6b oM;have R7:=R6b.grown hg (znL _) (znL _);have R7x:=R6xb.grown hg (znL _) (znL _);have R7c:=R6cb.grown hg (znL _) (znL _);have z7:w6.heap.size<=w7.heap.size:=by have:=hg.size;simpa using this
 have d0:w7.cell? (aD w2.heap.size 0)=some (vI 0):=zcR N7;have d1:w7.cell? (aD w2.heap.size 1)=some (vI 0):=zcR N7;have g0:=eB _ _ 0 _ _ N7;have g1:=eB _ _ 1 _ _ N7;go_wp21;refine leaves_cons (f:=202) (args:=#[pT bp]) sM (by simp[go_sem]) ?_;refine(Jt ((P7.Co _ _ _ oM oM).Co _ _ _ oM oM) .returning H7).mono ?_;rintro e u' w9 ⟨rfl,rfl,hk9,h9⟩;refine⟨_,results_tmp rfl _ _ _,?_⟩;go_light;have N9:((w7.setCell (aD w2.heap.size 0) (vI bfr)).setCell (aD w2.heap.size 1) (vI y.to)).heap[w2.heap.size]?=some (.cells #[vI bfr,vI y.to,.iface T1 (pT b1),.iface T2 (pT b2),.iface T3 (pT b3)] 326 (0,0)):=by
  rw[cD _ _ _ _ _ _ (cD _ _ _ _ _ _ N7)];rfl
 refine⟨_,rfl,((K7.Cz _ _ _ oM).Cz _ _ _ oM).trans hk9,h9,?_⟩;have z9:=hk9.size;simp at z9;exact⟨_,_,_,⟨w2.heap.size,oM,oM,rfl,hk9.at N9 oM⟩,
  ((R7c.set _ (.inr oM) (znL _) (znL _)).set _ (.inr oM) (znL _) (znL _)).Aq hk9 oM oM oM,
  ((R7x.set _ (.inl oM) (znL _) (znL _)).set _ (.inl oM) (znL _) (znL _)).Aq hk9 oM oM oM,
  ((R7.set _ (.inl oM) (znL _) (znL _)).set _ (.inl oM) (znL _) (znL _)).Aq hk9 oM oM oM⟩
theorem zo0{n:Nat}(q:Db 206 Kj n):
  Db 159 Kk (n+1):=by
 intro w c p m o s i T W U h B;rw[Kk]at B;have⟨⟨f,V⟩,P,R⟩:=zbE.1 B;have⟨⟨d,E⟩,D,a⟩:=zbE.1 R;simp only at D a;have A:=h;have y:=P;have z:=D;have t:=h.Js;by_cases b:d=0
 ·rw[mA b]at a;simp[Option.some.injEq,Prod.mk.injEq]at a;obtain⟨rfl,rfl⟩:=a;have O:(d != 0)=false:=by simp[b]
  go_in;go_wp21;go_call q A y as e w1 ⟨v,rfl,hk,h,r⟩;have k:=h;have j:=hk;have l:=r;have S:=hk.size;go_wp21;go_call zhp k 23 15 z as e w2 ⟨rfl,⟨hk,b⟩,h⟩;have X:Bl c w w2/\B7 w2 c p m o s i E/\Rep w2 w.heap.size w2.heap.size f v:=⟨j.trans hk,h,l.Aq hk t (znL _) oM⟩;go_wp21;go_ret;exact⟨_,rfl,X⟩
 ·rw[jA b]at a;have⟨⟨g,x⟩,Q,C⟩:=zbE.1 a;simp[Option.some.injEq,Prod.mk.injEq]at C;obtain⟨rfl,rfl⟩:=C;have F:Kj s.data.toList i n E=some (g,x):=Q;have O:(d != 0)=true:=by simp[b]
  go_in;go_wp21;go_call q A y as e w1 ⟨v,rfl,hk,h,r⟩;have k:=h;have j:=hk;have l:=r;have S:=hk.size;go_wp21;go_call zhp k 23 15 z as e w2 ⟨rfl,⟨hk,b⟩,h⟩;have I:=h;have G:=j.trans hk;have L:=l.Aq hk t (znL _) (znL _);go_wp21;go_call q I F as e w3 ⟨v2,rfl,hk,h,r⟩;have J:B7 w3 c p m o s i x:=h;have H:=G.trans hk;have Y:=hk.size;have M:Rep w3 w.heap.size w3.heap.size f v:=L.Aq hk t (znL _) oM;have N:Rep w3 w.heap.size w3.heap.size g v2:=r.wide oM (znL _);go_wp21;go_call Zv w3 d M N oM (znL _) as e w4 ⟨v3,rfl,hg,r⟩;have X:Bl c w w4/\B7 w4 c p m o s i x/\Rep w4 w.heap.size w4.heap.size (.binary f.fr g.to d f g) v3:=⟨H.trans (Bl.Ax hg),J.kept hg,r⟩;go_wp21;go_ret;exact⟨_,rfl,X⟩
end
end Go.Proofs.YtckhafpejefbbaaGreatDoor
