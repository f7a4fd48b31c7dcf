import Derived.Test.YtckhafpejefbbaaGreatDoorB24

set_option maxRecDepth 100000
set_option maxHeartbeats 4000000
namespace Go.Proofs.YtckhafpejefbbaaGreatDoor
namespace Tw
section
namespace Inl
open Go
inductive En1 where
 |both (n:List UInt8) (s:Bool)
 |left (x:List UInt8) (d:T)
 |right (n:List UInt8)
abbrev IE:=List En1
end Inl
end
end Tw
abbrev tD:=@List.not_mem_nil
namespace Tw
section
open Go
section
variable{s:Int}{ws:List Tok}
def runK(l:zU)(ts:List Tok):GK->Nat->PS->Option (T×PS)
 |.expr,n,st=>Cg l ts n st
 |.cmp,n,st=>Kk l ts n st
 |.sum,n,st=>Kj l ts n st
 |.term,n,st=>Ha l ts n st
 |.call,n,st=>Gv l ts n st
 |.atom,n,st=>Ev l ts n st
 |.chF p g a,n,st=>Bd l ts n p g a st
 |.caF a,n,st=>Bh l ts n a st
def fol:GK->Int->Prop
 |.expr,s=>Gx s=true
 |.cmp,s=>Gx s=true
 |.sum,s=>s ∉ [19,20,21,22]/\Ap s=false
 |.term,s=>s ∉ [21,22]/\Ap s=false
 |.call,s=>Ap s=false
 |.atom,_=>True
 |.chF p g _,s=>s∉g/\(match p with|.term=>s ∉ [21,22]/\Ap s=false|.call=>Ap s=false)
 |.caF _,s=>Ap s=false
def okK:GK->Prop
 |.chF p g _=>∀x∈g,x≠0/\fol (pk p) x
 |_=>True
theorem zjs{p:Part}{g:List Int}{a:T}(h:fol (.chF p g a) s):fol (pk p) s:=by cases p<;>exact h.2
theorem zgm(h:Gx s=true):s ∉ [19,20,21,22]/\Ap s=false:=by
 simp[Gx]at h;simp[Ap];omega
theorem Tn{b:Type}{ts:List b}{k:Nat}{x :b}{r:List b}(h:ts.drop k=x::r):ts[k]?=some x/\ts.drop (k+1)=r:=by
 have e:ts[k]?=(ts.drop k)[0]? :=sM;refine⟨by rw[e,h];rfl,?_⟩;rw[<-List.drop_drop,h];rfl
def hdK:GK->List Tok->Prop
 |.expr,_=>True
 |.chF _ g _,ws=>ws=[]\/∃t r,ws=t::r/\t.sort∈g
 |.caF _,ws=>ws=[]\/∃t r,ws=t::r/\Ap t.sort=true
 |_,ws=>∃t r,ws=t::r/\Ap t.sort=true
theorem zaq{w2:List Tok}(h:∃t r,ws=t::r/\Ap t.sort=true):∃t r,ws++w2=t::r/\Ap t.sort=true:=by
 obtain⟨t,r,rfl,h⟩:=h;exact⟨t,r++w2,rfl,h⟩
theorem G.head{l:zU}{k:GK}{t:T}(h:G l k ws t):hdK k ws:=by
 induction h with
 |Am=>trivial
 |fn=>trivial
 |cond=>trivial
 |zkp=>trivial
 |zkr _ ih=>exact ih
 |zhs _ _ _ ih _=>exact zaq ih
 |sum _ _ ih _=>exact zaq ih
 |term _ _ ih _=>exact zaq ih
 |chN=>exact .inl rfl
 |chC hs=>exact .inr ⟨_,_,rfl,hs⟩
 |call _ _ ih _=>exact zaq ih
 |caN=>exact .inl rfl
 |caC _ _ ih _=>exact .inr (zaq ih)
 |leaf hb=>exact⟨_,_,rfl,hb⟩
 |bracket ha=>exact⟨_,_,rfl,by rw[ha];rfl⟩
 |pair ha=>exact⟨_,_,rfl,by rw[ha];rfl⟩
section
variable {l:List UInt8}{ts:List Tok}
variable{st st':PS}{x:Tok}{r:List Tok}{s:Int}{k:Nat}
theorem J5(b:st.stuck=false)(h:ts.drop st.next=x::r):Ej ts st=some x:=by
 unfold Ej;rw[b];simpa using(Tn h).1
theorem Ms{t:Tok}(g:ts.drop st.next=x::r)(h:Bg ts s st=some (t,st'))(i:st'.stuck=false)(f:s≠0):t=x/\ts.drop st'.next=r:=by
 obtain⟨a,b,c⟩:=Fp h i f;obtain⟨d,e⟩:=Tn g;rw[d]at b;cases b;rw[a];exact⟨rfl,e⟩
theorem Sn(f:ts.drop st.next=x::r)(h:Fg ts s st=some (k,st'))(g:st'.stuck=false)(c:s≠0):k=x.fr/\ts.drop st'.next=r:=by
 obtain⟨t,a,_,rfl,b⟩:=Mz h g c;obtain⟨d,e⟩:=Tn f;rw[d]at a;cases a;rw[b];exact⟨rfl,e⟩
theorem zc2{y:zU}(c:ts.drop st.next=x::r)(h:Dv l ts st=some ((y,k),st'))(f:st'.stuck=false):y=Bv l x.fr x.to/\k=x.fr/\ts.drop st'.next=r:=by
 obtain⟨t,a,_,_,rfl,rfl,b⟩:=U7 h f;obtain⟨d,e⟩:=Tn c;rw[d]at a;cases a;rw[b];exact⟨rfl,rfl,e⟩
theorem zar:∀ {g:List Int} {st st':PS} {k:Int} {x:Tok},Ej ts st=some x->x.sort∉g->Bn ts g st=some (k,st')->k=0/\st'=st
 |[],st,st',k,x,_,_,h=>by cases h;exact⟨rfl,rfl⟩
 |y::g,st,st',k,x,hx,hg,h=>by
  rw[Bn,hx,zbS,jA (λe=>hg (by simp[e]))]at h;exact zar hx (λe=>hg (by simp[e])) h
theorem V7:∀ {g:List Int} {st st':PS} {k:Int} {x:Tok} {r:List Tok},st.stuck=false->ts.drop st.next=x::r->(∀y∈g,y≠0)->x.sort∈g->Bn ts g st=some (k,st')->st'.stuck=false->k=x.sort/\ts.drop st'.next=r
 |[],st,st',k,x,r,_,_,_,hg,h,_=>by cases hg
 |y::g,st,st',k,x,r,hst,hx,h0,hg,h,hs=>by
  rw[Bn,J5 hst hx,zbS]at h;split at h
  ·obtain⟨⟨f,e⟩,b,h⟩:=zbE.1 h;cases h;obtain⟨rfl,q⟩:=Ms hx b hs (h0 y sM);exact⟨rfl,q⟩
  ·rename_i c;exact V7 hst hx (λz d=>h0 z (by simp[d])) (by simpa[c]using hg) h hs
end
variable{l:List UInt8}{a t:T}{w2 rest:List Tok}{u:Tok}
def Mk(l:zU)(ts:List Tok)(k:GK)(ws:List Tok)(t:T):Prop:=
 ∀ {n:Nat} {st st':PS} {r:T} {u:Tok} {rest:List Tok},okK k->fol k u.sort->ts.drop st.next=ws++u::rest->st.stuck=false->runK l ts k n st=some (r,st')->st'.stuck=false->r=t/\ts.drop st'.next=u::rest
theorem zas{p:Part}{g:List Int}(h:G l (.chF p g a) w2 t)(b:∀x∈g,x≠0/\fol (pk p) x)(c:fol (pk p) u.sort):∃v r,w2++u::rest=v::r/\fol (pk p) v.sort:=by
 rcases h.head with rfl|⟨v,r,rfl,d⟩
 ·exact⟨u,rest,rfl,c⟩
 ·exact⟨v,r++u::rest,rfl,(b _ d).2⟩
theorem zgn(h:G l (.caF a) w2 t):∃v r,w2++u::rest=v::r:=by
 rcases h.head with rfl|⟨v,r,rfl,b⟩
 ·exact⟨u,rest,rfl⟩
 ·exact⟨v,r++u::rest,rfl⟩
theorem g19:∀x∈([19,20]:List Int),x≠0/\fol (pk .term) x:=by
 intro x b;simp only[zmC,tD,or_false]at b;rcases b with rfl|rfl<;>exact⟨dZ,dZ,dZ⟩
theorem g21:∀x∈([21,22]:List Int),x≠0/\fol (pk .call) x:=by
 intro x b;simp only[zmC,tD,or_false]at b;rcases b with rfl|rfl<;>exact⟨dZ,show Ap _=false by decide⟩
theorem zux(l:zU)(ts:List Tok){k:GK}{ws:List Tok}(h:G l k ws t):Mk l ts k ws t:=by
 induction h with
 |@Am tl tn te ti rcs ds bs rc d b hl hrc hn he hi hp D B ihD ihB=>
  intro n st st' r u rest _ hu hd hst h hs;simp only[pD,wA]at hd;cases n with
  |zero=>simp[runK,Cg]at h
  |succ n=>
  have M:=Ck l ts;simp only[runK]at h;rw[Cg,J5 hst hd,zbS,mA hl]at h;cases n with
  |zero=>simp[Oh]at h
  |succ n=>
  simp only[Oh,zbE,zsI,zpI,uB]at h;obtain⟨k,t1,h1,rcv,t2,h2,bn,bat,t3,h3,c4,t4,h4,d',t5,h5,c6,t6,h6,x,t7,h7,t8,h8,rfl,rfl⟩:=h;have a7:t7.stuck=false:=by rw[<-(Bp h8).1];exact hs
  have a6:=((M n).expr h7).1 a7;have a5:=(An h6).1 a6;have a4:=((M n).expr h5).1 a5;have a3:=(An h4).1 a4;have a2:=(Ii h3).1 a3;have a1:=(Bi h2).1 a2;obtain⟨rfl,d1⟩:=Sn hd h1 a1 dZ;have key:rcv=(if rc then 4 else 0)/\ts.drop t2.next=tn::te::(ds++ti::(bs++u::rest)):=by
   rcases hrc with⟨rfl,rfl⟩|⟨r4,rfl,h4',rfl⟩
   ·obtain⟨rfl,rfl⟩:=zar (J5 a1 d1) (by rw[hn];decide) h2;exact⟨rfl,d1⟩
   ·obtain⟨rfl,q⟩:=V7 a1 d1 dZ (by rw[h4'];decide) h2 a2;exact⟨h4',q⟩
  obtain⟨rfl,d2⟩:=key;obtain⟨rfl,rfl,d3⟩:=zc2 d2 h3 a3;obtain⟨rfl,d4⟩:=Ms d3 h4 a4 dZ;obtain⟨rfl,d5⟩:=ihD trivial (show Gx ti.sort=true by rw[hi];decide) d4 a4 (n:=n) h5 a5;obtain⟨rfl,d6⟩:=Ms d5 h6 a6 dZ;obtain⟨rfl,d7⟩:=ihB trivial hu d6 a6 (n:=n) h7 a7;refine⟨?_,by rw[Iv h8];exact d7⟩;cases rc<;>rfl
 |@fn tl tn ta bs b hl hn ha hp B ihB=>
  intro n st st' r u rest _ hu hd hst h hs;simp only[pD]at hd;cases n with
  |zero=>simp[runK,Cg]at h
  |succ n=>
  have M:=Ck l ts;simp only[runK]at h;rw[Cg,J5 hst hd,zbS,jA (by rw[hl];decide),mA hl]at h;cases n with
  |zero=>simp[Oj]at h
  |succ n=>
  simp only[Oj,zbE,zsI,zpI,uB]at h;obtain⟨k,t1,h1,bn,bat,t3,h3,c4,t4,h4,x,t7,h7,t8,h8,rfl,rfl⟩:=h;have a7:t7.stuck=false:=by rw[<-(Bp h8).1];exact hs
  have a4:=((M n).expr h7).1 a7;have a3:=(An h4).1 a4;have a1:=(Ii h3).1 a3;obtain⟨rfl,d1⟩:=Sn hd h1 a1 dZ;obtain⟨rfl,rfl,d3⟩:=zc2 d1 h3 a3;obtain⟨rfl,d4⟩:=Ms d3 h4 a4 dZ;obtain⟨rfl,d7⟩:=ihB trivial hu d4 a4 (n:=n) h7 a7;exact⟨rfl,by rw[Iv h8];exact d7⟩
 |@cond tl u1 u2 cs xs ys c x y hl h1' h2' C X Y ihC ihX ihY=>
  intro n st st' r u rest _ hu hd hst h hs;simp only[pD,wA]at hd;cases n with
  |zero=>simp[runK,Cg]at h
  |succ n=>
  have M:=Ck l ts;simp only[runK]at h;rw[Cg,J5 hst hd,zbS,jA (by rw[hl];decide),jA (by rw[hl];decide),mA hl]at h;cases n with
  |zero=>simp[Ie]at h
  |succ n=>
  simp only[Ie,zbE,zsI,zpI,uB]at h;obtain⟨k,t1,h1,x',t2,h2,c3,t3,h3,y',t4,h4,c5,t5,h5,z',t6,h6,t8,h8,rfl,rfl⟩:=h;have a6:t6.stuck=false:=by rw[<-(Bp h8).1];exact hs
  have a5:=((M n).expr h6).1 a6;have a4:=(An h5).1 a5;have a3:=((M n).expr h4).1 a4;have a2:=(An h3).1 a3;have a1:=((M n).expr h2).1 a2;obtain⟨rfl,d1⟩:=Sn hd h1 a1 dZ;obtain⟨rfl,d2⟩:=ihC trivial (show Gx u1.sort=true by rw[h1'];decide) d1 a1 (n:=n) h2 a2;obtain⟨rfl,d3⟩:=Ms d2 h3 a3 dZ;obtain⟨rfl,d4⟩:=ihX trivial (show Gx u2.sort=true by rw[h2'];decide) d3 a3 (n:=n) h4 a4;obtain⟨rfl,d5⟩:=Ms d4 h5 a5 dZ;obtain⟨rfl,d6⟩:=ihY trivial hu d5 a5 (n:=n) h6 a6;exact⟨rfl,by rw[Iv h8];exact d6⟩
 |@zkp ws t h ih=>
  intro n st st' r u rest _ hu hd hst hr hs;cases n with
  |zero=>simp[runK,Cg]at hr
  |succ n=>
  obtain⟨v,w,rfl,hv⟩:=h.head;have hv':v.sort≠3/\v.sort≠6/\v.sort≠7:=by
   simp only[Ap,fE]at hv;omega
  simp only[runK]at hr;rw[Cg,J5 hst hd,zbS,jA hv'.1,jA hv'.2.1,jA hv'.2.2]at hr;exact ih trivial hu hd hst (n:=n) hr hs
 |@zkr ws t h ih=>
  intro n st st' r u rest _ hu hd hst hr hs;cases n with
  |zero=>simp[runK,Kk]at hr
  |succ n=>
  simp only[runK,Kk,zbE,uB]at hr;obtain⟨x,t1,h1,sg,t2,h2,hr⟩:=hr;have a2:t2.stuck=false:=by
   split at hr
   ·cases hr;exact hs
   ·simp only[zbE,zsI,zpI,uB]at hr;obtain⟨y,t3,h3,rfl,rfl⟩:=hr;exact((Ck l ts n).sum h3).1 hs
  have a1:=(Bi h2).1 a2;obtain⟨rfl,d1⟩:=ih trivial (zgm hu) hd hst (n:=n) h1 a1;have hns:u.sort∉([23,15]:List Int):=by
   have hu':Gx u.sort=true:=hu;simp[Gx]at hu';simp;omega
  obtain⟨rfl,rfl⟩:=zar (J5 a1 d1) hns h2;rw[mA rfl]at hr;cases hr;exact⟨rfl,d1⟩
 |@zhs w1 w2 sg x y X hsg Y ihX ihY=>
  intro n st st' r u rest _ hu hd hst hr hs;simp only[wA,pD]at hd;cases n with
  |zero=>simp[runK,Kk]at hr
  |succ n=>
  simp only[runK,Kk,zbE,uB]at hr;obtain⟨x',t1,h1,sg',t2,h2,hr⟩:=hr;have a2:t2.stuck=false:=by
   split at hr
   ·cases hr;exact hs
   ·simp only[zbE,zsI,zpI,uB]at hr;obtain⟨y,t3,h3,rfl,rfl⟩:=hr;exact((Ck l ts n).sum h3).1 hs
  have a1:=(Bi h2).1 a2;obtain⟨rfl,d1⟩:=ihX trivial (show fol .sum sg.sort by rcases hsg with e|e<;>rw[e]<;>exact⟨dZ,dZ⟩) hd hst (n:=n) h1 a1;obtain⟨rfl,d2⟩:=V7 a1 d1 dZ (by simpa using hsg) h2 a2;rw[jA (by rcases hsg with e|e<;>rw[e]<;>decide)]at hr;simp only[zbE,zsI,zpI,uB]at hr;obtain⟨y',t3,h3,rfl,rfl⟩:=hr;obtain⟨rfl,d3⟩:=ihY trivial (zgm hu) d2 a2 (n:=n) h3 hs;exact⟨rfl,d3⟩
 |@sum w1 w2 x t X C ihX ihC=>
  intro n st st' r u rest _ hu hd hst hr hs;rw[wA]at hd;cases n with
  |zero=>simp[runK,Kj]at hr
  |succ n=>
  simp only[runK,Kj]at hr;cases n with
  |zero=>simp[Ed]at hr
  |succ n=>
  simp only[Ed,zbE,uB]at hr;obtain⟨x',t1,h1,h2⟩:=hr;have a1:=((Ck l ts n).Ch h2).1 hs;have hu2:fol (.chF .term [19,20] x) u.sort:=⟨λh=>hu.1 (by simp at h ⊢;omega),λh=>hu.1 (by simp at h ⊢;omega),hu.2⟩;obtain⟨v,w,hv,hvf⟩:=zas C g19 (rest:=rest) (zjs hu2);rw[hv]at hd;cases n with
  |zero=>simp[Dw]at h1
  |succ n=>
  rw[Dw]at h1;obtain⟨rfl,d1⟩:=ihX trivial hvf hd hst (n:=n) h1 a1;rw[<-hv]at d1;exact ihC g19 hu2 d1 a1 (n:=n+1) h2 hs
 |@term w1 w2 x t X C ihX ihC=>
  intro n st st' r u rest _ hu hd hst hr hs;rw[wA]at hd;cases n with
  |zero=>simp[runK,Ha]at hr
  |succ n=>
  simp only[runK,Ha]at hr;cases n with
  |zero=>simp[Ed]at hr
  |succ n=>
  simp only[Ed,zbE,uB]at hr;obtain⟨x',t1,h1,h2⟩:=hr;have a1:=((Ck l ts n).Ch h2).1 hs;have hu2:fol (.chF .call [21,22] x) u.sort:=⟨hu.1,hu.2⟩;obtain⟨v,w,hv,hvf⟩:=zas C g21 (rest:=rest) (zjs hu2);rw[hv]at hd;cases n with
  |zero=>simp[Dw]at h1
  |succ n=>
  rw[Dw]at h1;obtain⟨rfl,d1⟩:=ihX trivial hvf hd hst (n:=n) h1 a1;rw[<-hv]at d1;exact ihC g21 hu2 d1 a1 (n:=n+1) h2 hs
 |@chN p g a=>
  intro n st st' r u rest _ hu hd hst hr hs;cases n with
  |zero=>simp[runK,Bd]at hr
  |succ n=>
  simp only[runK,Bd,zbE,uB]at hr;obtain⟨k,t1,h1,hr⟩:=hr;obtain⟨rfl,rfl⟩:=zar (J5 hst hd) hu.1 h1;rw[mA rfl]at hr;cases hr;exact⟨rfl,hd⟩
 |@chC p g a sg w1 w2 y t hsg Y C ihY ihC=>
  intro n st st' r u rest hok hu hd hst hr hs;simp only[pD,wA]at hd;cases n with
  |zero=>simp[runK,Bd]at hr
  |succ n=>
  simp only[runK,Bd,zbE,uB]at hr;obtain⟨k,t1,h1,hr⟩:=hr;have a1:t1.stuck=false:=by
   split at hr
   ·cases hr;exact hs
   ·simp only[zbE,uB]at hr;obtain⟨c,t2,h2,h3⟩:=hr;exact((Ck l ts n).part h2).1 (((Ck l ts n).Ch h3).1 hs)
  obtain⟨rfl,d1⟩:=V7 hst hd (λy hy=>(hok y hy).1) hsg h1 a1;rw[jA (hok _ hsg).1]at hr;simp only[zbE,uB]at hr;obtain⟨c,t2,h2,h3⟩:=hr;have a2:=((Ck l ts n).Ch h3).1 hs;obtain⟨v,w,hv,hvf⟩:=zas C hok (rest:=rest) (zjs hu);rw[hv]at d1;cases n with
  |zero=>simp[Dw]at h2
  |succ n=>
  have h2':runK l ts (pk p) n t1=some (c,t2):=by
   cases p with
   |term=>rw[Dw]at h2;exact h2
   |call=>rw[Dw]at h2;exact h2
  obtain⟨rfl,d2⟩:=ihY (by cases p<;>trivial) hvf d1 a1 h2' a2;rw[<-hv]at d2;exact ihC hok (by cases p<;>exact hu) d2 a2 (n:=n+1) h3 hs
 |@call w1 w2 x t X C ihX ihC=>
  intro n st st' r u rest _ hu hd hst hr hs;rw[wA]at hd;cases n with
  |zero=>simp[runK,Gv]at hr
  |succ n=>
  simp only[runK,Gv,zbE,uB]at hr;obtain⟨x',t1,h1,h2⟩:=hr;have a1:=((Ck l ts n).Dx h2).1 hs;obtain⟨v,w,hv⟩:=zgn C (u:=u) (rest:=rest);rw[hv]at hd;obtain⟨rfl,d1⟩:=ihX trivial trivial hd hst (n:=n) h1 a1;rw[<-hv]at d1;exact ihC trivial hu d1 a1 (n:=n) h2 hs
 |@caN a=>
  intro n st st' r u rest _ hu hd hst hr hs;cases n with
  |zero=>simp[runK,Bh]at hr
  |succ n=>
  have hu':Ap u.sort=false:=hu;simp only[runK]at hr;rw[Bh,J5 hst hd,zbS,jA (by rw[hu'];decide)]at hr;cases hr;exact⟨rfl,hd⟩
 |@caC a w1 w2 y t Y C ihY ihC=>
  intro n st st' r u rest _ hu hd hst hr hs;rw[wA]at hd;cases n with
  |zero=>simp[runK,Bh]at hr
  |succ n=>
  obtain⟨v0,w0,hv0,hb0⟩:=Y.head;have hd0:=hd;rw[hv0]at hd0;simp only[runK]at hr;rw[Bh,J5 hst hd0,zbS,mA hb0]at hr;simp only[zbE,uB]at hr;obtain⟨c,t3,h2,h3⟩:=hr;have a2:=((Ck l ts n).Dx h3).1 hs;obtain⟨v,w,hv⟩:=zgn C (u:=u) (rest:=rest);rw[hv]at hd;obtain⟨rfl,d1⟩:=ihY trivial trivial hd hst (n:=n) h2 a2;rw[<-hv]at d1;exact ihC trivial hu d1 a2 (n:=n) h3 hs
 |@leaf tk x hb h16 hx=>
  intro n st st' r u rest _ hu hd hst hr hs;cases n with
  |zero=>simp[runK,Ev]at hr
  |succ n=>
  simp only[runK]at hr;rw[Ev,J5 hst hd,zbS,jA h16,mA hb]at hr;simp only[zbE,zsI,zpI,uB]at hr;obtain⟨c,t3,h2,x',h3,rfl,rfl⟩:=hr;have h0:tk.sort≠0:=by simp only[Ap,fE]at hb;omega
  rw[hx]at h3;cases h3;exact⟨rfl,(Ms hd h2 hs h0).2⟩
 |@bracket ta tc ws x ha hc X ihX=>
  intro n st st' r u rest _ hu hd hst hr hs;simp only[pD,wA,rD]at hd;cases n with
  |zero=>simp[runK,Ev]at hr
  |succ n=>
  simp only[runK]at hr;rw[Ev,J5 hst hd,zbS,mA ha]at hr;cases n with
  |zero=>simp[Cd]at hr
  |succ n=>
  have M:=Ck l ts n;simp only[Cd,zbE,uB]at hr;obtain⟨k,t1,h1,x',t2,h2,sg,t3,h3,hr⟩:=hr;have a3:t3.stuck=false:=by
   split at hr
   ·simp only[zbE,zsI,zpI,uB]at hr;obtain⟨y,t4,h4,c5,t5,h5,t6,h6,rfl,rfl⟩:=hr;exact(M.expr h4).1 ((An h5).1 (by rw[<-(Bp h6).1];exact hs))
   ·simp only[zbE,zsI,zpI,uB]at hr;obtain⟨c5,t5,h5,t6,h6,rfl,rfl⟩:=hr;exact(An h5).1 (by rw[<-(Bp h6).1];exact hs)
  have a2:=(Bi h3).1 a3;have a1:=(M.expr h2).1 a2;obtain⟨rfl,d1⟩:=Sn hd h1 a1 dZ;obtain⟨rfl,d2⟩:=ihX trivial (show Gx tc.sort=true by rw[hc];decide) d1 a1 (n:=n) h2 a2;obtain⟨rfl,rfl⟩:=zar (J5 a2 d2) (by rw[hc];decide) h3;rw[jA dZ]at hr;simp only[zbE,zsI,zpI,uB]at hr;obtain⟨c5,t5,h5,t6,h6,rfl,rfl⟩:=hr;have a5:t5.stuck=false:=by rw[<-(Bp h6).1];exact hs
  obtain⟨rfl,d5⟩:=Ms d2 h5 a5 dZ;exact⟨rfl,by rw[Iv h6];exact d5⟩
 |@pair ta tm tc w1 w2 x y ha hm hc X Y ihX ihY=>
  intro n st st' r u rest _ hu hd hst hr hs;simp only[pD,wA,rD]at hd;cases n with
  |zero=>simp[runK,Ev]at hr
  |succ n=>
  simp only[runK]at hr;rw[Ev,J5 hst hd,zbS,mA ha]at hr;cases n with
  |zero=>simp[Cd]at hr
  |succ n=>
  have M:=Ck l ts n;simp only[Cd,zbE,uB]at hr;obtain⟨k,t1,h1,x',t2,h2,sg,t3,h3,hr⟩:=hr;have a3:t3.stuck=false:=by
   split at hr
   ·simp only[zbE,zsI,zpI,uB]at hr;obtain⟨y,t4,h4,c5,t5,h5,t6,h6,rfl,rfl⟩:=hr;exact(M.expr h4).1 ((An h5).1 (by rw[<-(Bp h6).1];exact hs))
   ·simp only[zbE,zsI,zpI,uB]at hr;obtain⟨c5,t5,h5,t6,h6,rfl,rfl⟩:=hr;exact(An h5).1 (by rw[<-(Bp h6).1];exact hs)
  have a2:=(Bi h3).1 a3;have a1:=(M.expr h2).1 a2;obtain⟨rfl,d1⟩:=Sn hd h1 a1 dZ;obtain⟨rfl,d2⟩:=ihX trivial (show Gx tm.sort=true by rw[hm];decide) d1 a1 (n:=n) h2 a2;obtain⟨rfl,d3⟩:=V7 a2 d2 dZ (by rw[hm];decide) h3 a3;rw[mA hm]at hr;simp only[zbE,zsI,zpI,uB]at hr;obtain⟨y',t4,h4,c5,t5,h5,t6,h6,rfl,rfl⟩:=hr;have a5:t5.stuck=false:=by rw[<-(Bp h6).1];exact hs
  have a4:=(An h5).1 a5;obtain⟨rfl,d4⟩:=ihY trivial (show Gx tc.sort=true by rw[hc];decide) d3 a3 (n:=n) h4 a4;obtain⟨rfl,d5⟩:=Ms d4 h5 a5 dZ;exact⟨rfl,by rw[Iv h6];exact d5⟩
end
end
section
namespace Inl
open Go
variable{l:List UInt8}{t:T}
theorem zp7{k:GK}{f:List Tok}(h:G l k f t):okK k->∀u∈f,u.sort≠0:=by
 induction h with
 |@Am tl tn te ti rcs ds bs rc d b hl hrc hn he hi hp D B ihD ihB=>
  intro _ u e;simp only[zmC,zmA]at e;rcases e with rfl|e|rfl|rfl|e|rfl|e
  ·omega
  ·rcases hrc with⟨rfl,_⟩|⟨r,rfl,j,_⟩
   ·cases e
   ·rw[xB]at e;subst e;omega
  ·omega
  ·omega
  ·exact ihD trivial u e
  ·omega
  ·exact ihB trivial u e
 |@fn tl tn ta bs b hl hn ha hp B ihB=>
  intro _ u e;simp only[zmC]at e;rcases e with rfl|rfl|rfl|e
  ·omega
  ·omega
  ·omega
  ·exact ihB trivial u e
 |@cond tl t1 t2 cs xs ys c x y hl h1 h2 C X Y ihC ihX ihY=>
  intro _ u e;simp only[zmC,zmA]at e;rcases e with rfl|e|rfl|e|rfl|e
  ·omega
  ·exact ihC trivial u e
  ·omega
  ·exact ihX trivial u e
  ·omega
  ·exact ihY trivial u e
 |zkp _ ih=>intro _;exact ih trivial
 |zkr _ ih=>intro _;exact ih trivial
 |@zhs w1 w2 sg x y X hs Y ihX ihY=>
  intro _ u e;simp only[zmC,zmA]at e;rcases e with e|rfl|e
  ·exact ihX trivial u e
  ·omega
  ·exact ihY trivial u e
 |sum _ _ ih ih2=>
  intro _ u e;rcases zmA.1 e with e|e
  ·exact ih trivial u e
  ·exact ih2 g19 u e
 |term _ _ ih ih2=>
  intro _ u e;rcases zmA.1 e with e|e
  ·exact ih trivial u e
  ·exact ih2 g21 u e
 |chN=>intro _ u e;cases e
 |@chC p g a sg w1 w2 y t hs Y C ihY ihC=>
  intro i u e;simp only[zmC,zmA]at e;rcases e with rfl|e|e
  ·exact(i _ hs).1
  ·exact ihY (by cases p<;>trivial) u e
  ·exact ihC i u e
 |call _ _ ih ih2=>
  intro _ u e;rcases zmA.1 e with e|e
  ·exact ih trivial u e
  ·exact ih2 trivial u e
 |caN=>intro _ u e;cases e
 |caC _ _ ih ih2=>
  intro _ u e;rcases zmA.1 e with e|e
  ·exact ih trivial u e
  ·exact ih2 trivial u e
 |@leaf tk x hb h16 h=>
  intro _ u e;rw[xB]at e;subst e;simp only[Ap,fE]at hb;omega
 |@bracket ta tc f x ha hc X ih=>
  intro _ u e;simp only[zmC,zmA,tD,or_false]at e;rcases e with rfl|e|rfl
  ·omega
  ·exact ih trivial u e
  ·omega
 |@pair ta tm tc w1 w2 x y ha hm hc X Y ihX ihY=>
  intro _ u e;simp only[zmC,zmA,tD,or_false]at e;rcases e with rfl|e|rfl|e|rfl
  ·omega
  ·exact ihX trivial u e
  ·omega
  ·exact ihY trivial u e
  ·omega
theorem zsq{body:List Tok}{fuel:Nat}(n:Lex 0 l body)(q:Gj l (body++[⟨0,l.length,l.length⟩]) fuel=some (.ok t)):G l .expr body t/\∀ {b:T},G l .expr body b->t=b:=by
 have o:∀u∈body,u.sort≠0:=λu r=>((n.Eh).1 u r).sort;obtain⟨s,f,i,m⟩:=zjn o q;have w:(⟨0,0,false,0⟩:PS).stuck=false:=rfl;obtain⟨c,⟨a,d⟩,g⟩:=(zak l _ fuel).expr f i;simp only[List.drop_zero,Nat.zero_add]at a d;have p:s.next<=body.length:=by
  rcases yB body.length s.next with h|h
  ·exfalso
   -- the last token is no part of an expr
   have j:c.length=s.next:=d.symm;have:(⟨0,l.length,l.length⟩:Tok)∈c:=by
    have e:(body++[⟨0,l.length,l.length⟩])[body.length]?=some (⟨0,l.length,l.length⟩:Tok):=sM;rw[a,iA oM]at e;exact dD e
   exact absurd rfl (zp7 g trivial _ this)
  ·exact h
 have v:=m p;have j:c=body:=by
  have e:=congrArg (List.take body.length) a;rw[List.take_append_of_le_length (znL _),List.take_length,List.take_append_of_le_length oM,List.take_of_length_le oM]at e;exact e.symm
 subst j;exact⟨g,λ{b} k=>(zux l _ k (u:=⟨0,l.length,l.length⟩) (rest:=[]) trivial (show Gx 0=true by decide) sM rfl f i).1⟩
end Inl
end
end Tw
section
open Go Go.RowKit
section
variable {P:Program}{n:Nat}
variable{a:Act}{Q:Exit->Act->World->Prop}{w:World}{v:Value}
theorem zeo(b:Nat){o:Oper}{K:Act->World->Prop}{r:Result Next}(h:o.upon P a K Q r):o.uponIn (Fence.wide.inRound b) n P a K Q r:=by
 cases r with
 |ok x w=>
  cases x with
  |value v=>exact h
  |skip=>exact h
  |defer d=>exact h
  |enter f args=>exact⟨λh=>(by cases h),CallsIn.inRound b (callsIn_wide.2 h)⟩
  |row row args=>exact⟨λh=>(by cases h),λc g _=>by obtain⟨v,i,r,s⟩:=h c g;exact⟨v,i,r,stepsIn_wide.2 s⟩⟩
  |_=>exact h.elim
 |halt e w=>
  cases e with
  |panic v=>exact h
  |_=>exact h.elim
theorem Uh(d:Nat){k:Region.Mode}{g:Array Oper}{Q:Exit->Act->World->Prop}(m:¬LetsOut Q)(l:∀(i:Nat) (o:Oper),g[i]?=some o->∀c,o.op ≠ .defer c):
  ∀(fuel:Nat) (f:Array Bool) (a:Act) (w:World),wpAny P k g Q fuel f a w->wpAnyIn (Fence.wide.inRound d) n P k g Q fuel f a w
 |0,_,_,_,h=>h
 |fuel+1,f,a,w,h=>by
  refine⟨h.1,λi hi=>?_⟩;have b:=wpOp_mono (K':=wpAnyIn (Fence.wide.inRound d) n P k g Q fuel (f.setIfInBounds i true)) (λa w=>Uh d m l fuel _ a w) (h.2 i hi);unfold wpOp at b;unfold wpOpIn;split
  ·rename_i e;simp only[e]at b;exact b
  ·rename_i o e;simp only[e]at b;split
   ·rename_i j;simp only[j,if_true]at b;rcases b with b|b
    ·refine⟨λ_ _=>trivial,?_⟩;rw[show(Fence.wide.inRound d).round=some d from rfl,Oper.semAt_some d a.eval o (l i o e)];exact zeo d b
    ·exact absurd b.2 m
   ·rename_i j;simp only[j]at b;exact⟨λ_ _=>trivial,b⟩
def Zd(Q:Exit->Act->World->Prop)(e:Exit)(a:Act)(w:World):Prop:=e=.normal/\Q .normal a w
theorem zep(b:Nat){f:Nat}{l:List Oper}(S:World->Prop)(e:P.follows .mixedOrders=true)(d:zlp l=true)(c:S w.drew)
  (h:S w.drew->wpAnyH P .any l.toArray (Zd Q) S l.toArray.size (Array.replicate l.toArray.size false) a w.drew):(Code.region f l.toArray true).wpIn (Fence.wide.inRound b) n P Q a w:=by
 refine wpIn_mono (Q:=Zd Q) (wpIn_region_any e (Uh b ?_ (zem d) _ _ _ _ (wpAny_of_held (S:=S) _ _ _ _ (h c)))) ?_
 ·rintro⟨a,w,h,_⟩;cases h
 ·rintro g a w ⟨rfl,h⟩;exact h
theorem Kg{d:Option Tmp}:∀c a w,Zd Q (.panic c) (Act.put a d v) w->Zd Q (.panic c) a w:=λ_ _ _ h=>by cases h.1
theorem tkH{b:Array Oper}{S:World->Prop}(i:Nat){d:Oper}{fuel:Nat}{c:Array Bool}(hi:b[i]?=some d)(l:∀w,S w->(execOp a.eval d).run P w=.ok (.value v) w)(f:S w)
  (h:wpAnyH P .any b (Zd Q) S fuel (c.setIfInBounds i true) (a.put d.dst v) w) (e:Region.wanted d (yielded b a.tmps)=true:=by rfl) (k:Region.noSelect b=true:=by kernel_rfl) (g:Region.free .any b c i=true:=by kernel_rfl) (j:(Region.ready .any b c).contains i=true:=by kernel_rfl):wpAnyH P .any b (Zd Q) S (fuel+1) c a w:=
 wpAnyH_take hi k g j Kg (.inl ⟨e,l⟩) f h
end
end
abbrev yA:=@AllReadyH.cons
abbrev zA:=@AllReadyH.nil
abbrev gE:=@wpAnyH_ready
abbrev iE:=@wpAnyH_done
section
open Tw Go.Proofs.Tryz
open Go.RowKit Go.Shelf
section
theorem zp8(l:Nat)(ρ :Operand->Value)(d:Option Tmp)(f:TypeId)(p:String)(b:Array Edge)(g:Option (Nat×Bool))(t:TypeId):Oper.semAt (some l) ρ {dst:=d,op:=.alloc t,type:=f,pos:=p,after:=b,guard:=g}=execOp ρ {dst:=d,op:=.alloc t,type:=f,pos:=p,after:=b,guard:=g}:=rfl
theorem zsr(l:Nat)(ρ :Operand->Value)(d:Option Tmp)(i:TypeId)(p:String)(b:Array Edge)(g:Option (Nat×Bool))(f:Nat)(xs:Array Operand)(h:Array TypeId):Oper.semAt (some l) ρ {dst:=d,op:=.call {callee:=.value (.func f),args:=xs,argTypes:=h},type:=i,pos:=p,after:=b,guard:=g}=execOp ρ {dst:=d,op:=.call {callee:=.value (.func f),args:=xs,argTypes:=h},type:=i,pos:=p,after:=b,guard:=g}:=rfl
attribute [local go_sem] zk5 zgi zk6 zp4 zgj zgk zgl zp8 zsr
section
variable {P:Program}{α:Type}{n:Nat}{g:Operand}{ps:Array Tmp}{assign body:Code}{Q:Exit -> Act -> World -> Prop}{a:Act}{w:World}
theorem znj{h :Nat}{a3 :Loop}(Z :w.heap[h]?=some (.loop a3)){p d1:Tmp}{f:Nat}{s:Array Value}(V:a.eval g=.func (.func f) #[] s)(t:∀args w,(callFunc f args).run P w=.ok (.enter f args) w)
  {b :α -> Value} {Kp:World->World->Prop} {S q:List α -> Prop} {N:Nat} {i:World} (a0:zol P f s (λx=>#[b x]) Kp S q N i)
  (M:∀ {A B C:World},Kp A B->Kp B C->Kp A C) (L:∀(W:World) (l:Nat) (o a2:Obj),w.heap.size<=l->W.heap[l]?=some o->o.isCells=false->o.isWalk=false->Kp W (W.putObj l a2)) (R:Below i.heap.size i w)
  (I:List α -> World->Prop) (d:Code->List α -> World->Prop) (H:OwnFrom w.heap.size I) (J:∀c,OwnFrom w.heap.size (d c)) (z:I [] w)
  (O:∀(l:Nat) (x :α) (W:World) (K:Act->World->Prop),K {tmps:=(a.tmps.setIfInBounds p (b x)).setIfInBounds d1 (b x),defers:=[]} W ->
   assign.wpIn (Fence.wide.inRound l) 0 P (Exit.then K (λ_ _ _=>False)) {tmps:=a.tmps.setIfInBounds p (b x),defers:=[]} W)
  (T:∀(l:Nat) (pre:List α) (x :α) (W:World),w.heap.size<=l->(∃r,W.heap[l]?=some (.loop r))->I pre W->pre.length<N->body.wpIn (Fence.wide.inRound l) 0 P (ownPostG w.heap.size Kp I d (pre++[x]) W) {tmps:=(a.tmps.setIfInBounds p (b x)).setIfInBounds d1 (b x),defers:=[]} W)
  (U:∀(xs:List α) (W:World),S xs->I xs W->Q .normal a W)
  (a1:∀(c:Code) (pre:List α) (W:World),q pre->d c pre W->c.wpIn (Fence.wide.inRound h) n P Q a W) :
  (Code.rangeFunc g #[p] assign body).wpIn (Fence.wide.inRound h) n P Q a w:=
 zp1 Z V t a0 (λ_ _ _ _ _ hs _ _=>hs) (λy k=>M y k) L R (λ_=>rfl) I d H J z (λx=>{tmps:=(a.tmps.setIfInBounds p (b x)).setIfInBounds d1 (b x),defers:=[]})
  (λl x W K hK=>by simpa using O l x W K hK) (λl pre x W D E F G _=>T l pre x W D E F G) U a1
end
variable{X Y w1:World}{B B' size k n₀ j:Nat}{e u:TypeId}{v:Value}{xs:List Value}{tmp:Obj}{c:Array Value}{m:Nat×Nat}
theorem Fy(h:X.ownsRow B e size v k xs)(i:B'<=B)(p:∀(g:Nat) (c:Array Value),zH X g c e->zH Y g c e):Y.ownsRow B' e size v k xs:=by
 refine⟨h.1,?_⟩;rcases h.2 with h|⟨g,b,d,f,o,l,r⟩
 ·exact .inl h
 ·exact .inr ⟨g,b,d,f,kB i o,p _ _ l,r⟩
theorem Ij(h:X.ownsRow B e size v k xs):∃p c,v=.slice p k c:=by
 rcases h.2 with⟨rfl,rfl⟩|⟨g,b,d,rfl,_⟩
 ·exact⟨_,_,rfl⟩
 ·exact⟨_,_,rfl⟩
theorem Ik{t:TypeId}{r:Value}(hv:Boxed X B t v)(q:X.ownsRow n₀ e size v k xs)(o:(X.alloc tmp).grownBy w1 v.ownBlock)(h:u≠t)(i:u≠e)(b:X.heap[j]?=some (.cells c u m)):(w1.setCell (aD B 0) r).heap[j]?=some (.cells c u m):=by
 have l:B≠j:=by
  rintro rfl;have:X.heap[B]?=_:=hv;rw[b]at this;cases this;exact h rfl
 have p:=(zgE.1 b).1;rw[Below.heap_setCell _ _ _ _ l.symm];rw[o.block j (by simp;omega) ?_]
 ·exact(Below.heap_alloc _ _ _ p).trans b
 ·intro d;rcases q.2 with⟨rfl,_⟩|⟨g,s,x,rfl,_,f,_⟩
  ·cases d
  ·cases d;rw[b]at f;cases f;exact i rfl
theorem Tp(o:X.ownsRow n₀ e size v k xs)(i:(X.alloc tmp).grownBy w1 v.ownBlock)(h:u≠e)(b:X.heap[j]?=some (.cells c u m)):w1.heap[j]?=some (.cells c u m):=by
 have l:=(zgE.1 b).1;rw[i.block j (by simp;omega) ?_]
 ·exact(Below.heap_alloc _ _ _ l).trans b
 ·intro d;rcases o.2 with⟨rfl,_⟩|⟨g,p,q,rfl,_,f,_⟩
  ·cases d
  ·cases d;rw[b]at f;cases f;exact h rfl
theorem Ui{P:Program}(w:World){o:Oper}{a:Act}{K:Act->World->Prop}{Q:Exit->Act->World->Prop}
  (s x:Operand) (t:TypeId) (J:o.op=Op.call {callee:=Callee.builtin Builtin.append,args:=#[s,x],argTypes:=#[t,t]})
  (base:Nat) (e:TypeId) (i:TypeInfo) (z:Value) (size f:Nat) (r:P.underlying t=some (.slice e)) (A:P.info? e=some i) (C:i.zero=some z) (D:i.size=size) (E:i.bytes=f) (F:z.cells.size=size) (G:0<size)
  (v:Value) (k:Nat) (xs:List Value) (N:a.eval s=v) (L:w.ownsRow base e size v k xs) (d:Addr) (m c:Nat) (b:List Value) (O:a.eval x=.slice (some d) m c) (I:b.length=m*size)
  (H:∀j u,b[j]?=some u->w.cell? (d.add j)=some u) (y:∀u∈b,u.oneCell'=true) (l:k+m<=maxLen) (p:(k+m)*f<=140737488355328) (q:base<=w.heap.size)
  (hK:∀h w',w'.ownsRow base e size h (k+m) (xs++b)->w.grownBy w' v.ownBlock->K (a.put o.dst h) w'):Oper.wp P o a w K Q:=by
 have⟨h,w',M,R,S,_⟩:=run_append_own (P:=P) w base t o.type e i z size f r A C D E F G v k xs L d m c b I H y l p q;unfold Oper.wp;simp[execOp,J,resolve,invoke,builtin,N,O,M,Result.andThen];exact hK _ _ R S
def zbq(W:World)(v:Value)(l:List Nat):Prop:=W.ownsRow 0 3 1 v l.length (l.map λf:Nat=>Value.int .i64 f)
def Cn(E:List (Tw.T×Value)):List Value:=E.flatMap λe=>[ug e.1.bname,.int .i64 e.1.bpl,e.2]
theorem Qp(E:List (Tw.T×Value))(t:Tw.T)(u:Value):Cn (E++[(t,u)])=Cn E++[ug t.bname,vI t.bpl,u]:=by
 simp[Cn]
def Yh(W:World)(v:Value)(L:List Tw.T):Prop:=∃E:List (Tw.T×Value),E.map (·.1)=L/\W.ownsRow 0 48 3 v E.length (Cn E)/\∀e∈E,zbq W e.2 e.1.useS
def Ww(W:World)(B:Nat)(E:List (Tw.T×Value)):Prop:=(∀e∈E,W.ownsRow B 3 1 e.2 e.1.useS.length (e.1.useS.map λf:Nat=>Value.int .i64 f))/\E.Pairwise λa b=>∀g,a.2.ownBlock=some g->b.2.ownBlock≠some g
theorem Ww.kept{E:List (Tw.T×Value)}(h:Ww X B E)(b:B'<=B)(f:∀(g:Nat) (c:Array Value),zH X g c 3->zH Y g c 3):Ww Y B' E:=⟨λe d=>Fy (h.1 e d) b f,h.2⟩
def zht(W:World)(B:Nat)(v:Value)(L:List Tw.T):Prop:=∃E:List (Tw.T×Value),E.map (·.1)=L/\W.ownsRow B 48 3 v E.length (Cn E)/\Ww W B E
theorem zht.at{W:World}{L:List Tw.T}(h:zht W B v L):Yh W v L:=by
 have⟨E,b,d,f⟩:=h;exact⟨E,b,Fy d (yD _) (λ_ _ h=>h),λe i=>Fy (f.1 e i) (yD _) (λ_ _ h=>h)⟩
theorem zcf(w:World)(a:Value)(t:TypeId):∀j u,[a][j]?=some u->(w.alloc (.cells #[a] t)).cell? (((aD w.heap.size 0):Addr).add j)=some u:=by
 intro j u h;cases j with
 |zero=>
  cases h;exact(Hg (Ac w _)).1
 |succ j=>simp at h
theorem zc3{β:Type}(f:World)(o:f.heap.size<=B):OwnFrom B (λ(_ :β) X=>Below f.heap.size f X):=λ_ X Y row b d l=>
 ⟨d.os.trans b.os,d.tape.trans b.tape,d.output.trans b.output,kB b.size d.size,λi h=>(d.block i (by have:=b.size;omega) (λe=>by have:=(l i e.symm).1;omega)).trans (b.block i h)⟩
theorem Y2(h:Below X.heap.size X Y):KeepsFrom B X Y:=⟨h.size,λi _ _ b _=>(h.block i (zgE.1 b).1).trans b⟩
theorem zgo(h:Below X.heap.size X Y):Kp X Y:=λk _ _ _ b _=>(h.block k (zgE.1 b).1).trans b
theorem Y3(h:zG X Y):Below X.heap.size X Y:=⟨h.os,h.tape,h.output,h.size,λi b=>h.block i b sM⟩
def Tw.T.nodes:Tw.T->Nat
 |.name ..|.int ..|.Ak ..|.side .. =>1
 |.bracket _ _ i=>1+i.nodes
 |.pair _ _ a b=>1+a.nodes+b.nodes
 |.call _ _ a b=>1+a.nodes+b.nodes
 |.binary _ _ _ a b=>1+a.nodes+b.nodes
 |.cond _ _ a b c=>1+a.nodes+b.nodes+c.nodes
 |.fn _ _ _ _ a=>1+a.nodes
 |.Am _ _ _ _ _ a b=>1+(a.nodes+b.nodes)
theorem Tw.Cm:∀ {t:Tw.T} {e:WEn} {w:Nat},(∀x k,e.look x=some k->1<=k)->Ah t e=some w->1<=w/\(w<=2000->t.nodes<=w)
 |.name _ _ x,e,w,he,h=>by
  simp only[Ah]at h;have⟨k,b,h⟩:=zbE.1 h;cases h
  have:=he x k b;simp only[Tw.T.nodes];omega
 |.int ..,_,_,_,h=>by cases h;simp[Tw.T.nodes]
 |.Ak ..,_,_,_,h=>by cases h;simp[Tw.T.nodes]
 |.side ..,_,_,_,h=>by cases h;simp[Tw.T.nodes]
 |.bracket _ _ i,e,w,he,h=>by
  simp only[Ah]at h;have⟨a,b,h⟩:=zbE.1 h;cases h
  have:=Cm he b;simp only[Tw.T.nodes];omega
 |.pair _ _ l r,e,w,he,h=>by
  simp only[Ah]at h;have⟨a,b,h⟩:=zbE.1 h;have⟨o,f,h⟩:=zbE.1 h;cases h
  have:=Cm he b
  have:=Cm he f;simp only[Tw.T.nodes];omega
 |.call _ _ l r,e,w,he,h=>by
  simp only[Ah]at h;have⟨a,b,h⟩:=zbE.1 h;have⟨o,f,h⟩:=zbE.1 h;cases h
  have:=Cm he b
  have:=Cm he f;simp only[Tw.T.nodes];omega
 |.binary _ _ _ l r,e,w,he,h=>by
  simp only[Ah]at h;have⟨a,b,h⟩:=zbE.1 h;have⟨o,f,h⟩:=zbE.1 h;cases h
  have:=Cm he b
  have:=Cm he f;simp only[Tw.T.nodes];omega
 |.cond _ _ c l r,e,w,he,h=>by
  simp only[Ah]at h;have⟨a,b,h⟩:=zbE.1 h;have⟨o,f,h⟩:=zbE.1 h;have⟨p,q,h⟩:=zbE.1 h;cases h
  have:=Cm he b
  have:=Cm he f
  have:=Cm he q;simp only[Tw.T.nodes];omega
 |.fn _ _ n _ o,e,w,he,h=>by
  simp only[Ah]at h;have⟨a,b,h⟩:=zbE.1 h;cases h
  have:=Cm (e:=.cons n 1 e) (λx k d=>by
   simp only[WEn.look]at d;split at d
   ·cases d;exact znL _
   ·exact he x k d) b
  simp only[Tw.T.nodes];omega
 |.Am _ _ rc n _ p o,e,w,he,h=>by
  simp only[Ah]at h;have⟨a,b,h⟩:=zbE.1 h;have⟨c,f,h⟩:=zbE.1 h;cases h;have s:=Cm (e:=if rc then .cons n 1 e else e) (λx k d=>by
   cases rc with
   |false=>exact he x k d
   |true=>
    simp only[if_true,WEn.look]at d;split at d
    ·cases d;exact znL _
    ·exact he x k d) b
  have y:=Cm (e:=.cons n a e) (λx k d=>by
   simp only[WEn.look]at d;split at d
   ·cases d;exact s.1
   ·exact he x k d) f
  simp only[Tw.T.nodes];omega
theorem zjt{d:Nat}{l:zU}{t:Tw.T}{sh:zU}(h:Kf 6100 d l=some (.Ja t sh)):t.nodes<=2000:=by
 have⟨_,body,_,_,_,o⟩:=Kr h;have⟨w,f,b⟩:=(Qo o).2.2.1;exact kB ((Cm (e:=.nil) (λx k i=>by cases i) f).2 b) b
theorem NDL.len{w:World}{hi:Nat}:∀ {t:Tw.T} {v:Value} {L:List TN},NDL w hi t v L->L.length=t.nodes
 |.name ..,_,_,⟨_,e⟩=>by subst e;rfl
 |.int ..,_,_,⟨_,e⟩=>by subst e;rfl
 |.Ak ..,_,_,⟨_,e⟩=>by subst e;rfl
 |.side ..,_,_,⟨_,e⟩=>by subst e;rfl
 |.bracket ..,_,_,⟨_,_,_,n1,e⟩=>by subst e;have:=NDL.len n1;simp[Tw.T.nodes];omega
 |.pair ..,_,_,⟨_,_,_,_,_,n1,n2,e⟩=>by subst e;have:=NDL.len n1;have:=NDL.len n2;simp[Tw.T.nodes];omega
 |.call ..,_,_,⟨_,_,_,_,_,n1,n2,e⟩=>by subst e;have:=NDL.len n1;have:=NDL.len n2;simp[Tw.T.nodes];omega
 |.binary ..,_,_,⟨_,_,_,_,_,n1,n2,e⟩=>by subst e;have:=NDL.len n1;have:=NDL.len n2;simp[Tw.T.nodes];omega
 |.cond ..,_,_,⟨_,_,_,_,_,_,_,n1,n2,n3,e⟩=>by subst e;have:=NDL.len n1;have:=NDL.len n2;have:=NDL.len n3;simp[Tw.T.nodes];omega
 |.fn ..,_,_,⟨_,_,_,n1,e⟩=>by subst e;have:=NDL.len n1;simp[Tw.T.nodes];omega
 |.Am ..,_,_,⟨_,_,_,_,_,n1,n2,e⟩=>by subst e;have:=NDL.len n1;have:=NDL.len n2;simp[Tw.T.nodes];omega
theorem Rj{w:World}{bt:Nat}{s:ByteArray}{t:Tw.T}{body:List Tw.Tok}(hT:Iu w bt s t)(hop:Rc s.data.toList t body)(hnn:t.nodes<=2000):
    Calls prog 24 #[pT bt] w λe w'=>(∃v,e=.returned v/\zht w' w.heap.size v t.binds)/\w.grownBy w' none:=by
  have⟨hi,tv,hb,hr⟩:=hT;have⟨LN,hN⟩:=NDL.Dl hr;have⟨L0,hL0⟩:=NL.Dl .nil hr;have hbd:=hN.binds;have hlen:L0.length<=300:=kB hL0.len hop.small;have hlenN:LN.length<=2000:=by rw[hN.len];exact hnn
  have hus:∀x∈Ig LN,∀A,x.bind=some A->(Im A L0).map (·.fr)=x.t.useS:=λx hx A hA=>by
    have:=Hw w hi t hL0 hN hop.sp hop.nd (List.mem_filter.1 hx).1 hA (λz=>by simp[Tw.BEn.look]);have h2:=congrArg (List.map Prod.fst) this;rw[List.map_map,List.map_map]at h2;have e1:(Prod.fst∘zr2)=λx:NB=>x.fr:=rfl;have e2:(Prod.fst∘zrt x.t.bname)=λx:Nat=>x:=rfl;rw[e1,e2,List.map_id']at h2;exact h2
  have hrepx:∀x∈Ig LN,Rep w 0 hi x.t x.v:=λx hx=>hN.rep.2 x (List.mem_filter.1 hx).1;have hcells:=λz hz=>NL.block hL0 z hz;obtain⟨T0,n0,rfl⟩:=hr.iface;refine(callsIn_wide (n:=3)).1 ?_;refine callsIn_of_wp_marks func24 rfl trivial ?_;simp only[ntmps24,List.size_toArray,zB,zD,Nat.reduceAdd,Nat.reduceSub,Array.replicate_succ,Array.replicate_zero,List.push_toArray,List.append_toArray,rD,pD];obtain⟨W0,hW0⟩:∃W0,w.alloc (.cells #[pT bt] 26)=W0:=⟨_,rfl⟩;have G0:w.grownBy W0 none:=by rw[<-hW0];exact zwA _ _ none
  have z0:W0.heap.size=w.heap.size+1:=by rw[<-hW0];simp
  have t0:W0.heap[w.heap.size]?=some (.cells #[pT bt] 26 (0,0)):=by rw[<-hW0];exact Ac w _
  obtain⟨W1,hW1⟩:∃W1,W0.alloc (.cells #[zN] 45)=W1:=⟨_,rfl⟩;have G1:W0.grownBy W1 none:=by rw[<-hW1];exact zwA _ _ none
  have z1:W1.heap.size=w.heap.size+2:=by rw[<-hW1];simp;omega
  have b1:W1.heap[w.heap.size+1]?=some (.cells #[zN] 45 (0,0)):=by
    have:=Ac W0 (.cells #[zN] 45);rw[z0]at this;rw[<-hW1];exact this
  have t1:=zbG G1 t0;have g1:=Ab G0 G1;have x1:=zbG g1 hb;have ct1:=(Hg t1).1;have cx1:W1.cell? (aD bt 1)=some (.iface T0 (pT n0)):=zcR x1;gi_wp2_with fail;refine⟨trivial,?_⟩;refine(callsIn_wide.2 (zcd W1 ⟨T0,n0,rfl⟩)).mono ?_;rintro e1 w3 ⟨rfl,rfl⟩;obtain⟨W2,hW2⟩:∃W2,W1.alloc (.cells #[.iface T0 (pT n0)] 68)=W2:=⟨_,rfl⟩;have G2:W1.grownBy W2 none:=by rw[<-hW2];exact zwA _ _ none
  have z2:W2.heap.size=w.heap.size+3:=by rw[<-hW2];simp;omega
  have hne2:W2.heap[w.heap.size+2]?=some (.cells #[.iface T0 (pT n0)] 68 (0,0)):=by
    have:=Ac W1 (.cells #[.iface T0 (pT n0)] 68);rw[z1]at this;rw[<-hW2];exact this
  have b2:=zbG G2 b1;have g2:=Ab g1 G2;have hN2:=hN.kp (Kp.Ae g2);rw[hW2,z1];gi_wp2_with fail;refine zgc (p:=12) (d1:=4) rfl (enters_of func56 kR rfl) (zng hne2 hN2) (λh k=>h.trans k) zpk (Below.refl _ _)
    (λpre X=>(∃(E:List (Tw.T×Value)) (v:Value),E.map (·.1)=pre.map (λy=>y.1.t)/\Boxed X (w.heap.size+1) 45 v/\X.ownsRow W0.heap.size 48 3 v E.length (Cn E)/\Ww X W0.heap.size E)/\Below W0.heap.size W0 X)
    (λ_ _ _=>False) ?own ?ownx ?start ?assign ?body ?done ?stop
  case own=>
    rintro s X Y row ⟨⟨E,v,h1,h2,h3,h4⟩,h5⟩ hg hr;have kc:∀(k:Nat) (c:Array Value) (t:TypeId) (m:Nat×Nat),X.heap[k]?=some (Obj.cells c t m)->Y.heap[k]?=some (Obj.cells c t m):=λk c t m h=>Iw (β:=Unit) _ k c t m () X Y row h hg hr;exact⟨⟨E,v,h1,kc _ _ _ _ h2,Fy h3 (znL _) (λg c h=>kc _ _ _ _ h),h4.kept (znL _) (λg c h=>kc _ _ _ _ h)⟩,zc3 (β:=Unit) W0 oM () X Y row h5 hg hr⟩
  case ownx=>rintro c s X Y row h;exact h.elim
  case start=>exact⟨⟨[],_,rfl,b2,⟨rfl,.inl ⟨rfl,rfl⟩⟩,⟨λe he=>(by cases he),.nil⟩⟩,Y3 (Ab G1 G2)⟩
  case assign=>
    intro l x X K hK;simp only[zsA,zsZ,zsS]at hK ⊢
    gi_wp2;exact hK
  case body=>
    rintro lr pre ⟨x,hx⟩ X hlr ⟨rl,hrl⟩ ⟨⟨E,v,hE,hv,hrow,huse⟩,hbel⟩ hlt;obtain⟨A,hA⟩:∃A,x.bind=some A:=Option.isSome_iff_exists.1 (List.mem_filter.1 hx).2;have⟨kb,o,cb,tb,hAe,hkb,hkt,hc0,hc1⟩:=zk7 hA (hrepx x hx);have up:∀ {i:Nat} {ob:Obj},w.heap[i]?=some ob->X.heap[i]?=some ob:=λ{i ob} h=>by
      have hi:=(zgE.1 h).1;exact(hbel.block i oM).trans ((G0.block i hi sM).trans h)
    have tX:=(hbel.block _ (zgE.1 t0).1).trans t0;have bX:=up hb;obtain⟨X1,hX1⟩:∃X1,X.alloc (.cells #[zN] 33)=X1:=⟨_,rfl⟩;have GX1:X.grownBy X1 none:=(by rw[<-hX1];exact zwA _ _ none);have zx1:X1.heap.size=X.heap.size+1:=(by rw[<-hX1];simp);have u1:X1.heap[X.heap.size]?=some (.cells #[zN] 33 (0,0)):=(by rw[<-hX1];exact Ac X _);have ct1:=(Hg (zbG GX1 tX)).1;have cx1:X1.cell? (aD bt 1)=some (.iface T0 (pT n0)):=zcR (zbG GX1 bX);simp only[zsA,zsZ,zsS,hA,hAe];gi_wp2_with fail;refine⟨trivial,rfl,?_⟩;refine(CallsIn.inRound lr (callsIn_wide.2 (zp3 X1 ⟨T0,n0,rfl⟩ (aD kb o)))).mono ?_;rintro e1 w4 ⟨rfl,rfl⟩;gi_wp2_with fail;obtain⟨X2,hX2⟩:∃X2,(X1.alloc (.cells #[.iface T0 (pT n0)] 68)).alloc (.cells #[.pointer (some (aD kb o))] 79)=X2:=⟨_,rfl⟩;have g12:X1.grownBy X2 none:=(by rw[<-hX2];exact Aj (Aj (Aa _) _) _);have r2:X2.heap[X1.heap.size]?=some (.cells #[.iface T0 (pT n0)] 68 (0,0)):=(by rw[<-hX2];exact(zud X1 _ _).2);have s2:X2.heap[X1.heap.size+1]?=some (.cells #[.pointer (some (aD kb o))] 79 (0,0)):=(by rw[<-hX2];exact(zud X1 _ _).1);have gx2:X.grownBy X2 none:=Ab GX1 g12;have zx2:X2.heap.size=X.heap.size+3:=(by rw[<-hX2];simp;omega);have kp2:Kp w X2:=λi c t m hi _=>(gx2.block i (zgE.1 (up hi)).1 sM).trans (up hi);have nl2:=hL0.kp kp2;have blk2:Sz X2 (aD kb o):=⟨cb,tb,kp2 _ _ _ _ hkb hkt,hkt⟩;have bu2:Boxed X2 X.heap.size 33 zN:=zbG g12 u1;have hrl2:X2.heap[lr]?=some (.loop rl):=zbG gx2 hrl;rw[zx1]at r2 s2;rw[hX2];refine znj (p:=19) (d1:=6) hrl2 rfl (enters_of func59 kR rfl) (zuw r2 s2 nl2 blk2) (λh k=>h.trans k) zpk (Below.refl _ _)
      (λipre Y=>(∃u,Boxed Y X.heap.size 33 u/\Y.ownsRow X.heap.size 3 1 u ipre.length (ipre.map λy=>vI (y.1.fr:Nat))/\True)/\Below X.heap.size X Y)
      (λ_ _ _=>False) ?iown ?iownx ?istart ?iassign ?ibody ?idone ?istop
    case iown=>
      rintro q Y Z row ⟨h1,h2⟩ hg hr;exact⟨holdsRow_own (β:=List (UIn (aD kb o) L0)) X.heap.size X.heap.size 33 3 1 (λipre=>ipre.length) (λipre=>ipre.map λy=>vI (y.1.fr:Nat)) (λ_ _=>True) q Y Z row h1 hg (λr e=>(hr r e).2),zc3 (β:=Unit) X oM () Y Z row h2 hg hr⟩
    case iownx=>rintro c q Y Z row h;exact h.elim
    case istart=>exact⟨⟨_,bu2,⟨rfl,.inl ⟨rfl,rfl⟩⟩,trivial⟩,Y3 gx2⟩
    case iassign=>
      intro l x X K hK;simp only[zsA,zsZ,zsS]at hK ⊢
      gi_wp2;exact hK
    case ibody=>
      rintro li ipre ⟨y,hy⟩ Y hli hreci ⟨⟨u,hu,hurow,_⟩,hubel⟩ hult;have hyb:=up (hcells y (List.mem_filter.1 hy).1);have hyY:=(hubel.block _ (zgE.1 hyb).1).trans hyb;have⟨y0,y1,y2,_,_,_⟩:=Ag hyY;have cu:=hu.cell;have hzu:=hu.lt;have hii:(prog.info? 3).map (λi=>(i.zero,i.size,i.bytes))=some (some (vI 0),1,8):=kR;have⟨i0,hi0,hz0,hz1,hz3⟩:=info_parts hii;obtain⟨pu,ccu,rfl⟩:=Ij hurow;have HUV:=hu;simp only[zsA,zsZ,zsS];gi_wp2_with fail;have hmx:prog.follows .mixedOrders=true:=kR
      gi_region_with_o (first
        |(refine zce _ _ _ 33 rfl X.heap.size 3 i0 (vI 0) 1 8 underlying33 hi0 hz0 hz1 hz3 rfl dZ _ _ _ rfl (World.ownsRow.alloc (w:=Y) hurow _) (aD Y.heap.size 0) 1 1 [vI y.fr] rfl rfl (zcf Y _ _) (by intro u hu;simp at hu;subst hu;rfl) (by unfold maxLen;omega) oM (by have:=hubel.size;simp;omega) ?_;intro v' w5 hown' hgrow;have hgrow':(Y.alloc (.cells #[vI y.fr] 3)).grownBy w5 (Value.slice pu ipre.length ccu).ownBlock:=⟨hgrow.os,hgrow.tape,hgrow.output,hgrow.size,hgrow.block⟩;obtain⟨g6,cap6,rfl⟩:=ownsRow_succ hown';have hap:=Boxed.appended HUV dZ hurow hubel.size (znL _) hown' hgrow';have hc1:=hap.1.cell;have hf1:=hap.1.frozen))
      all_goals exact⟨hap.2.2.2.1.from _,Sl HUV hurow hgrow' dZ dZ,⟨_,hap.2.1,by simp only[vB,List.map_cons,List.map_nil,eA,zB,zD,Nat.zero_add];exact hap.2.2.1,trivial⟩,hubel.trans hap.2.2.2.2⟩
    case idone=>
      rintro ys Y hys ⟨⟨u,hu,hurow,_⟩,hubel⟩;have hfrs:ys.map (λy=>vI (y.1.fr:Nat))=x.t.useS.map λf:Nat=>vI f:=by
        have e1:=hus x hx A hA;rw[hAe]at e1;have e2:=congrArg (List.map (λz:NB=>z.fr)) hys;rw[e1,List.map_map]at e2;have e3:=congrArg (List.map (λf:Nat=>vI f)) e2;rw[List.map_map]at e3;exact e3
      have hlen2:ys.length=x.t.useS.length:=by
        have:=congrArg List.length hfrs;simpa using this
      rw[hfrs,hlen2]at hurow;have upY:∀ {i:Nat} {ob:Obj},X.heap[i]?=some ob->Y.heap[i]?=some ob:=λ{i ob} h=>(hubel.block i (zgE.1 h).1).trans h;have hkY:=upY (up hkb);have cA0:Y.cell? (aD kb o)=some (ug x.t.bname):=(by rw[mB _ _ _ _ _ _ hkY];exact hc0);have cA1:Y.cell? (aD kb (o+1))=some (vI x.t.bat):=(by rw[mB _ _ _ _ _ _ hkY];exact hc1);have hvY:Boxed Y (w.heap.size+1) 45 v:=upY hv;have hrowY:Y.ownsRow W0.heap.size 48 3 v E.length (Cn E):=Fy hrow (znL _) (λg c h=>upY h);have hElen:E.length=pre.length:=by
        have:=congrArg List.length hE;simpa using this
      rw[hElen]at hrowY;have hpl:pre.length<2000:=aB hlt hlenN;have cu:=hu.cell;have cv:=hvY.cell;have hzu:=hu.lt;have hzv:=hvY.lt;have hzk:kb<Y.heap.size:=(zgE.1 hkY).1;have hib:(prog.info? 48).map (λi=>(i.zero,i.size,i.bytes))=some (some (.agg #[.string ⟨#[]⟩,vI 0,zN]),3,48):=kR;have⟨i0,hi0,hz0,hz1,hz3⟩:=info_parts hib;obtain⟨pu,ccu,rfl⟩:=Ij hurow;obtain⟨pv,ccv,rfl⟩:=Ij hrowY;have zY:=hubel.size;have zX:=hbel.size;have HUV:=hu;gi_wp2_with fail;have hmx:prog.follows .mixedOrders=true:=kR;refine zep lr (λW=>W.cell? (aD kb o)=some (ug x.t.bname)/\W.cell? (aD kb (o+1))=some (vI x.t.bat)/\W.cell? (aD X.heap.size 0)=some (.slice pu x.t.useS.length ccu)) hmx kR ⟨cA0,cA1,cu⟩ ?_;intro hSd;refine wpAnyH_take (i:=1) (v:=.pointer (some (aD kb o))) rfl kR kR kR Kg (Or.inl ⟨by rfl,λW ⟨hSW1,hSW2,hSW3⟩=>by go_simp⟩) hSd ?_;refine wpAnyH_take (i:=2) (v:=.pointer (some (aD kb o))) rfl kR kR kR Kg (Or.inl ⟨by rfl,λW ⟨hSW1,hSW2,hSW3⟩=>by go_simp⟩) hSd ?_;refine wpAnyH_take (i:=3) (v:=.pointer (some (aD kb o))) rfl kR kR kR Kg (Or.inl ⟨by rfl,λW ⟨hSW1,hSW2,hSW3⟩=>by go_simp⟩) hSd ?_;refine wpAnyH_take (i:=4) (v:=ug x.t.bname) rfl kR kR kR Kg (Or.inl ⟨by rfl,λW ⟨hSW1,hSW2,hSW3⟩=>by go_simp⟩) hSd ?_;refine wpAnyH_take (i:=5) (v:=.pointer (some (aD kb o))) rfl kR kR kR Kg (Or.inl ⟨by rfl,λW ⟨hSW1,hSW2,hSW3⟩=>by go_simp⟩) hSd ?_;refine wpAnyH_take (i:=6) (v:=.pointer (some (aD kb o))) rfl kR kR kR Kg (Or.inl ⟨by rfl,λW ⟨hSW1,hSW2,hSW3⟩=>by go_simp⟩) hSd ?_;refine wpAnyH_take (i:=7) (v:=.pointer (some (aD kb (o+1)))) rfl kR kR kR Kg (Or.inl ⟨by rfl,λW ⟨hSW1,hSW2,hSW3⟩=>by go_simp⟩) hSd ?_;refine wpAnyH_take (i:=8) (v:=vI x.t.bat) rfl kR kR kR Kg (Or.inl ⟨by rfl,λW ⟨hSW1,hSW2,hSW3⟩=>by go_simp⟩) hSd ?_;refine wpAnyH_take (i:=9) (v:=.slice pu x.t.useS.length ccu) rfl kR kR kR Kg (Or.inl ⟨by rfl,λW ⟨hSW1,hSW2,hSW3⟩=>by go_simp⟩) hSd ?_;refine wpAnyH_take (i:=10) (v:=.agg #[ug x.t.bname,vI x.t.bat,.slice pu x.t.useS.length ccu]) rfl kR kR kR Kg (Or.inl ⟨by rfl,λW ⟨hSW1,hSW2,hSW3⟩=>by go_simp⟩) hSd ?_;have htb:tb≠48/\tb≠45:=by
        refine⟨?_,?_⟩<;>(rintro rfl;revert hkt;decide)
      have tl:∀ {W:World},W.heap[kb]?=some (.cells cb tb (0,0))->W.heap[X.heap.size]?=some (.cells #[.slice pu x.t.useS.length ccu] 33 (0,0))->W.cell? (aD kb o)=some (ug x.t.bname)/\W.cell? (aD kb (o+1))=some (vI x.t.bat)/\W.cell? (aD X.heap.size 0)=some (.slice pu x.t.useS.length ccu):=λ{W} h1 h2=>
        ⟨by rw[mB _ _ _ _ _ _ h1];exact hc0,by rw[mB _ _ _ _ _ _ h1];exact hc1,(Hg h2).1⟩
      have TL:=λW=>@tl W;have kA:=(Below.heap_alloc Y (.cells #[ug x.t.bname,vI x.t.bat,.slice pu x.t.useS.length ccu] 48) _ hzk).trans hkY;have uA:=(Below.heap_alloc Y (.cells #[ug x.t.bname,vI x.t.bat,.slice pu x.t.useS.length ccu] 48) _ hzu).trans HUV;have vA:=(Below.heap_alloc Y (.cells #[ug x.t.bname,vI x.t.bat,.slice pu x.t.useS.length ccu] 48) _ hzv).trans hvY;have KA:=And.intro kA uA;have cvA:=(Hg vA).1;refine gE (rs:=[0,11]) kR sM ?_;refine yA rfl (λK hK=>?_) (yA rfl (λK hK=>?_) zA)
      · go_simp
        refine hK.out _ _ hSd (λhSd=>?_);refine gE (rs:=[11]) kR sM ?_;refine yA rfl (λK hK=>?_) zA;go_simp;refine hK.out _ _ (TL _ KA.1 KA.2) (λhSd=>?_);refine gE (rs:=[12]) kR sM ?_;refine yA rfl (λK hK=>?_) zA;rw[mA (by rfl)];refine Ui _ _ _ 45 rfl W0.heap.size 48 i0 (.agg #[.string ⟨#[]⟩,vI 0,zN]) 3 48 underlying45 hi0 hz0 hz1 hz3 rfl dZ (.slice pv pre.length ccv) pre.length (Cn E) rfl (World.ownsRow.alloc (w:=Y) hrowY _) (aD Y.heap.size 0) 1 1 [ug x.t.bname,vI x.t.bat,.slice pu x.t.useS.length ccu] rfl rfl (Dp Y _ _ _ _) (by intro u hu;simp at hu;rcases hu with rfl|rfl|rfl<;>rfl) (by unfold maxLen;omega) oM (by simp;omega) ?_;intro v' w5 hown' hgrow;have hgrow':(Y.alloc (.cells #[ug x.t.bname,vI x.t.bat,.slice pu x.t.useS.length ccu] 48)).grownBy w5 (Value.slice pv pre.length ccv).ownBlock:=⟨hgrow.os,hgrow.tape,hgrow.output,hgrow.size,hgrow.block⟩;obtain⟨g6,cap6,rfl⟩:=ownsRow_succ hown';have hap:=Boxed.appended hvY dZ hrowY (kB zX zY) oM hown' hgrow';have hc1':=hap.1.cell;have hf1:=hap.1.frozen;refine hK.out _ _ (TL _ (Tp hrowY hgrow' htb.1 hkY) (Tp hrowY hgrow' dZ HUV)) (λhSd=>?_);refine gE (rs:=[13]) kR sM ?_;refine yA rfl (λK hK=>?_) zA;go_simp;refine hK.out _ _ (TL _ (Ik hvY hrowY hgrow' htb.2 htb.1 hkY) (Ik hvY hrowY hgrow' dZ dZ HUV)) (λhSd=>?_);refine iE kR ⟨rfl,?_⟩ _;refine⟨Je (Y2 hubel) (hap.2.2.2.1.from _),(zgo hubel).trans (Sl hvY hrowY hgrow' dZ dZ),⟨⟨E++[(x.t,.slice pu x.t.useS.length ccu)],_,?_,hap.2.1,?_,?_⟩,?_⟩⟩
        · rw[vB,vB,hE];rfl
        · rw[Qp,eA,hElen,<-zk8];exact hap.2.2.1
        · have third:∀(g:Nat) (c:Array Value),Y.heap[g]?=some (Obj.cells c 3 (0,0))->(w5.setCell ⟨w.heap.size+1,0,none⟩ (sL g6 (pre.length+1) cap6)).heap[g]?=some (Obj.cells c 3 (0,0)):=λg c h=>Ik hvY hrowY hgrow' dZ dZ h
          refine⟨λe he=>?_,?_⟩
          · rcases zmA.1 he with he|he
            · exact Fy (Fy (huse.1 e he) (znL _) (λg c h=>upY h)) (znL _) third
            · rw[xB]at he
              subst he;exact Fy hurow zX third
          · rw[List.pairwise_append]
            refine⟨huse.2,List.pairwise_singleton _ _,λa ha b hb g hg e=>?_⟩;rw[xB]at hb;subst hb;have h1:=((huse.1 a ha).lt g hg).2;have h2:=(hurow.lt g e).1;omega
        · exact hbel.trans ((hubel.mono zX).trans hap.2.2.2.2)
      · go_simp
        refine hK.out _ _ (TL _ KA.1 KA.2) (λhSd=>?_);refine gE (rs:=[0]) kR sM ?_;refine yA rfl (λK hK=>?_) zA;go_simp;refine hK.out _ _ hSd (λhSd=>?_);refine gE (rs:=[12]) kR sM ?_;refine yA rfl (λK hK=>?_) zA;rw[mA (by rfl)];refine Ui _ _ _ 45 rfl W0.heap.size 48 i0 (.agg #[.string ⟨#[]⟩,vI 0,zN]) 3 48 underlying45 hi0 hz0 hz1 hz3 rfl dZ (.slice pv pre.length ccv) pre.length (Cn E) rfl (World.ownsRow.alloc (w:=Y) hrowY _) (aD Y.heap.size 0) 1 1 [ug x.t.bname,vI x.t.bat,.slice pu x.t.useS.length ccu] rfl rfl (Dp Y _ _ _ _) (by intro u hu;simp at hu;rcases hu with rfl|rfl|rfl<;>rfl) (by unfold maxLen;omega) oM (by simp;omega) ?_;intro v' w5 hown' hgrow;have hgrow':(Y.alloc (.cells #[ug x.t.bname,vI x.t.bat,.slice pu x.t.useS.length ccu] 48)).grownBy w5 (Value.slice pv pre.length ccv).ownBlock:=⟨hgrow.os,hgrow.tape,hgrow.output,hgrow.size,hgrow.block⟩;obtain⟨g6,cap6,rfl⟩:=ownsRow_succ hown';have hap:=Boxed.appended hvY dZ hrowY (kB zX zY) oM hown' hgrow';have hc1':=hap.1.cell;have hf1:=hap.1.frozen;refine hK.out _ _ (TL _ (Tp hrowY hgrow' htb.1 hkY) (Tp hrowY hgrow' dZ HUV)) (λhSd=>?_);refine gE (rs:=[13]) kR sM ?_;refine yA rfl (λK hK=>?_) zA;go_simp;refine hK.out _ _ (TL _ (Ik hvY hrowY hgrow' htb.2 htb.1 hkY) (Ik hvY hrowY hgrow' dZ dZ HUV)) (λhSd=>?_);refine iE kR ⟨rfl,?_⟩ _;refine⟨Je (Y2 hubel) (hap.2.2.2.1.from _),(zgo hubel).trans (Sl hvY hrowY hgrow' dZ dZ),⟨⟨E++[(x.t,.slice pu x.t.useS.length ccu)],_,?_,hap.2.1,?_,?_⟩,?_⟩⟩
        · rw[vB,vB,hE];rfl
        · rw[Qp,eA,hElen,<-zk8];exact hap.2.2.1
        · have third:∀(g:Nat) (c:Array Value),Y.heap[g]?=some (Obj.cells c 3 (0,0))->(w5.setCell ⟨w.heap.size+1,0,none⟩ (sL g6 (pre.length+1) cap6)).heap[g]?=some (Obj.cells c 3 (0,0)):=λg c h=>Ik hvY hrowY hgrow' dZ dZ h
          refine⟨λe he=>?_,?_⟩
          · rcases zmA.1 he with he|he
            · exact Fy (Fy (huse.1 e he) (znL _) (λg c h=>upY h)) (znL _) third
            · rw[xB]at he
              subst he;exact Fy hurow zX third
          · rw[List.pairwise_append]
            refine⟨huse.2,List.pairwise_singleton _ _,λa ha b hb g hg e=>?_⟩;rw[xB]at hb;subst hb;have h1:=((huse.1 a ha).lt g hg).2;have h2:=(hurow.lt g e).1;omega
        · exact hbel.trans ((hubel.mono zX).trans hap.2.2.2.2)
    case istop=>rintro c pre X hpre h;exact h.elim
  case done=>
    rintro D xs X hD hxs ⟨⟨E,v,hE,hv,hrow,huse⟩,hbel⟩ hK;obtain⟨pv,ccv,rfl⟩:=Ij hrow;have cv:=hv.cell;have hput:=grownBy_putObj' X D (.deferred none);have kc:∀(g:Nat) (e:TypeId) (c:Array Value),X.heap[g]?=some (Obj.cells c e (0,0))->(X.putObj D (.deferred none)).heap[g]?=some (Obj.cells c e (0,0)):=λg e c h=>by
      rw[World.putObj_heap_other]
      · exact h
      · rintro rfl
        rw[hK]at h;cases h
    have hEE:E.map (·.1)=t.binds:=by
      have e2:=congrArg (List.map (λz:TN=>z.t)) hxs;rw[hbd,List.map_map]at e2;exact hE.trans e2
    have FIN:zht (X.putObj D (.deferred none)) w.heap.size (.slice pv E.length ccv) t.binds/\w.grownBy (X.putObj D (.deferred none)) none:=by
      refine⟨⟨E,hEE,Fy hrow G0.size (λg c h=>kc g _ c h),huse.kept G0.size (λg c h=>kc g _ c h)⟩,?_⟩;refine⟨hput.os.trans (hbel.os.trans G0.os),hput.tape.trans (hbel.tape.trans G0.tape),hput.output.trans (hbel.output.trans G0.output),by have:=hput.size;have:=hbel.size;omega,λi hi _=>?_⟩;exact(hput.block i (by have:=hbel.size;omega) (λe=>by cases e;omega)).trans ((hbel.block i oM).trans (G0.block i hi sM))
    gi_wp2_with fail;refine⟨sM,.inl ⟨_,_,rfl,run_takeDeferred hK,?_⟩⟩;refine⟨.slice pv E.length ccv,?_,⟨_,rfl,FIN.1⟩,FIN.2⟩;simp[results,results24,go_sem]
  case stop=>intro D c pre X hD hpre h;exact h.elim
end
end
section
open Tw Go.Proofs.Tryz
open Go.RowKit
section
variable{s:ByteArray}{t:Tw.T}{W W':World}{v:Value}{L:List Tw.T}
theorem zp9(i:Ew.Hs)(k:Ew.Ho)(j:Ew.Fs){g:Nat}{sh:zU}(h:Kf 6100 g s.data.toList=some (.Ja t sh))(w:World):
  Calls prog 16 #[.string s] w λe w'=>∃bt,e=.returned (.tuple #[pT bt,vI 0,vI 0])/\Iu w' bt s t/\zG w w'/\w.heap.size<=bt:=by
 have n:s.data.toList.length=s.size:=Array.length_toList;have o:=(Kr h).1;rw[n]at o;unfold Kf at h;rw[jA oM]at h;obtain⟨v,W,r,x,l⟩:=Yt s w;have G:=bV l;have d:=bV h;have y:¬(300:Int)<s.size:=oM;go_in;go_wp2_with fail;refine(zaa i k j s oM (uh d) W).mono ?_;rintro q c ⟨A,rfl,b,m⟩;have f:=bV b;obtain⟨p,z,rfl⟩:=b.iface;have a:Hid (TK w.heap.size WtS w c):=(TK.Ae _ _ G.o).trans (m.base G.o.size);go_wp2_with fail;go_ret3;exact⟨_,rfl,⟨_,_,Ac c _,(uh f).grown (zwA _ _ none) (yD _) (znL _)⟩,Aj a.o.grown _,a.o.grown.size⟩
theorem zat:∀(E:List (Tw.T×Value)) (i:Nat) (h:i<E.length),(Cn E)[i*3]?=some (ug E[i].1.bname)/\(Cn E)[i*3+1]?=some (vI E[i].1.bpl)/\(Cn E)[i*3+2]?=some E[i].2
 |c::cs,0,_=>⟨rfl,rfl,rfl⟩
 |c::cs,i+1,h=>by
  have:=zat cs i (by simpa using h);rw[show(i+1)*3=(i*3)+3 by omega,show i*3+3+1=(i*3+1)+3 by omega,show i*3+3+2=(i*3+2)+3 by omega];exact this
theorem Yh.get(h:Yh W v L){i:Nat}{n:Tw.T}(hi:L[i]?=some n):∃g c u,v=sL g L.length c/\W.cell? (aD g (i*3))=some (ug n.bname)/\W.cell? (aD g (i*3+1))=some (vI n.bpl)/\W.cell? (aD g (i*3+2))=some u/\zbq W u n.useS:=by
 obtain⟨E,rfl,d,r⟩:=h;obtain⟨p,rfl⟩:=zlE.1 hi;have q:i<E.length:=by simpa using p
 rcases d.2 with⟨_,x⟩|⟨g,k,w,rfl,B,m,y,z,A,l⟩
 ·omega
 ·have C:(Cn E).length=E.length*3:=d.1;have b:∀j,j<E.length*3->W.cell? (aD g j)=(Cn E)[j]? :=λj o=>by
   rw[mB _ _ _ _ _ _ m,<-l,List.getElem?_take_of_lt o];simp
  obtain⟨e,f,c⟩:=zat E i q;have a:(E.map (·.1))[i]=E[i].1:=sM;refine⟨g,k,E[i].2,sM,?_,?_,?_,?_⟩
  ·rw[b _ oM,e,a]
  ·rw[b _ oM,f,a]
  ·rw[b _ oM,c]
  ·rw[a];exact r _ (List.getElem_mem _)
theorem Yh.Aq(h:Yh W v L)(a:∀(g:Nat) (c:Array Value) (e:TypeId),e=48\/e=3->zH W g c e->zH W' g c e):Yh W' v L:=by
 obtain⟨E,b,d,f⟩:=h;exact⟨E,b,Fy d (znL _) (λg c h=>a g c _ (.inl rfl) h),λe i=>Fy (f e i) (znL _) (λg c h=>a g c _ (.inr rfl) h)⟩
theorem Yh.grown(h:Yh W v L)(b:zG W W'):Yh W' v L:=h.Aq λg c e _ a=>(b.block g (zgE.1 a).1 sM).trans a
theorem zbq.get{u:Value}{l:List Nat}(h:zbq W u l):∃p c,u=.slice p l.length c/\∀(k f:Nat),l[k]?=some f->∃g,p=some (aD g 0)/\W.cell? (aD g k)=some (vI f):=by
 rcases h.2 with⟨rfl,e⟩|⟨g,b,d,rfl,q,j,m,n,o,i⟩
 ·refine⟨none,0,by rw[e],λk f a=>?_⟩;have:l=[]:=List.length_eq_zero_iff.1 e;subst this;cases a
 ·refine⟨some (aD g 0),b,rfl,λk f a=>⟨g,rfl,?_⟩⟩;have r:=(zlE.1 a).1;rw[mB _ _ _ _ _ _ j];have e:d[k]?=(l.map λf:Nat=>vI f)[k]? :=by
   rw[<-i,List.getElem?_take_of_lt oM];simp
  rw[e,sD,a];rfl
theorem Iu.grown{w w':World}{bt:Nat}(h:Iu w bt s t)(a:zG w w'):Iu w' bt s t:=h.kp (Kp.Ae a) (λ_ _ b=>zbG a b)
end
end
namespace Tw.Rf
section
open Go Go.Proofs.YtckhafpejefbbaaGreatDoor.Tw
section
variable{k r x y:Nat}{f:Nat->Nat}{D:Nat->Prop}
structure RC where
 sort:Nat
 a:Nat
 b:Nat
 fo:Option Nat
 deriving DecidableEq
def RC.link(c:RC):Option Nat:=if c.sort=118 then c.fo else none
def RC.comp(c:RC):Prop:=c.sort=62\/c.sort=42
def endS:Nat->List RC->Nat->Option Nat
 |0,_,_=>none
 |n+1,l,k=>l[k]?.bind λc=>match c.link with
  |some j=>endS n l j
  |none=>some k
def Hn:Nat->List RC->List (Nat×Nat)->Option (List RC×Bool)
 |0,_,_=>none
 |_+1,l,[]=>some (l,false)
 |n+1,l,q::todo=>(endS n l q.1).bind λx=>(endS n l q.2).bind λy=>
  if x=y then Hn n l todo else l[x]?.bind λp=>l[y]?.bind λr=>
   if p.sort=118 then Hn n (l.set x {p with fo:=some y}) todo
   else if r.sort=118 then Hn n (l.set y {r with fo:=some x}) todo
   else if p.sort≠r.sort then some (l,true)
   else Hn n (l.set x ⟨118,0,0,some y⟩) (if p.sort=62\/p.sort=42 then(p.b,r.b)::(p.a,r.a)::todo else todo)
inductive End(l:List RC):Nat->Nat->Prop
 |here {k:Nat} {c:RC} (h:l[k]?=some c) (hl:c.link=none):End l k k
 |step {k j r:Nat} {c:RC} (h:l[k]?=some c) (hl:c.link=some j) (he:End l j r):End l k r
structure Wf(l:List RC)(f:Nat->Nat):Prop where
 link:∀(k:Nat) (c:RC) (j:Nat),l[k]?=some c->c.link=some j->j<l.length/\f j<f k
 parts:∀(k:Nat) (c:RC),l[k]?=some c->c.comp->c.a<l.length/\c.b<l.length
 sort:∀(k:Nat) (c:RC),l[k]?=some c->c.sort=118\/c.sort=105\/c.sort=98\/c.sort=62\/c.sort=42
theorem End.root{l:List RC}(h:End l k r):∃c,l[r]?=some c/\c.link=none:=by
 induction h with
 |here h hl=>exact⟨_,h,hl⟩
 |step _ _ _ ih=>exact ih
theorem End.unique{l:List RC}{s:Nat}(h:End l k r)(a:End l k s):r=s:=by
 induction h with
 |here h hl=>
  cases a with
  |here=>rfl
  |step h' hl'=>rw[h]at h';cases h';rw[hl]at hl';cases hl'
 |step h hl _ ih=>
  cases a with
  |here h' hl'=>rw[h]at h';cases h';rw[hl]at hl';cases hl'
  |step h' hl' he'=>rw[h]at h';cases h';rw[hl]at hl';cases hl';exact ih he'
theorem End.lt{l:List RC}(h:End l k r):k<l.length/\r<l.length:=by
 obtain⟨c,a,_⟩:=h.root;refine⟨?_,(zlE.1 a).1⟩;cases h with
 |here h=>exact(zlE.1 h).1
 |step h=>exact(zlE.1 h).1
theorem End.self{l:List RC}(h:End l k r):End l r r:=by
 obtain⟨c,a,b⟩:=h.root;exact .here a b
theorem Qq{l:List RC}{f:Nat->Nat}(W:Wf l f):∀(n k:Nat),f k<n->k<l.length->∃r,End l k r/\∀m,n<=m->endS m l k=some r
 |0,_,h,_=>absurd h oM
 |n+1,k,h,hk=>by
  obtain⟨c,a⟩:∃c,l[k]?=some c:=⟨_,fA hk⟩;cases b:c.link with
  |none=>exact⟨k,.here a b,λm o=>by obtain⟨m,rfl⟩:∃d,m=d+1:=⟨m-1,oM⟩;simp[endS,a,b]⟩
  |some j=>
   obtain⟨i,p⟩:=W.link k c j a b;obtain⟨r,e,g⟩:=Qq W n j oM i;exact⟨r,.step a b e,λm o=>by obtain⟨m,rfl⟩:∃d,m=d+1:=⟨m-1,oM⟩;simp[endS,a,b];exact g m oM⟩
theorem Wf.end{l:List RC}(W:Wf l f)(a:k<l.length):∃r,End l k r:=by
 obtain⟨r,h,_⟩:=Qq W (f k+1) k oM a;exact⟨r,h⟩
structure RC.says(c:RC)(v:Nat->Ty)(k:Nat):Prop where
 link:∀j,c.link=some j->v k=v j
 int:c.sort=105->v k=.int
 bool:c.sort=98->v k=.bool
 fn:c.sort=62->v k=.fn (v c.a) (v c.b)
 pair:c.sort=42->v k=.pair (v c.a) (v c.b)
def Sat(l:List RC)(v:Nat->Ty):Prop:=∀(k:Nat) (c:RC),l[k]?=some c->c.says v k
theorem Sat.end{l:List RC}{v:Nat->Ty}(s:Sat l v)(h:End l k r):v k=v r:=by
 induction h with
 |here=>rfl
 |step h hl _ ih=>exact((s _ _ h).link _ hl).trans ih
def Cl(D:Nat->Prop)(l:List RC):Prop:=∀(k:Nat) (c:RC),l[k]?=some c->¬D k->(∀j,c.link=some j->¬D j)/\(c.comp->¬D c.a/\¬D c.b)
theorem Cl.end{l:List RC}(h:Cl D l)(a:End l k r):¬D k->¬D r:=by
 induction a with
 |here=>exact id
 |step hc hl _ ih=>exact λb=>ih ((h _ _ hc b).1 _ hl)
def zbh(l:List RC):Nat:=l.countP λc=>c.link.isNone
theorem M8{l:List RC}{p c:RC}(b:l[x]?=some p)(e:p.link=none)(d:c.link.isSome=true):zbh (l.set x c)+1=zbh l:=by
 induction l generalizing x with
 |nil=>simp at b
 |cons a l ih=>
  cases x with
  |zero=>
   simp at b;subst b;simp only[zbh,zsZ,List.countP_cons];rw[e];cases g:c.link with
   |none=>rw[g]at d;cases d
   |some j=>simp
  |succ x=>
   have:=ih (x:=x) (by simpa using b);simp only[zbh,zsS,List.countP_cons]at this ⊢;omega
theorem Gp{l:List RC}{p c:RC}(a:l[x]?=some p)(k:Nat):(l.set x c)[k]?=if k=x then some c else l[k]? :=by
 have b:=(zlE.1 a).1;rw[List.getElem?_set];by_cases h:x=k
 ·subst h;simp[b]
 ·rw[jA h,jA (λe=>h e.symm)]
theorem zeq{l:List RC}(W:Wf l f){p c:RC}(j:l[x]?=some p)(w:p.link=none)(m:End l y y)(A:x≠y)(v:c.link=some y)(z:c.sort=118):∃q,Wf (l.set x c) q:=by
 classical
 have i:=λk=>Gp (c:=c) j k;have B:¬End l y x:=λh=>A (h.unique m);refine⟨λk=>if End l k x then f k+f y+1 else f k,λk d n a b=>?_,λk d a e=>?_,λk d a=>?_⟩
 ·rw[i]at a;by_cases h:k=x
  ·subst h;rw[mA rfl]at a;cases a;rw[v]at b;cases b;refine⟨by rw[jB];exact m.lt.1,?_⟩;simp only[jA B,mA (End.here j w)];omega
  ·rw[jA h]at a;obtain⟨s,t⟩:=W.link k d n a b;refine⟨by rw[jB];exact s,?_⟩;by_cases g:End l n x
   ·simp only[mA g,mA (End.step a b g)];omega
   ·have:¬End l k x:=λo=>by
     cases o with
     |here=>exact h rfl
     |step h' hl' he'=>rw[a]at h';cases h';rw[b]at hl';cases hl';exact g he'
    simp only[jA g,jA this];exact t
 ·rw[i]at a;rw[jB];split at a
  ·cases a;rcases e with e|e<;>omega
  ·exact W.parts k d a e
 ·rw[i]at a;split at a
  ·cases a;exact .inl z
  ·exact W.sort k d a
theorem zju{l:List RC}(h:Cl D l){p c:RC}(j:l[x]?=some p)(i:c.link=some y)(n:c.sort=118)(m:¬D y):Cl D (l.set x c):=by
 intro k e a g;rw[Gp j]at a;split at a
 ·cases a;exact⟨λo d=>by rw[i]at d;cases d;exact m,λb=>by rcases b with b|b<;>omega⟩
 ·exact h k e a g
structure MOk(l:List RC)(todo:List (Nat×Nat))(l':List RC)(b:Bool):Prop where
 wf:∃f,Wf l' f
 len:l'.length=l.length
 E7:b=false->∀v,Sat l' v↔Sat l v/\∀q∈todo,v q.1=v q.2
 bad:b=true->∀v,Sat l v->¬ ∀q∈todo,v q.1=v q.2
 frame:∀D:Nat->Prop,Cl D l->(∀q∈todo,¬D q.1/\¬D q.2)->(∀k,D k->l'[k]?=l[k]?)/\Cl D l'
theorem MOk.step{l a l':List RC}{todo e:List (Nat×Nat)}{b:Bool}(w:a.length=l.length)(i:∀v,(Sat a v/\∀q∈e,v q.1=v q.2)↔(Sat l v/\∀q∈todo,v q.1=v q.2))
  (t:∀D:Nat->Prop,Cl D l->(∀q∈todo,¬D q.1/\¬D q.2)->(∀k,D k->a[k]?=l[k]?)/\Cl D a/\∀q∈e,¬D q.1/\¬D q.2) (h:MOk a e l' b):MOk l todo l' b where
 wf:=h.wf
 len:=h.len.trans w
 E7:=λc v=>(h.E7 c v).trans (i v)
 bad:=λc v A d=>by
  obtain⟨B,z⟩:=(i v).2 ⟨A,d⟩;exact h.bad c v B z
 frame:=λD s d=>by
  obtain⟨n,o,p⟩:=t D s d;obtain⟨j,m⟩:=h.frame D o p;exact⟨λk g=>(j k g).trans (n k g),m⟩
theorem Zo{l:List RC}{p c:RC}(b:l[x]?=some p)(v:Nat->Ty):Sat (l.set x c) v↔c.says v x/\∀(k:Nat) (d:RC),k≠x->l[k]?=some d->d.says v k:=by
 constructor
 ·intro s;refine⟨s x c (by rw[Gp b,mA rfl]),λk d a i=>s k d (by rw[Gp b,jA a];exact i)⟩
 ·rintro⟨g,h⟩ k d a;rw[Gp b]at a;split at a
  ·rename_i e;cases a;rw[e];exact g
  ·rename_i e;exact h k d e a
theorem Ks{l:List RC}{p:RC}(b:l[x]?=some p)(v:Nat->Ty):Sat l v↔p.says v x/\∀(k:Nat) (d:RC),k≠x->l[k]?=some d->d.says v k:=
 ⟨λs=>⟨s x p b,λk d _ h=>s k d h⟩,λh k d a=>by
  by_cases e:k=x
  ·subst e;rw[b]at a;cases a;exact h.1
  ·exact h.2 k d e a⟩
theorem Iy{c:RC}(a:c.sort=118)(v:Nat->Ty)(k:Nat):c.says v k↔∀j,c.link=some j->v k=v j:=
 ⟨λh=>h.link,λh=>⟨h,λe=>oM,λe=>oM,λe=>oM,λe=>oM⟩⟩
theorem Pz:∀(m:Nat) {l:List RC} {f:Nat->Nat} {todo:List (Nat×Nat)},Wf l f->(∀q∈todo,q.1<l.length/\q.2<l.length)->2*zbh l+todo.length<=m ->
  ∃n0 l' b,(∀n,n0<=n->Hn n l todo=some (l',b))/\MOk l todo l' b
 |m,l,f,[],W,_,_=>⟨1,l,false,λn hn=>by obtain⟨n,rfl⟩:∃n',n=n'+1:=⟨n-1,oM⟩;rfl,⟨⟨f,W⟩,rfl,λ_ v=>sM,λh=>(by cases h),λD hD _=>⟨λ_ _=>rfl,hD⟩⟩⟩
 |0,l,f,q::todo,_,_,hm=>absurd hm sM
 |m+1,l,f,q::todo,W,hr,hm=>by
  obtain⟨hq1,hq2⟩:=hr q sM;have hr':∀q∈todo,q.1<l.length/\q.2<l.length:=λq h=>hr q (by simp[h]);obtain⟨x,ex,gx⟩:=Qq W (f q.1+1) q.1 oM hq1;obtain⟨y,ey,gy⟩:=Qq W (f q.2+1) q.2 oM hq2;obtain⟨p,hp,hpl⟩:=ex.root;obtain⟨r,hr0,hrl⟩:=ey.root;have mem:∀(P:Nat×Nat->Prop),(∀u∈q::todo,P u)↔P q/\∀u∈todo,P u:=λP=>sM;simp only[zB]at hm;by_cases hxy:x=y
  ·subst hxy;obtain⟨n0,l',b,h1,h2⟩:=Pz m W hr' oM;refine⟨n0+f q.1+f q.2+3,l',b,λn hn=>?_,h2.step rfl (λv=>?_) (λD hD hq=>⟨λ_ _=>rfl,hD,((mem _).1 hq).2⟩)⟩
   ·obtain⟨n,rfl⟩:∃n',n=n'+1:=⟨n-1,oM⟩;simp only[Hn,gx n oM,gy n oM,zbS,if_true];exact h1 n oM
   ·rw[mem];exact⟨λh=>⟨h.1,(h.1.end ex).trans (h.1.end ey).symm,h.2⟩,λh=>⟨h.1,h.2.2⟩⟩
  ·have hyx:¬y=x:=λe=>hxy e.symm;by_cases hps:p.sort=118
   ·have hlk:({p with fo:=some y}:RC).link=some y:=(by simp[RC.link,hps]);obtain⟨f',W'⟩:=zeq W hp hpl ey.self hxy hlk hps;have hrt:=M8 (c:={p with fo:=some y}) hp hpl (by rw[hlk];rfl);obtain⟨n0,l',b,h1,h2⟩:=Pz m (todo:=todo) W' (by rw[jB];exact hr') oM;refine⟨n0+f q.1+f q.2+3,l',b,λn hn=>?_,h2.step (by rw[jB]) (λv=>?_) (λD hD hq=>?_)⟩
    ·obtain⟨n,rfl⟩:∃n',n=n'+1:=⟨n-1,oM⟩;simp only[Hn,gx n oM,gy n oM,zbS,jA hxy,hp,hr0,mA hps];exact h1 n oM
    ·rw[mem,Zo hp,Ks hp,Iy hps,Iy (c:={p with fo:=some y}) hps];rw[hpl,hlk];constructor
     ·rintro⟨⟨h1,h2⟩,h3⟩;have s:Sat (l.set x {p with fo:=some y}) v:=(by rw[Zo hp,Iy (c:={p with fo:=some y}) hps,hlk];exact⟨h1,h2⟩);have s0:Sat l v:=(by rw[Ks hp,Iy hps,hpl];exact⟨λ_ h=>(by cases h),h2⟩);exact⟨⟨λ_ h=>(by cases h),h2⟩,(s0.end ex).trans ((h1 y rfl).trans (s0.end ey).symm),h3⟩
     ·rintro⟨⟨h1,h2⟩,h3,h4⟩;have s0:Sat l v:=(by rw[Ks hp,Iy hps,hpl];exact⟨h1,h2⟩);exact⟨⟨λj hj=>by cases hj;exact((s0.end ex).symm.trans h3).trans (s0.end ey),h2⟩,h4⟩
    ·obtain⟨hD1,hD2⟩:=(mem _).1 hq;refine⟨λk hk=>?_,zju hD hp hlk hps (hD.end ey hD1.2),hD2⟩;rw[Gp hp,jA (λe:k=x=>hD.end ex hD1.1 (e ▸ hk))]
   ·by_cases hrs:r.sort=118
    ·have hlk:({r with fo:=some x}:RC).link=some x:=(by simp[RC.link,hrs]);obtain⟨f',W'⟩:=zeq W hr0 hrl ex.self hyx hlk hrs;have hrt:=M8 (c:={r with fo:=some x}) hr0 hrl (by rw[hlk];rfl);obtain⟨n0,l',b,h1,h2⟩:=Pz m (todo:=todo) W' (by rw[jB];exact hr') oM;refine⟨n0+f q.1+f q.2+3,l',b,λn hn=>?_,h2.step (by rw[jB]) (λv=>?_) (λD hD hq=>?_)⟩
     ·obtain⟨n,rfl⟩:∃n',n=n'+1:=⟨n-1,oM⟩;simp only[Hn,gx n oM,gy n oM,zbS,jA hxy,hp,hr0,jA hps,mA hrs];exact h1 n oM
     ·rw[mem,Zo hr0,Ks hr0,Iy hrs,Iy (c:={r with fo:=some x}) hrs];rw[hrl,hlk];constructor
      ·rintro⟨⟨h1,h2⟩,h3⟩;have s0:Sat l v:=(by rw[Ks hr0,Iy hrs,hrl];exact⟨λ_ h=>(by cases h),h2⟩);exact⟨⟨λ_ h=>(by cases h),h2⟩,(s0.end ex).trans ((h1 x rfl).symm.trans (s0.end ey).symm),h3⟩
      ·rintro⟨⟨h1,h2⟩,h3,h4⟩;have s0:Sat l v:=(by rw[Ks hr0,Iy hrs,hrl];exact⟨h1,h2⟩);exact⟨⟨λj hj=>by cases hj;exact((s0.end ey).symm.trans h3.symm).trans (s0.end ex),h2⟩,h4⟩
     ·obtain⟨hD1,hD2⟩:=(mem _).1 hq;refine⟨λk hk=>?_,zju hD hr0 hlk hrs (hD.end ex hD1.1),hD2⟩;rw[Gp hr0,jA (λe:k=y=>hD.end ey hD1.2 (e ▸ hk))]
    ·by_cases hsr:p.sort=r.sort
     ·have hlk:(⟨118,0,0,some y⟩:RC).link=some y:=rfl;obtain⟨f',W'⟩:=zeq W hp hpl ey.self hxy hlk rfl;have hrt:=M8 (c:=⟨118,0,0,some y⟩) hp hpl rfl;have base:∀v,p.says v x->r.says v y->v x=v y->p.comp->v p.a=v r.a/\v p.b=v r.b:=λv h1 h2 h3 h4=>by
       rcases h4 with h4|h4
       ·rw[h1.fn h4,h2.fn oM]at h3;injection h3 with e1 e2;exact⟨e1,e2⟩
       ·rw[h1.pair h4,h2.pair oM]at h3;injection h3 with e1 e2;exact⟨e1,e2⟩
      have back:∀v,r.says v y->v x=v y->(p.comp->v p.a=v r.a/\v p.b=v r.b)->p.says v x:=λv h2 h3 h4=>by
       refine⟨λj hj=>(by rw[hpl]at hj;cases hj),λh=>h3.trans (h2.int oM),λh=>h3.trans (h2.bool oM),λh=>?_,λh=>?_⟩
       ·obtain⟨e1,e2⟩:=h4 (.inl h);rw[h3,h2.fn oM,e1,e2]
       ·obtain⟨e1,e2⟩:=h4 (.inr h);rw[h3,h2.pair oM,e1,e2]
      obtain⟨td,htd⟩:∃td,(if p.sort=62\/p.sort=42 then(p.b,r.b)::(p.a,r.a)::todo else todo)=td:=⟨_,rfl⟩;have htl:td.length<=todo.length+2:=(by rw[<-htd];split<;>simp);have htm:∀(P:Nat×Nat->Prop),(∀u∈td,P u)↔((p.comp->P (p.b,r.b)/\P (p.a,r.a))/\∀u∈todo,P u):=λP=>by
       rw[<-htd];by_cases h:p.sort=62\/p.sort=42
       ·rw[mA h];simp only[zmC,forall_eq_or_imp];exact⟨λk=>⟨λ_=>⟨k.1,k.2.1⟩,k.2.2⟩,λk=>⟨(k.1 h).1,(k.1 h).2,k.2⟩⟩
       ·rw[jA h];exact⟨λk=>⟨λh'=>absurd h' h,k⟩,λk=>k.2⟩
      have hrc:p.comp->r.comp:=λh=>h.elim (λh=>.inl oM) (λh=>.inr oM);obtain⟨n0,l',b,h1,h2⟩:=Pz m (todo:=td) W' (by
       rw[jB,htm];exact⟨λh=>⟨⟨(W.parts x p hp h).2,(W.parts y r hr0 (hrc h)).2⟩,(W.parts x p hp h).1,(W.parts y r hr0 (hrc h)).1⟩,hr'⟩) oM
      refine⟨n0+f q.1+f q.2+3,l',b,λn hn=>?_,h2.step (by rw[jB]) (λv=>?_) (λD hD hq=>?_)⟩
      ·obtain⟨n,rfl⟩:∃n',n=n'+1:=⟨n-1,oM⟩;simp only[Hn,gx n oM,gy n oM,zbS,jA hxy,hp,hr0,jA hps,jA hrs];rw[jA (λh=>h hsr),htd];exact h1 n oM
      ·rw[mem,htm,Zo hp,Iy rfl,hlk];constructor
       ·rintro⟨⟨h1,h2⟩,h3,h4⟩;have ry:r.says v y:=h2 y r hyx hr0;have e:=h1 y rfl;have s0:Sat l v:=(by rw[Ks hp];exact⟨back v ry e (λh=>⟨(h3 h).2,(h3 h).1⟩),h2⟩);exact⟨s0,(s0.end ex).trans (e.trans (s0.end ey).symm),h4⟩
       ·rintro⟨s0,h3,h4⟩;have e:v x=v y:=((s0.end ex).symm.trans h3).trans (s0.end ey);refine⟨⟨λj hj=>by cases hj;exact e,λk d _ hd=>s0 k d hd⟩,λh=>?_,h4⟩;obtain⟨e1,e2⟩:=base v (s0 x p hp) (s0 y r hr0) e h;exact⟨e2,e1⟩
      ·obtain⟨hD1,hD2⟩:=(mem _).1 hq;have dx:=hD.end ex hD1.1;have dy:=hD.end ey hD1.2;refine⟨λk hk=>?_,zju hD hp hlk rfl dy,?_⟩
       ·rw[Gp hp,jA (λe:k=x=>dx (e ▸ hk))]
       ·rw[htm];exact⟨λh=>by
         have a:=(hD x p hp dx).2 h;have b:=(hD y r hr0 dy).2 (hrc h);exact⟨⟨a.2,b.2⟩,a.1,b.1⟩,hD2⟩
     ·refine⟨f q.1+f q.2+3,l,true,λn hn=>?_,⟨⟨f,W⟩,rfl,λh=>(by cases h),λ_ v s hq=>?_,λD hD _=>⟨λ_ _=>rfl,hD⟩⟩⟩
      ·obtain⟨n,rfl⟩:∃n',n=n'+1:=⟨n-1,oM⟩;simp only[Hn,gx n oM,gy n oM,zbS,jA hxy,hp,hr0,jA hps,jA hrs];rw[mA hsr]
      ·have e:v x=v y:=((s.end ex).symm.trans (hq q sM)).trans (s.end ey);have h1:=s x p hp;have h2:=s y r hr0;rcases W.sort x p hp with h|h|h|h|h<;>rcases W.sort y r hr0 with g|g|g|g|g<;>first
        |exact hps h
        |exact hrs g
        |exact hsr (h.trans g.symm)
        |(first|rw[h1.int h]at e|rw[h1.bool h]at e|rw[h1.fn h]at e|rw[h1.pair h]at e);(first|rw[h2.int g]at e|rw[h2.bool g]at e|rw[h2.fn g]at e|rw[h2.pair g]at e);cases e
end
section
variable{l:List RC}{k x:Nat}{a:Ty}{mk:List Bool}
inductive Fin(l:List RC):Nat->Ty->Prop
 |var {k p:Nat} {c:RC} (he:End l k p) (hx:l[p]?=some c) (hs:c.sort=118):Fin l k (.var p)
 |int {k p:Nat} {c:RC} (he:End l k p) (hx:l[p]?=some c) (hs:c.sort=105):Fin l k .int
 |bool {k p:Nat} {c:RC} (he:End l k p) (hx:l[p]?=some c) (hs:c.sort=98):Fin l k .bool
 |fn {k p:Nat} {c:RC} {a b:Ty} (he:End l k p) (hx:l[p]?=some c) (hs:c.sort=62) (ha:Fin l c.a a) (hb:Fin l c.b b):Fin l k (.fn a b)
 |pair {k p:Nat} {c:RC} {a b:Ty} (he:End l k p) (hx:l[p]?=some c) (hs:c.sort=42) (ha:Fin l c.a a) (hb:Fin l c.b b):Fin l k (.pair a b)
theorem Fin.val{v:Nat->Ty}(s:Sat l v)(h:Fin l k a):v k=a.sub v:=by
 induction h with
 |var he=>exact s.end he
 |int he hx hs=>rw[s.end he,(s _ _ hx).int hs];rfl
 |bool he hx hs=>rw[s.end he,(s _ _ hx).bool hs];rfl
 |fn he hx hs _ _ ih1 ih2=>rw[s.end he,(s _ _ hx).fn hs,ih1,ih2];rfl
 |pair he hx hs _ _ ih1 ih2=>rw[s.end he,(s _ _ hx).pair hs,ih1,ih2];rfl
theorem Fin.unique{b:Ty}(h:Fin l k a)(g:Fin l k b):a=b:=by
 induction h generalizing b with
 |var he hx hs=>cases g with
  |var he'=>rw[he.unique he']
  |int he' hx' hs'|bool he' hx' hs'|fn he' hx' hs'|pair he' hx' hs'=>rw[he.unique he']at hx;rw[hx]at hx';cases hx';omega
 |int he hx hs=>cases g with
  |int he'=>rfl
  |var he' hx' hs'|bool he' hx' hs'|fn he' hx' hs'|pair he' hx' hs'=>rw[he.unique he']at hx;rw[hx]at hx';cases hx';omega
 |bool he hx hs=>cases g with
  |bool he'=>rfl
  |var he' hx' hs'|int he' hx' hs'|fn he' hx' hs'|pair he' hx' hs'=>rw[he.unique he']at hx;rw[hx]at hx';cases hx';omega
 |fn he hx hs _ _ ih1 ih2=>cases g with
  |fn he' hx' hs' ha hb=>rw[he.unique he']at hx;rw[hx]at hx';cases hx';rw[ih1 ha,ih2 hb]
  |var he' hx' hs'|int he' hx' hs'|bool he' hx' hs'|pair he' hx' hs'=>rw[he.unique he']at hx;rw[hx]at hx';cases hx';omega
 |pair he hx hs _ _ ih1 ih2=>cases g with
  |pair he' hx' hs' ha hb=>rw[he.unique he']at hx;rw[hx]at hx';cases hx';rw[ih1 ha,ih2 hb]
  |var he' hx' hs'|int he' hx' hs'|bool he' hx' hs'|fn he' hx' hs'=>rw[he.unique he']at hx;rw[hx]at hx';cases hx';omega
theorem Sat.fin {l:List RC} {f:Nat->Nat} (W:Wf l f) {v:Nat->Ty} (s:Sat l v):∀(m k:Nat),(v k).size<=m->k<l.length->∃a,Fin l k a
  | 0, k, h, _ => by have:0<(v k).size:=by cases v k <;> simp [Ty.size]
                     omega
  | m+1,k,h,hk=>by
    obtain ⟨p,he⟩:=W.end hk
    obtain ⟨c,hc,hl⟩:=he.root
    have ev:=s.end he
    rcases W.sort p c hc with hs | hs | hs | hs | hs
    · exact ⟨_,.var he hc hs⟩
    · exact ⟨_,.int he hc hs⟩
    · exact ⟨_,.bool he hc hs⟩
    · have e:=(s p c hc).fn hs
      rw [ev,e] at h
      simp only [Ty.size] at h
      obtain ⟨a,ha⟩:=Sat.fin W s m c.a (by omega) (W.parts p c hc (.inl hs)).1
      obtain ⟨b,hb⟩:=Sat.fin W s m c.b (by omega) (W.parts p c hc (.inl hs)).2
      exact ⟨_,.fn he hc hs ha hb⟩
    · have e:=(s p c hc).pair hs
      rw [ev,e] at h
      simp only [Ty.size] at h
      obtain ⟨a,ha⟩:=Sat.fin W s m c.a (by omega) (W.parts p c hc (.inr hs)).1
      obtain ⟨b,hb⟩:=Sat.fin W s m c.b (by omega) (W.parts p c hc (.inr hs)).2
      exact ⟨_,.pair he hc hs ha hb⟩
theorem zla{f:Nat->Nat}(W:Wf l f)(F:∀k,k<l.length->∃a,Fin l k a)(s:Nat->Ty):∃v,Sat l v/\∀k a,Fin l k a->v k=a.sub s:=by
 classical
 let v:Nat->Ty:=λk=>if h:∃a,Fin l k a then(Classical.choose h).sub s else .int;have e:∀k a,Fin l k a->v k=a.sub s:=λk a h=>by
  have q:∃a,Fin l k a:=⟨a,h⟩;simp only[v,dif_pos q];rw[(Classical.choose_spec q).unique h]
 refine⟨v,λk c b=>?_,e⟩;have B:=(zlE.1 b).1;cases g:c.link with
 |some m=>
  obtain⟨z,_⟩:=W.link k c m b g;have A:c.sort=118:=by
   unfold RC.link at g
   grind
  obtain⟨n,t⟩:=F m z;have same:Fin l k n:=by
   cases t with
   |var d hx hs=>exact .var (.step b g d) hx hs
   |int d hx hs=>exact .int (.step b g d) hx hs
   |bool d hx hs=>exact .bool (.step b g d) hx hs
   |fn d hx hs i j=>exact .fn (.step b g d) hx hs i j
   |pair d hx hs i j=>exact .pair (.step b g d) hx hs i j
  exact⟨λC r=>by rw[g]at r;cases r;rw[e k n same,e m n t],λh=>oM,λh=>oM,λh=>oM,λh=>oM⟩
 |none=>
  have d:End l k k:=.here b g;refine⟨λm h=>(by rw[g]at h;cases h),λh=>e k _ (.int d b h),λh=>e k _ (.bool d b h),λh=>?_,λh=>?_⟩
  ·obtain⟨o,p⟩:=W.parts k c b (.inl h);obtain⟨w,i⟩:=F _ o;obtain⟨y,j⟩:=F _ p;rw[e k _ (.fn d b h i j),e _ _ i,e _ _ j];rfl
  ·obtain⟨o,p⟩:=W.parts k c b (.inr h);obtain⟨w,i⟩:=F _ o;obtain⟨y,j⟩:=F _ p;rw[e k _ (.pair d b h i j),e _ _ i,e _ _ j];rfl
def freeS:Nat->List RC->List Nat->List Bool->Option (List Bool)
 |0,_,_,_=>none
 |_+1,_,[],mk=>some mk
 |n+1,l,k::todo,mk=>(endS n l k).bind λx=>mk[x]?.bind λm=>
  if m then freeS n l todo mk else l[x]?.bind λc=>freeS n l (if c.sort=62\/c.sort=42 then c.b::c.a::todo else todo) (mk.set x true)
def Oc(mk:List Bool):Nat:=mk.countP (!·)
theorem V8(h:mk[x]?=some false):Oc (mk.set x true)+1=Oc mk:=by
 induction mk generalizing x with
 |nil=>simp at h
 |cons a mk ih=>
  cases x with
  |zero=>simp at h;subst h;simp[Oc]
  |succ x=>
   have:=ih (x:=x) (by simpa using h);simp only[Oc,zsS,List.countP_cons]at this ⊢;omega
structure KOk(l:List RC)(todo:List Nat)(mk mk':List Bool):Prop where
 len:mk'.length=mk.length
 mono:∀p:Nat,mk[p]?=some true->mk'[p]?=some true
 here:∀k∈todo,∀r,End l k r->mk'[r]?=some true
 only:∀D:Nat->Prop,Cl D l->(∀k∈todo,¬D k)->(∀p:Nat,mk[p]?=some true->¬D p)->∀p:Nat,mk'[p]?=some true->¬D p
def McT(l:List RC)(todo:List Nat)(mk:List Bool):Prop:=∀(p:Nat) (c:RC),mk[p]?=some true->l[p]?=some c->c.comp->∀k,k=c.a\/k=c.b->∀r,End l k r->mk[r]?=some true\/∃q∈todo,End l q r
theorem zqa{m b:Bool}(h:mk[x]?=some m)(k:Nat):(mk.set x b)[k]?=if k=x then some b else mk[k]? :=by
 grind
theorem Xr {l:List RC} {f:Nat->Nat} (W:Wf l f):∀(m:Nat) {todo:List Nat} {mk:List Bool},mk.length=l.length->(∀k∈todo,k<l.length)->2 * Oc mk+todo.length<=m->McT l todo mk ->
    ∃n0 mk',(∀n,n0<=n->freeS n l todo mk=some mk')/\KOk l todo mk mk'/\McT l [] mk'
  | m,[],mk,_,_,_,hc=>⟨1,mk,fun n hn=>by obtain ⟨n,rfl⟩:∃n',n=n'+1:=⟨n-1,by omega⟩; rfl,⟨rfl,fun _ h=>h,fun k h=>(by cases h),fun D _ _ h=>h⟩,hc⟩
  | 0,k::todo,mk,_,_,hm,_=>absurd hm (by simp)
  | m+1,k::todo,mk,hlen,hr,hm,hc=>by
    obtain ⟨x,ex,gx⟩:=Qq W (f k+1) k (by omega) (hr k (by simp))
    have hr':∀k∈todo,k<l.length:=fun q h=>hr q (by simp [h])
    obtain ⟨c,hcx,hcl⟩:=ex.root
    simp only [List.length_cons] at hm
    obtain ⟨b,hb⟩:∃b,mk[x]? = some b:=⟨_,List.getElem?_eq_getElem (by rw [hlen]; exact ex.lt.2)⟩
    cases b with
    | true =>
      obtain ⟨n0,mk',h1,h2,h3⟩:=Xr W m (todo:=todo) hlen hr' (by omega) (fun p c hp hcp hcc k' hk' r he=>by
        rcases hc p c hp hcp hcc k' hk' r he with h | ⟨q,hq,he'⟩
        · exact .inl h
        · rcases zmC.1 hq with rfl | hq
          · left; rw [he'.unique ex]; exact hb
          · exact .inr ⟨q,hq,he'⟩)
      refine ⟨n0+f k+2,mk',fun n hn => ?_,⟨h2.len,h2.mono,fun q hq r he => ?_,fun D hD hq hp=>h2.only D hD (fun q h=>hq q (by simp [h])) hp⟩,h3⟩
      · obtain ⟨n,rfl⟩:∃n',n=n'+1:=⟨n-1,by omega⟩
        simp only [freeS,gx n (by omega),hb,zbS,if_true]
        exact h1 n (by omega)
      · rcases zmC.1 hq with rfl | hq
        · rw [he.unique ex]; exact h2.mono _ hb
        · exact h2.here q hq r he
    | false =>
      have hg:=fun q=>zqa (b:=true) hb q
      have hu:=V8 hb
      obtain ⟨td,htd⟩:∃td,(if c.sort=62\/c.sort=42 then c.b::c.a::todo else todo)=td:=⟨_,rfl⟩
      have htl:td.length<=todo.length+2:=by rw [<-htd]; split <;> simp
      have htm:∀(P:Nat->Prop),(∀u∈td,P u)↔((c.comp->P c.b/\P c.a)/\∀u∈todo,P u):=fun P=>by
        rw [<-htd]
        by_cases h:c.sort=62\/c.sort=42
        · rw [if_pos h]; simp only [zmC,forall_eq_or_imp]; exact ⟨fun k=>⟨fun _=>⟨k.1,k.2.1⟩,k.2.2⟩,fun k=>⟨(k.1 h).1,(k.1 h).2,k.2⟩⟩
        · rw [if_neg h]; exact ⟨fun k=>⟨fun h'=>absurd h' h,k⟩,fun k=>k.2⟩
      have sub:∀u∈todo,u∈td:=((htm (· ∈ td)).1 (fun _ h=>h)).2
      have prt:c.comp->c.b∈td/\c.a∈td:=((htm (· ∈ td)).1 (fun _ h=>h)).1
      obtain ⟨n0,mk',h1,h2,h3⟩:=Xr W m (todo:=td) (mk:=mk.set x true) (by rw [List.length_set]; exact hlen) ((htm _).2 ⟨fun h=>⟨(W.parts x c hcx h).2,(W.parts x c hcx h).1⟩,hr'⟩) (by omega) (fun p d hp hd hdc k' hk' r he=>by
        rw [hg] at hp ⊢
        by_cases hrx:r=x
        · rw [if_pos hrx]; exact .inl rfl
        · rw [if_neg hrx]
          by_cases hpx:p=x
          · subst hpx
            rw [hcx] at hd
            cases hd
            rcases hk' with rfl | rfl
            · exact .inr ⟨_,(prt hdc).2,he⟩
            · exact .inr ⟨_,(prt hdc).1,he⟩
          · rw [if_neg hpx] at hp
            rcases hc p d hp hd hdc k' hk' r he with h | ⟨q,hq,he'⟩
            · exact .inl h
            · rcases zmC.1 hq with rfl | hq
              · exact absurd (he'.unique ex) hrx
              · exact .inr ⟨q,sub q hq,he'⟩)
      have hx':mk'[x]? = some true:=h2.mono x (by rw [hg,if_pos rfl])
      refine ⟨n0 + f k + 2, mk', fun n hn => ?_, ⟨by rw [h2.len, List.length_set], fun p hp => h2.mono p (by rw [hg]; split; · rfl
                                                                                                             · exact hp),fun q hq r he => ?_,fun D hD hq hp=>h2.only D hD ?_ ?_⟩,h3⟩
      · obtain ⟨n,rfl⟩:∃n',n=n'+1:=⟨n-1,by omega⟩
        simp only [freeS,gx n (by omega),hb,zbS,if_false,hcx,htd,Bool.false_eq_true]
        exact h1 n (by omega)
      · rcases zmC.1 hq with rfl | hq
        · rw [he.unique ex]; exact hx'
        · exact h2.here q (sub q hq) r he
      · have dx:=hD.end ex (hq k (by simp))
        rw [htm]
        exact ⟨fun h=>⟨((hD x c hcx dx).2 h).2,((hD x c hcx dx).2 h).1⟩,fun q h=>hq q (by simp [h])⟩
      · intro p h
        rw [hg] at h
        split at h
        · rename_i e; rw [e]; exact hD.end ex (hq k (by simp))
        · exact hp p h
def Q8(n:Nat)(l:List RC):List Nat->List Bool->Option (List Bool)
 |[],mk=>some mk
 |k::ks,mk=>(freeS n l [k] mk).bind λmk=>Q8 n l ks mk
theorem U9{l:List RC}{f:Nat->Nat}(W:Wf l f):∀ {ks:List Nat} {mk:List Bool},mk.length=l.length->(∀k∈ks,k<l.length)->McT l [] mk ->
  ∃E j,(∀n,E<=n->Q8 n l ks mk=some j)/\KOk l ks mk j/\McT l [] j
 |[],mk,_,_,hc=>⟨0,mk,λ_ _=>rfl,⟨rfl,λ_ h=>h,λk h=>(by cases h),λD _ _ h=>h⟩,hc⟩
 |k::ks,mk,hlen,hr,hc=>by
  obtain⟨F,B,t,d,o⟩:=Xr W _ (todo:=[k]) hlen (λq h=>hr q (by simp at h;simp[h])) (znL _) (λp c i y w A z r g=>by
   rcases hc p c i y w A z r g with h|⟨q,b,_⟩
   ·exact .inl h
   ·cases b)
  obtain⟨G,C,v,e,s⟩:=U9 W (ks:=ks) (mk:=B) (d.len.trans hlen) (λq h=>hr q (by simp[h])) o;refine⟨F+G,C,λn H=>?_,⟨e.len.trans d.len,λp h=>e.mono p (d.mono p h),λq b r g=>?_,λD m b i=>e.only D m (λq h=>b q (by simp[h])) (d.only D m (λq h=>b q (by simp at h;simp[h])) i)⟩,s⟩
  ·simp only[Q8,t n oM,zbS];exact v n oM
  ·rcases zmC.1 b with rfl|b
   ·exact e.mono r (d.here q sM r g)
   ·exact e.here q b r g
end
section
variable{cp cp':List (Option Nat)}{x c k r:Nat}{l0 l:List RC}{mk:List Bool}
def Ta(mk:List Bool)(k:Nat):Bool:=mk[k]?.getD false
def Jr:Nat->List Bool->Nat->List RC->List (Option Nat)->Option (Nat×List RC×List (Option Nat))
 |0,_,_,_,_=>none
 |n+1,mk,k,l,cp=>(endS n l k).bind λk=>if Ta mk k then some (k,l,cp)else cp[k]?.bind λo=>match o with
  |some c=>some (c,l,cp)
  |none=>l[k]?.bind λt=>
   if t.sort=118 then some (l.length,l++[⟨118,0,0,none⟩],cp.set k (some l.length))
   else if t.sort=62\/t.sort=42 then
    (Jr n mk t.a (l++[(⟨118,0,0,none⟩:RC)]) (cp.set k (some l.length))).bind λr=>(Jr n mk t.b r.2.1 r.2.2).bind λs=>some (l.length,s.2.1.set l.length ⟨t.sort,r.1,s.1,none⟩,s.2.2)
   else some (l.length,(l++[(⟨118,0,0,none⟩:RC)]).set l.length ⟨t.sort,t.a,t.b,none⟩,cp.set k (some l.length))
def Od(cp:List (Option Nat)):Nat:=cp.countP (·.isNone)
theorem V9(h:cp[x]?=some none):Od (cp.set x (some c))+1=Od cp:=by
 induction cp generalizing x with
 |nil=>simp at h
 |cons a cp ih=>
  cases x with
  |zero=>simp at h;subst h;simp[Od]
  |succ x=>
   have:=ih (x:=x) (by simpa using h);simp only[Od,zsS,List.countP_cons]at this ⊢;omega
theorem zqb{m b:Option Nat}(h:cp[x]?=some m)(k:Nat):(cp.set x b)[k]?=if k=x then some b else cp[k]? :=by
 have d:=(zlE.1 h).1;rw[List.getElem?_set];by_cases e:x=k
 ·subst e;simp[d]
 ·rw[jA e,jA (λa=>e a.symm)]
def Img(l0:List RC)(mk:List Bool)(cp:List (Option Nat))(k k':Nat):Prop:=∃r,End l0 k r/\((Ta mk r=true/\k'=r)\/(Ta mk r=false/\cp[r]?=some (some k')))
structure zhw(l0:List RC)(mk:List Bool)(l:List RC)(cp:List (Option Nat))(r c:Nat)(t d:RC):Prop where
 old:l0[r]?=some t
 new:l[c]?=some d
 sort:d.sort=t.sort
 fo:d.fo=none
 link:t.link=none
 free:Ta mk r=false
 parts:t.comp->Img l0 mk cp t.a d.a/\Img l0 mk cp t.b d.b
structure zv5(l0:List RC)(mk:List Bool)(l:List RC)(cp:List (Option Nat))(k k':Nat)(l':List RC)(cp':List (Option Nat)):Prop where
 low:l.length<=l'.length
 Aq:∀i:Nat,i<l.length->l'[i]?=l[i]?
 zvn:cp'.length=cp.length
 ext:∀(r c:Nat),cp[r]?=some (some c)->cp'[r]?=some (some c)
 img:Img l0 mk cp' k k'
 new:∀(r c:Nat),cp'[r]?=some (some c)->cp[r]?=some (some c)\/(l.length<=c/\c<l'.length/\∃t d,zhw l0 mk l' cp' r c t d)
 all:∀i:Nat,l.length<=i->i<l'.length->∃r:Nat,cp'[r]?=some (some i)
 few:Od cp'<=Od cp
 inj:∀(r1 r2 c:Nat),l.length<=c->cp'[r1]?=some (some c)->cp'[r2]?=some (some c)->r1=r2
theorem Img.mono(h:∀(r c:Nat),cp[r]?=some (some c)->cp'[r]?=some (some c)){k':Nat}(i:Img l0 mk cp k k'):Img l0 mk cp' k k':=by
 obtain⟨r,b,a|a⟩:=i
 ·exact⟨r,b,.inl a⟩
 ·exact⟨r,b,.inr ⟨a.1,h _ _ a.2⟩⟩
theorem zhw.mono{l':List RC}(h:∀(r c:Nat),cp[r]?=some (some c)->cp'[r]?=some (some c)){t d:RC}(b:l'[c]?=l[c]?)(i:zhw l0 mk l cp r c t d):zhw l0 mk l' cp' r c t d:=
 {i with new:=b.trans i.new,parts:=λa=>⟨(i.parts a).1.mono h,(i.parts a).2.mono h⟩}
theorem zgp(d:∀i:Nat,i<l0.length->l[i]?=l0[i]?){n:Nat}(h:endS n l0 k=some r):endS n l k=some r:=by
 induction n generalizing k with
 |zero=>simp[endS]at h
 |succ n ih=>
  simp only[endS,zbE]at h ⊢;obtain⟨c,a,h⟩:=h;refine⟨c,(d k (zlE.1 a).1).trans a,?_⟩;cases b:c.link with
  |none=>rw[b]at h;exact h
  |some j=>rw[b]at h;exact ih h
theorem znk{f:Nat->Nat}(W:Wf l0 f)(mk:List Bool):∀(z:Nat) {l:List RC} {cp:List (Option Nat)} {k:Nat},Od cp<=z->k<l0.length->cp.length=l0.length->l0.length<=l.length->(∀i:Nat,i<l0.length->l[i]?=l0[i]?)->(∀(r c:Nat),cp[r]?=some (some c)->c<l.length) ->
  ∃n0 k' l' cp',(∀n,n0<=n->Jr n mk k l cp=some (k',l',cp'))/\zv5 l0 mk l cp k k' l' cp':=by
 intro z
 induction z with
 |zero=>
  intro l cp k hz hk hcl hll hp hlow;obtain⟨x,ex,gx⟩:=Qq W (f k+1) k oM hk;have gx':∀m,f k+1<=m->endS m l k=some x:=λm hm=>zgp hp (gx m hm);by_cases hm:Ta mk x=true
  ·refine⟨f k+2,x,l,cp,λn hn=>?_,⟨znL _,λ_ _=>rfl,rfl,λ_ _ h=>h,⟨x,ex,.inl ⟨hm,rfl⟩⟩,λ_ _ h=>.inl h,λi h1 h2=>oM,znL _,λr1 r2 c hc h1 h2=>absurd (hlow _ _ h1) oM⟩⟩;obtain⟨n,rfl⟩:∃n',n=n'+1:=⟨n-1,oM⟩;simp[Jr,gx' n oM,hm]
  ·have hmf:Ta mk x=false:=(by simpa using hm);obtain⟨o,ho⟩:∃o,cp[x]?=some o:=⟨_,fA (by rw[hcl];exact ex.lt.2)⟩;cases o with
   |none=>exact absurd (V9 (c:=0) ho) oM
   |some c=>
    refine⟨f k+2,c,l,cp,λn hn=>?_,⟨znL _,λ_ _=>rfl,rfl,λ_ _ h=>h,⟨x,ex,.inr ⟨hmf,ho⟩⟩,λ_ _ h=>.inl h,λi h1 h2=>oM,znL _,λr1 r2 c hc h1 h2=>absurd (hlow _ _ h1) oM⟩⟩;obtain⟨n,rfl⟩:∃n',n=n'+1:=⟨n-1,oM⟩;simp[Jr,gx' n oM,hmf,ho]
 |succ z ih=>
  intro l cp k hz hk hcl hll hp hlow;obtain⟨x,ex,gx⟩:=Qq W (f k+1) k oM hk;have gx':∀m,f k+1<=m->endS m l k=some x:=λm hm=>zgp hp (gx m hm);by_cases hm:Ta mk x=true
  ·refine⟨f k+2,x,l,cp,λn hn=>?_,⟨znL _,λ_ _=>rfl,rfl,λ_ _ h=>h,⟨x,ex,.inl ⟨hm,rfl⟩⟩,λ_ _ h=>.inl h,λi h1 h2=>oM,znL _,λr1 r2 c hc h1 h2=>absurd (hlow _ _ h1) oM⟩⟩;obtain⟨n,rfl⟩:∃n',n=n'+1:=⟨n-1,oM⟩;simp[Jr,gx' n oM,hm]
  have hmf:Ta mk x=false:=by simpa using hm
  obtain⟨o,ho⟩:∃o,cp[x]?=some o:=⟨_,fA (by rw[hcl];exact ex.lt.2)⟩;cases o with
  |some c=>
   refine⟨f k+2,c,l,cp,λn hn=>?_,⟨znL _,λ_ _=>rfl,rfl,λ_ _ h=>h,⟨x,ex,.inr ⟨hmf,ho⟩⟩,λ_ _ h=>.inl h,λi h1 h2=>oM,znL _,λr1 r2 c hc h1 h2=>absurd (hlow _ _ h1) oM⟩⟩;obtain⟨n,rfl⟩:∃n',n=n'+1:=⟨n-1,oM⟩;simp[Jr,gx' n oM,hmf,ho]
  |none=>
   obtain⟨t,ht,htl⟩:=ex.root;have ht':l[x]?=some t:=(hp x ex.lt.2).trans ht;have hu:=V9 (c:=l.length) ho;have hg:=λq=>zqb (b:=some l.length) ho q;have ext1:∀(r c:Nat),cp[r]?=some (some c)->(cp.set x (some l.length))[r]?=some (some c):=λr c h=>by
    rw[hg,jA (λe=>by rw[e,ho]at h;cases h)];exact h
   have hx1:(cp.set x (some l.length))[x]?=some (some l.length):=(by rw[hg,mA rfl]);have only:∀(r c:Nat),l.length<=c->(cp.set x (some l.length))[r]?=some (some c)->r=x:=λr c hc h=>by
    rw[hg]at h;split at h
    ·assumption
    ·exact absurd (hlow _ _ h) oM
   have simple:∀d:RC,d.sort=t.sort->d.fo=none->¬t.comp->zv5 l0 mk l cp k l.length (l++[d]) (cp.set x (some l.length)):=λd h1 h2 h3=>by
    refine⟨sM,λi hi=>by rw[iA hi],sM,ext1,⟨x,ex,.inr ⟨hmf,hx1⟩⟩,λr c h=>?_,λi h1 h2=>⟨x,?_⟩,oM,λr1 r2 c hc h1 h2=>?_⟩
    ·rw[hg]at h;split at h
     ·rename_i e;cases h;subst e;exact .inr ⟨znL _,sM,t,d,⟨ht,sM,h1,h2,htl,hmf,λh=>absurd h h3⟩⟩
     ·exact .inl h
    ·simp at h2;rw[hx1,show i=l.length by omega]
    ·exact(only _ _ hc h1).trans (only _ _ hc h2).symm
   by_cases h118:t.sort=118
   ·refine⟨f k+2,l.length,l++[⟨118,0,0,none⟩],cp.set x (some l.length),λn hn=>?_,simple ⟨118,0,0,none⟩ h118.symm rfl (λh=>by rcases h with h|h<;>omega)⟩;obtain⟨n,rfl⟩:∃n',n=n'+1:=⟨n-1,oM⟩;simp[Jr,gx' n oM,hmf,ho,ht',h118]
   ·by_cases hcomp:t.sort=62\/t.sort=42
    ·obtain⟨pa,pb⟩:=W.parts x t ht hcomp;have hp1:∀i:Nat,i<l0.length->(l++[(⟨118,0,0,none⟩:RC)])[i]?=l0[i]? :=λi hi=>(by rw[iA oM];exact hp i hi);have len1:(l++[(⟨118,0,0,none⟩:RC)]).length=l.length+1:=sM;obtain⟨n1,a',l2,cp2,g1,A1⟩:=ih (l:=l++[⟨118,0,0,none⟩]) (cp:=cp.set x (some l.length)) (k:=t.a) oM pa (by simpa using hcl) (by simp;omega) hp1 (λr c h=>by
      rw[len1];rw[hg]at h;split at h
      ·cases h;omega
      ·have:=hlow _ _ h;omega)
     have low1:=A1.low;rw[len1]at low1;have hp2:∀i:Nat,i<l0.length->l2[i]?=l0[i]? :=λi hi=>(by rw[A1.Aq i oM];exact hp1 i hi);have low3:∀(r c:Nat),cp2[r]?=some (some c)->c<l2.length:=λr c h=>by
      rcases A1.new r c h with h|⟨_,h,_⟩
      ·rw[hg]at h;split at h
       ·cases h;omega
       ·have:=hlow _ _ h;omega
      ·exact h
     obtain⟨n2,b',l3,cp3,g2,A2⟩:=ih (l:=l2) (cp:=cp2) (k:=t.b) (by have:=A1.few;omega) pb (by rw[A1.zvn];simpa using hcl) oM hp2 low3;have low2:=A2.low;obtain⟨e,he⟩:∃e,l3[l.length]?=some e:=⟨_,fA oM⟩;have sg:=λq=>Gp (c:=⟨t.sort,a',b',none⟩) he q;have ext2:∀(r c:Nat),(cp.set x (some l.length))[r]?=some (some c)->cp3[r]?=some (some c):=λr c h=>A2.ext r c (A1.ext r c h);refine⟨n1+n2+f k+2,l.length,l3.set l.length ⟨t.sort,a',b',none⟩,cp3,λn hn=>?_,⟨?_,λi hi=>?_,?_,λr c h=>ext2 r c (ext1 r c h),⟨x,ex,.inr ⟨hmf,ext2 _ _ hx1⟩⟩,λr c h=>?_,λi h1 h2=>?_,?_,λr1 r2 c hc h1 h2=>?_⟩⟩
     ·obtain⟨n,rfl⟩:∃n',n=n'+1:=⟨n-1,oM⟩;simp only[Jr,gx' n oM,zbS,hmf,xA,if_false,ho,ht',jA h118,mA hcomp,g1 n oM,g2 n oM]
     ·rw[jB];omega
     ·rw[sg,jA oM,A2.Aq i oM,A1.Aq i oM,iA hi]
     ·rw[A2.zvn,A1.zvn,jB]
     ·have fin:∀ {t' d:RC},zhw l0 mk l3 cp3 r c t' d->c≠l.length->zhw l0 mk (l3.set l.length ⟨t.sort,a',b',none⟩) cp3 r c t' d:=λD hne=>D.mono (λ_ _ h=>h) (by rw[sg,jA hne]);rcases A2.new r c h with h|⟨h1,h2,t',d,D⟩
      ·rcases A1.new r c h with h|⟨h1,h2,t',d,D⟩
       ·rw[hg]at h;split at h
        ·rename_i e';cases h;subst e';exact .inr ⟨znL _,by rw[jB];omega,t,⟨t.sort,a',b',none⟩,⟨ht,by rw[sg,mA rfl],rfl,rfl,htl,hmf,λ_=>⟨A1.img.mono A2.ext,A2.img⟩⟩⟩
        ·exact .inl h
       ·rw[len1]at h1;exact .inr ⟨oM,by rw[jB];omega,t',d,fin (D.mono A2.ext (A2.Aq c h2)) oM⟩
      ·exact .inr ⟨oM,by rw[jB];exact h2,t',d,fin D oM⟩
     ·rw[jB]at h2;by_cases hi:i=l.length
      ·exact⟨x,by rw[hi];exact ext2 _ _ hx1⟩
      ·rcases yB i l2.length with h|h
       ·obtain⟨r,hr⟩:=A1.all i (by rw[len1];omega) h;exact⟨r,A2.ext _ _ hr⟩
       ·exact A2.all i h h2
     ·have:=A1.few
      have:=A2.few;omega
     ·rcases yB c l2.length with hc2|hc2
      ·have k1:cp2[r1]?=some (some c):=(A2.new r1 c h1).elim id (λh=>absurd h.1 oM);have k2:cp2[r2]?=some (some c):=(A2.new r2 c h2).elim id (λh=>absurd h.1 oM);rcases yB c (l.length+1)with hc1|hc1
       ·have j1:=(A1.new r1 c k1).elim id (λh=>absurd h.1 (by rw[len1];omega));have j2:=(A1.new r2 c k2).elim id (λh=>absurd h.1 (by rw[len1];omega));exact(only _ _ hc j1).trans (only _ _ hc j2).symm
       ·exact A1.inj r1 r2 c (by rw[len1];exact hc1) k1 k2
      ·exact A2.inj r1 r2 c hc2 h1 h2
    ·refine⟨f k+2,l.length,l++[⟨t.sort,t.a,t.b,none⟩],cp.set x (some l.length),λn hn=>?_,simple ⟨t.sort,t.a,t.b,none⟩ rfl rfl hcomp⟩;obtain⟨n,rfl⟩:∃n',n=n'+1:=⟨n-1,oM⟩;simp only[Jr,gx' n oM,zbS,hmf,xA,if_false,ho,ht',jA h118,jA hcomp];simp
end
section
variable{v v':Nat->Ty}{k r:Nat}{l l1:List RC}{F:List Nat}{t:T}{a:Ty}{mk:List Bool}
inductive REn where
 |nil
 |fix (name:List UInt8) (r:Nat) (o:REn)
 |dfn (name:List UInt8) (r:Nat) (t:T) (o:REn)
def REn.look:REn->zU->Option (Nat ⊕ (Nat×T×REn))
 |.nil,_=>none
 |.fix n r o,x=>if n=x then some (.inl r)else o.look x
 |.dfn n r t o,x=>if n=x then some (.inr (r,t,o))else o.look x
def REn.val(v:Nat->Ty):REn->TEn
 |.nil=>.nil
 |.fix n r o=>.fix n (v r) (o.val v)
 |.dfn n _ t o=>.dfn n t (o.val v)
def REn.Av:REn->List Nat
 |.nil=>[]
 |.fix _ r o=>o.Av++[r]
 |.dfn _ _ _ o=>o.Av
theorem REn.look_val(v:Nat->Ty)(x:zU):∀e:REn,(e.val v).look x=(e.look x).map λ|.inl r=>.inl (v r)|.inr (_,t,o)=>.inr (t,o.val v)
 |.nil=>rfl
 |.fix n r o=>by
  simp only[REn.val,TEn.look,REn.look];split
  ·rfl
  ·exact REn.look_val v x o
 |.dfn n r t o=>by
  simp only[REn.val,TEn.look,REn.look];split
  ·rfl
  ·exact REn.look_val v x o
theorem REn.Wa{v v':Nat->Ty}:∀ {e:REn},(∀x∈e.Av,v' x=v x)->e.val v'=e.val v
 |.nil,_=>rfl
 |.fix n r o,h=>by
  simp only[REn.val];rw[h r (by simp[REn.Av]),REn.Wa (e:=o) (λx b=>h x (by simp[REn.Av,b]))]
 |.dfn n r t o,h=>by
  simp only[REn.val];rw[REn.Wa (e:=o) h]
inductive Live(l:List RC)(F:List Nat):Nat->Prop
 |base {x:Nat} (h:x∈F):Live l F x
 |link {k j:Nat} {c:RC} (h:Live l F k) (hc:l[k]?=some c) (hl:c.link=some j):Live l F j
 |left {k:Nat} {c:RC} (h:Live l F k) (hc:l[k]?=some c) (hs:c.comp):Live l F c.a
 |right {k:Nat} {c:RC} (h:Live l F k) (hc:l[k]?=some c) (hs:c.comp):Live l F c.b
def Ol(l:List RC)(F:List Nat)(k:Nat):Prop:=k<l.length/\¬Live l F k
theorem Wb(l:List RC)(F:List Nat):Cl (Ol l F) l:=λk c d i=>by
 have e:Live l F k:=Classical.byContradiction λh=>i ⟨(zlE.1 d).1,h⟩;exact⟨λj g b=>b.2 (.link e d g),λf=>⟨λb=>b.2 (.left e d f),λb=>b.2 (.right e d f)⟩⟩
theorem Qr{c:RC}(h:c.says v k)(d:c.says v' k)(e:v' k=v k):(∀j,c.link=some j->v' j=v j)/\(c.comp->v' c.a=v c.a/\v' c.b=v c.b):=by
 refine⟨λj f=>by rw[<-h.link j f,<-d.link j f];exact e,λb=>?_⟩;rcases b with b|b
 ·rw[h.fn b,d.fn b]at e;injection e with e1 e2;exact⟨e1,e2⟩
 ·rw[h.pair b,d.pair b]at e;injection e with e1 e2;exact⟨e1,e2⟩
theorem zjv(s:Sat l v)(b:Sat l v')(h:∀x∈F,v' x=v x)(c:Live l F k):v' k=v k:=by
 induction c with
 |base hx=>exact h _ hx
 |link _ hc hl ih=>exact(Qr (s _ _ hc) (b _ _ hc) ih).1 _ hl
 |left _ hc hs ih=>exact((Qr (s _ _ hc) (b _ _ hc) ih).2 hs).1
 |right _ hc hs ih=>exact((Qr (s _ _ hc) (b _ _ hc) ih).2 hs).2
theorem znl(s:Sat l v)(n:Sat l v'):Cl (λk=>v' k≠v k) l:=λk c d j=>by
 have f:v' k=v k:=Classical.byContradiction j;obtain⟨g,b⟩:=Qr (s k c d) (n k c d) f;exact⟨λm i h=>h (g m i),λe=>⟨λh=>h (b e).1,λh=>h (b e).2⟩⟩
structure zom(F:List Nat)(l:List RC)(r:Nat)(t:T)(o:REn)(l1:List RC):Prop where
 low:l1.length<=l.length
 lt:r<l1.length
 Av:∀x∈o.Av,x<l1.length
 sat:∀v,Sat l v->Sat l1 v
 dead:∀k,Ol l1 o.Av k->l[k]?=l1[k]?
 cl:Cl (Ol l1 o.Av) l
 apart:∀x∈F,¬Ol l1 o.Av x
 wf:∃f,Wf l1 f
 sound:∀v,Sat l1 v->Og t (o.val v) (v r)
 complete:∀v a,Sat l1 v->Og t (o.val v) a->∃v',Sat l1 v'/\(∀x∈o.Av,v' x=v x)/\v' r=a
theorem zom.turn{o:REn}(h:zom F l r t o l1)(s:Sat l v)(D:Og t (o.val v) a):∃v',Sat l v'/\(∀x∈o.Av,v' x=v x)/\v' r=a:=by
 classical
 have p:=h.sat v s;obtain⟨w,q,G,y⟩:=h.complete v a p D;obtain⟨H,W⟩:=h.wf;have n:∀k,k<l1.length->¬Ol l1 o.Av k->w k=v k:=λk B d=>
  zjv p q G (Classical.byContradiction λC=>d ⟨B,C⟩)
 refine⟨λk=>if Ol l1 o.Av k then w k else v k,λk c m=>?_,λx E=>?_,?_⟩
 ·by_cases d:Ol l1 o.Av k
  ·have g:l1[k]?=some c:=(by rw[<-h.dead k d];exact m);have e:=q k c g;have val:∀j,j<l1.length->(if Ol l1 o.Av j then w j else v j)=w j:=λj f=>by
    split
    ·rfl
    ·rename_i A;exact(n j f A).symm
   refine⟨λj f=>?_,λb=>?_,λb=>?_,λb=>?_,λb=>?_⟩
   ·simp only[mA d];rw[val j (W.link k c j g f).1];exact e.link j f
   ·simp only[mA d];exact e.int b
   ·simp only[mA d];exact e.bool b
   ·simp only[mA d];rw[val _ (W.parts k c g (.inl b)).1,val _ (W.parts k c g (.inl b)).2];exact e.fn b
   ·simp only[mA d];rw[val _ (W.parts k c g (.inr b)).1,val _ (W.parts k c g (.inr b)).2];exact e.pair b
  ·have e:=s k c m;obtain⟨z,i⟩:=h.cl k c m d;refine⟨λj f=>?_,λb=>?_,λb=>?_,λb=>?_,λb=>?_⟩
   ·simp only[jA d,jA (z j f)];exact e.link j f
   ·simp only[jA d];exact e.int b
   ·simp only[jA d];exact e.bool b
   ·simp only[jA d,jA (i (.inl b)).1,jA (i (.inl b)).2];exact e.fn b
   ·simp only[jA d,jA (i (.inr b)).1,jA (i (.inr b)).2];exact e.pair b
 ·show(if Ol l1 o.Av x then w x else v x)=v x;rw[jA (λd=>d.2 (.base E))]
 ·show(if Ol l1 o.Av r then w r else v r)=a;split
  ·exact y
  ·rename_i d;rw[<-n r h.lt d];exact y
def Bg(n:Nat)(F:List Nat)(r:Nat)(l:List RC):Option (Nat×List RC):=
 (Q8 n l F (List.replicate l.length false)).bind λmk=>(Jr n mk r l (List.replicate l.length none)).bind λq=>some (q.1,q.2.1)
structure TOk(F:List Nat)(J:(Nat->Ty)->Ty->Prop)(l:List RC)(k':Nat)(l':List RC):Prop where
 wf:∃f,Wf l' f
 lt:k'<l'.length
 low:l.length<=l'.length
 sound:∀v,Sat l' v->Sat l v/\J v (v k')
 complete:∀v a,Sat l v->J v a->∃v',I9 l.length v v'/\Sat l' v'/\v' k'=a
 frame:∀D:Nat->Prop,Cl D l->(∀x∈F,¬D x)->(∀k,D k->k<l.length)->(∀k,D k->l'[k]?=l[k]?)/\Cl D l'/\¬D k'
theorem zau{s:Nat->Ty}(i:McT l [] mk)(o:∀p,mk[p]?=some true->s p=v p)(h:Fin l k a):(∀r,End l k r->mk[r]?=some true)->a.sub s=a.sub v:=by
 have g:∀ {p:Nat} {c:RC},mk[p]?=some true->l[p]?=some c->c.comp->∀k,k=c.a\/k=c.b->∀r,End l k r->mk[r]?=some true:=λd e j k m r b=>by
  rcases i _ _ d e j k m r b with h|⟨q,n,_⟩
  ·exact h
  ·cases n
 induction h with
 |var b=>exact λf=>o _ (f _ b)
 |int=>exact λ_=>rfl
 |bool=>exact λ_=>rfl
 |fn b e hs' _ _ ih1 ih2=>
  intro f;have d:=f _ b;simp only[Ty.sub];rw[ih1 (g d e (.inl hs') _ (.inl rfl)),ih2 (g d e (.inl hs') _ (.inr rfl))]
 |pair b e hs' _ _ ih1 ih2=>
  intro f;have d:=f _ b;simp only[Ty.sub];rw[ih1 (g d e (.inr hs') _ (.inl rfl)),ih2 (g d e (.inr hs') _ (.inr rfl))]
theorem Nu :Ta mk k=true↔mk[k]?=some true:=by
 unfold Ta;cases h:mk[k]? with
 |none=>simp
 |some b=>simp
theorem znm{G:List Nat}{f:Nat->Nat}(W:Wf l f){o:REn}(h:zom G l r t o l1):
  ∃n0 k' l',(∀n,n0<=n->Bg n o.Av r l=some (k',l'))/\TOk o.Av (λv a=>Og t (o.val v) a) l k' l':=by
 classical
 have hr:r<l.length:=by have:=h.lt;have:=h.low;omega
 have hF:∀x∈o.Av,x<l.length:=λx hx=>by have:=h.Av x hx;have:=h.low;omega
 obtain⟨n1,mk,g1,K,hc⟩:=U9 W (ks:=o.Av) (mk:=List.replicate l.length false) sM hF (λp c hp=>by simp[List.getElem?_replicate]at hp);have notrue:∀p:Nat,¬(List.replicate l.length false)[p]?=some true:=λp hp=>by simp[List.getElem?_replicate]at hp
 have nocp:∀(q c:Nat),¬(List.replicate l.length (none:Option Nat))[q]?=some (some c):=λq c hp=>by simp[List.getElem?_replicate]at hp
 obtain⟨n2,k',l',cp,g2,A⟩:=znk W mk _ (l:=l) (cp:=List.replicate l.length none) (k:=r) (znL _) hr sM (znL _) (λ_ _=>rfl) (λq c hp=>absurd hp (nocp q c));have cop:∀ {q c:Nat},cp[q]?=some (some c)->l.length<=c/\c<l'.length/\∃t d,zhw l mk l' cp q c t d:=λ{q c} hq=>(A.new q c hq).elim (λh=>absurd h (nocp q c)) id;have mkd:∀ {D:Nat->Prop},Cl D l->(∀x∈o.Av,¬D x)->∀p,Ta mk p=true->¬D p:=λhD hx p hp=>K.only _ hD hx (λp hp=>absurd hp (notrue p)) p (Nu.1 hp);have mlt:∀p,Ta mk p=true->p<l.length:=λp hp=>by
  have:=(zlE.1 (Nu.1 hp)).1;rw[K.len]at this;simpa using this
 have imlt:∀ {k k'},Img l mk cp k k'->k'<l'.length:=by
  rintro k k' ⟨q,_,⟨h1,rfl⟩|⟨_,h2⟩⟩
  ·have:=mlt _ h1;have:=A.low;omega
  ·exact(cop h2).2.1
 have newc:∀ {i:Nat} {d:RC},l.length<=i->l'[i]?=some d->∃q t,cp[q]?=some (some i)/\zhw l mk l' cp q i t d:=λ{i d} hi hd=>by
  obtain⟨q,hq⟩:=A.all i hi (zlE.1 hd).1;obtain⟨_,_,t,d',D⟩:=cop hq
  have:=D.new;rw[hd]at this;cases this;exact⟨q,t,hq,D⟩
 refine⟨n1+n2,k',l',λn hn=>by unfold Bg;rw[g1 n oM,zbS,g2 n oM];rfl,⟨⟨λk=>if k<l.length then f k else 0,?_,?_,?_⟩,imlt A.img,A.low,λv s=>?_,λv a s hd=>?_,λD hD hx hk=>?_⟩⟩
 ·intro k c j hk hj;rcases yB k l.length with h1|h1
  ·rw[A.Aq k h1]at hk;obtain⟨h2,h3⟩:=W.link k c j hk hj;refine⟨by have:=A.low;omega,?_⟩;simp only[mA h1,mA h2];exact h3
  ·obtain⟨q,t,_,D⟩:=newc h1 hk;unfold RC.link at hj;rw[D.fo]at hj;split at hj<;>cases hj
 ·intro k c hk hs;rcases yB k l.length with h1|h1
  ·rw[A.Aq k h1]at hk;obtain⟨h2,h3⟩:=W.parts k c hk hs
   have:=A.low;exact⟨oM,oM⟩
  ·obtain⟨q,t,_,D⟩:=newc h1 hk;obtain⟨i1,i2⟩:=D.parts (by have:=D.sort;exact hs.elim (λh=>.inl oM) (λh=>.inr oM));exact⟨imlt i1,imlt i2⟩
 ·intro k c hk;rcases yB k l.length with h1|h1
  ·rw[A.Aq k h1]at hk;exact W.sort k c hk
  ·obtain⟨q,t,_,D⟩:=newc h1 hk;rw[D.sort];exact W.sort q t D.old
 ·have s0:Sat l v:=λk c hk=>s k c ((A.Aq k (zlE.1 hk).1).trans hk);refine⟨s0,?_⟩;have Fi:∀k,k<l.length->∃a,Fin l k a:=λk hk=>Sat.fin W s0 _ k (znL _) hk;obtain⟨sg,hsg⟩:∃sg:Nat->Ty,∀p,sg p=match cp[p]? with|some (some c)=>v c|_=>v p:=⟨_,λ_=>rfl⟩
  have sgm:∀p,mk[p]?=some true->sg p=v p:=λp hp=>by
   rw[hsg];cases e:cp[p]? with
   |none=>rfl
   |some oc=>
    cases oc with
    |none=>rfl
    |some c=>
     obtain⟨_,_,t,d,D⟩:=cop e
     have:=D.free;rw[Nu.2 hp]at this;cases this
  obtain⟨w,w1,w2⟩:=zla W Fi sg;have key:∀ {k:Nat} {a:Ty},Fin l k a->∀k',Img l mk cp k k'->v k'=a.sub sg:=by
   intro k a hF;have marked:∀ {k:Nat} {a:Ty},Fin l k a->∀r,End l k r->Ta mk r=true->v r=a.sub sg:=λhF r he hm=>by
    rw[zau hc sgm hF (λr' he'=>by rw[he'.unique he];exact Nu.1 hm),<-hF.val s0,s0.end he]
   induction hF with
   |var he hx hs=>
    rintro k' ⟨q,hq,⟨h1,rfl⟩|⟨_,h2⟩⟩
    ·exact marked (.var he hx hs) _ hq h1
    ·rw[hq.unique he]at h2;show v k'=sg _;rw[hsg,h2]
   |int he hx hs=>
    rintro k' ⟨q,hq,⟨h1,rfl⟩|⟨_,h2⟩⟩
    ·exact marked (.int he hx hs) _ hq h1
    ·obtain⟨_,_,t,d,D⟩:=cop h2
     have:=D.old;rw[hq.unique he,hx]at this;cases this;exact(s k' d D.new).int (by rw[D.sort];exact hs)
   |bool he hx hs=>
    rintro k' ⟨q,hq,⟨h1,rfl⟩|⟨_,h2⟩⟩
    ·exact marked (.bool he hx hs) _ hq h1
    ·obtain⟨_,_,t,d,D⟩:=cop h2
     have:=D.old;rw[hq.unique he,hx]at this;cases this;exact(s k' d D.new).bool (by rw[D.sort];exact hs)
   |fn he hx hs ha hb ih1 ih2=>
    rintro k' ⟨q,hq,⟨h1,rfl⟩|⟨_,h2⟩⟩
    ·exact marked (.fn he hx hs ha hb) _ hq h1
    ·obtain⟨_,_,t,d,D⟩:=cop h2
     have:=D.old;rw[hq.unique he,hx]at this;cases this;obtain⟨i1,i2⟩:=D.parts (.inl hs);rw[(s k' d D.new).fn (by rw[D.sort];exact hs),ih1 _ i1,ih2 _ i2];rfl
   |pair he hx hs ha hb ih1 ih2=>
    rintro k' ⟨q,hq,⟨h1,rfl⟩|⟨_,h2⟩⟩
    ·exact marked (.pair he hx hs ha hb) _ hq h1
    ·obtain⟨_,_,t,d,D⟩:=cop h2
     have:=D.old;rw[hq.unique he,hx]at this;cases this;obtain⟨i1,i2⟩:=D.parts (.inr hs);rw[(s k' d D.new).pair (by rw[D.sort];exact hs),ih1 _ i1,ih2 _ i2];rfl
  obtain⟨a,ha⟩:=Fi r hr;have e1:v k'=w r:=(key ha k' A.img).trans (w2 r a ha).symm;have e2:o.val w=o.val v:=REn.Wa λx hx=>by
   obtain⟨b,hb⟩:=Fi x (hF x hx);rw[w2 x b hb,hb.val s0];exact zau hc sgm hb (λr' he=>K.here x hx r' he)
  show Og t (o.val v) (v k');rw[e1,<-e2];exact h.sound w (h.sat w w1)
 ·obtain⟨w,w1,w2,w3⟩:=h.turn s hd;have wm:∀p,Ta mk p=true->w p=v p:=λp hp=>Classical.byContradiction (mkd (znl s w1) (λx hx hne=>hne (w2 x hx)) p hp);let u:Nat->Ty:=λi=>if i<l.length then v i else if hq:∃q:Nat,cp[q]?=some (some i)then w (Classical.choose hq)else .int;have uo:∀i,i<l.length->u i=v i:=λi hi=>by simp only[u,mA hi]
  have un:∀q i,cp[q]?=some (some i)->u i=w q:=λq i hq=>by
   have hi:=(cop hq).1;have hx:∃q:Nat,cp[q]?=some (some i):=⟨q,hq⟩;simp only[u,jA (Nat.not_lt.2 hi),dif_pos hx];rw[A.inj _ _ i hi (Classical.choose_spec hx) hq]
  have ui:∀ {k k'},Img l mk cp k k'->u k'=w k:=by
   rintro k k' ⟨q,he,⟨h1,rfl⟩|⟨_,h2⟩⟩
   ·rw[uo _ (mlt _ h1),<-wm _ h1,w1.end he]
   ·rw[un q _ h2,w1.end he]
  refine⟨u,λi hi=>uo i hi,λk c hk=>?_,(ui A.img).trans w3⟩;rcases yB k l.length with h1|h1
  ·rw[A.Aq k h1]at hk;have say:=s k c hk;refine⟨λj hj=>?_,λhs=>?_,λhs=>?_,λhs=>?_,λhs=>?_⟩
   ·rw[uo k h1,uo j (W.link k c j hk hj).1];exact say.link j hj
   ·rw[uo k h1];exact say.int hs
   ·rw[uo k h1];exact say.bool hs
   ·rw[uo k h1,uo _ (W.parts k c hk (.inl hs)).1,uo _ (W.parts k c hk (.inl hs)).2];exact say.fn hs
   ·rw[uo k h1,uo _ (W.parts k c hk (.inr hs)).1,uo _ (W.parts k c hk (.inr hs)).2];exact say.pair hs
  ·obtain⟨q,t',hq,D⟩:=newc h1 hk;have say:=w1 q t' D.old;have hn:c.link=none:=(by unfold RC.link;rw[D.fo];split<;>rfl);refine⟨λj hj=>(by rw[hn]at hj;cases hj),λhs=>?_,λhs=>?_,λhs=>?_,λhs=>?_⟩
   ·rw[un q k hq];exact say.int (by rw[<-D.sort];exact hs)
   ·rw[un q k hq];exact say.bool (by rw[<-D.sort];exact hs)
   ·have ht:t'.sort=62:=(by rw[<-D.sort];exact hs);obtain⟨i1,i2⟩:=D.parts (.inl ht);rw[un q k hq,ui i1,ui i2];exact say.fn ht
   ·have ht:t'.sort=42:=(by rw[<-D.sort];exact hs);obtain⟨i1,i2⟩:=D.parts (.inr ht);rw[un q k hq,ui i1,ui i2];exact say.pair ht
 ·have imD:∀ {k k'},Img l mk cp k k'->¬D k':=by
   rintro k k' ⟨q,_,⟨h1,rfl⟩|⟨_,h2⟩⟩
   ·exact mkd hD hx _ h1
   ·exact λhd=>absurd (hk _ hd) (Nat.not_lt.2 (cop h2).1)
  refine⟨λk hd=>A.Aq k (hk k hd),λk c hc' hd=>?_,imD A.img⟩;rcases yB k l.length with h1|h1
  ·rw[A.Aq k h1]at hc';exact hD k c hc' hd
  ·obtain⟨q,t',hq,Dn⟩:=newc h1 hc';refine⟨λj hj=>?_,λhs=>?_⟩
   ·have hn:c.link=none:=(by unfold RC.link;rw[Dn.fo];split<;>rfl);rw[hn]at hj;cases hj
   ·obtain⟨i1,i2⟩:=Dn.parts (by have:=Dn.sort;exact hs.elim (λh=>.inl oM) (λh=>.inr oM));exact⟨imD i1,imD i2⟩
end
section
variable{l:List RC}{f:Nat->Nat}{v v':Nat->Ty}{c d:RC}{k a b:Nat}{J:TEn->Ty->Prop}{e:REn}
structure RS where
 l:List RC
 bad:Bool
def RS.put(s:RS)(c:RC):RS:=⟨s.l++[c],s.bad⟩
def Re(n a b:Nat)(s:RS):Option RS:=(Hn n s.l [(a,b)]).bind λr=>some ⟨r.1,s.bad||r.2⟩
def useS(n:Nat)(e:REn)(x:zU)(s:RS):Option (Nat×RS):=match e.look x with
 |none=>none
 |some (.inl r)=>some (r,s)
 |some (.inr (r,_,o))=>(Bg n o.Av r s.l).bind λq=>some (q.1,⟨q.2,s.bad⟩)
def rOf(n:Nat):T->REn->RS->Option (Nat×RS)
 |.name _ _ x,e,s=>if s.bad then some (0,s)else useS n e x s
 |.int ..,_,s=>if s.bad then some (0,s)else some (s.l.length,s.put ⟨105,0,0,none⟩)
 |.Ak ..,_,s=>if s.bad then some (0,s)else some (s.l.length,s.put ⟨98,0,0,none⟩)
 |.side _ _ second,_,s=>if s.bad then some (0,s)else some (s.l.length+3,(((s.put ⟨118,0,0,none⟩).put ⟨118,0,0,none⟩).put ⟨42,s.l.length,s.l.length+1,none⟩).put ⟨62,s.l.length+2,if second then s.l.length+1 else s.l.length,none⟩)
 |.bracket _ _ i,e,s=>if s.bad then some (0,s)else rOf n i e s
 |.pair _ _ l r,e,s=>if s.bad then some (0,s)else(rOf n l e s).bind λa=>(rOf n r e a.2).bind λb=>some (b.2.l.length,b.2.put ⟨42,a.1,b.1,none⟩)
 |.call _ _ l r,e,s=>if s.bad then some (0,s)else(rOf n l e s).bind λf=>(rOf n r e f.2).bind λa=>
   (Re n f.1 (a.2.l.length+1) ((a.2.put ⟨118,0,0,none⟩).put ⟨62,a.1,a.2.l.length,none⟩)).bind λh=>some (a.2.l.length,h)
 |.binary _ _ sg l r,e,s=>if s.bad then some (0,s)else(rOf n l e s).bind λx=>(rOf n r e x.2).bind λy=>
   (Re n x.1 y.2.l.length (y.2.put ⟨105,0,0,none⟩)).bind λs1=>(Re n y.1 y.2.l.length s1).bind λg=>
    if sg=23\/sg=15 then some (g.l.length,g.put ⟨98,0,0,none⟩)else some (y.2.l.length,g)
 |.cond _ _ c t f,e,s=>if s.bad then some (0,s)else(rOf n c e s).bind λc=>
   (Re n c.1 c.2.l.length (c.2.put ⟨98,0,0,none⟩)).bind λs1=>(rOf n t e s1).bind λx=>(rOf n f e x.2).bind λy=>(Re n x.1 y.1 y.2).bind λg=>some (x.1,g)
 |.fn _ _ bn _ b,e,s=>if s.bad then some (0,s)else(rOf n b (.fix bn s.l.length e) (s.put ⟨118,0,0,none⟩)).bind λr=>some (r.2.l.length,r.2.put ⟨62,s.l.length,r.1,none⟩)
 |.Am fr to rc bn bat d b,e,s=>if s.bad then some (0,s)else
   if rc then(rOf n d (.fix bn s.l.length e) (s.put ⟨118,0,0,none⟩)).bind λr=>(Re n s.l.length r.1 r.2).bind λs1=>rOf n b (.dfn bn s.l.length (.Am fr to rc bn bat d b) e) s1
   else(rOf n d e s).bind λa=>rOf n b (.dfn bn a.1 (.Am fr to rc bn bat d b) e) a.2
theorem Sat.agree(W:Wf l f)(s:Sat l v)(h:I9 l.length v v'):Sat l v':=λk c i=>by
 have m:=s k c i;have j:=(zlE.1 i).1;refine⟨λn o=>?_,λg=>?_,λg=>?_,λg=>?_,λg=>?_⟩
 ·rw[h k j,h n (W.link k c n i o).1];exact m.link n o
 ·rw[h k j];exact m.int g
 ·rw[h k j];exact m.bool g
 ·rw[h k j,h _ (W.parts k c i (.inl g)).1,h _ (W.parts k c i (.inl g)).2];exact m.fn g
 ·rw[h k j,h _ (W.parts k c i (.inr g)).1,h _ (W.parts k c i (.inr g)).2];exact m.pair g
theorem Wc(h:(l++[c])[k]?=some d):l[k]?=some d\/(k=l.length/\d=c):=by
 rcases yB k l.length with g|g
 ·rw[iA g]at h;exact .inl h
 ·rw[fB g]at h;have:k-l.length=0:=by
   have:=(zlE.1 h).1;simp at this;omega
  rw[this]at h;simp at h;exact .inr ⟨oM,h.symm⟩
theorem zss(h:l[k]?=some d):(l++[c])[k]?=some d:=by
 rw[iA (zlE.1 h).1];exact h
theorem Ek :Sat (l++[c]) v↔Sat l v/\c.says v l.length:=by
 constructor
 ·exact λs=>⟨λk d g=>s k d (zss g),s l.length c sM⟩
 ·rintro⟨s,h⟩ k d g;rcases Wc g with g|⟨rfl,rfl⟩
  ·exact s k d g
  ·exact h
theorem Hc(W:Wf l f)(j:c.fo=none)(o:c.sort=118\/c.sort=105\/c.sort=98\/c.sort=62\/c.sort=42)(n:c.comp->c.a<l.length/\c.b<l.length):Wf (l++[c]) f:=by
 have m:c.link=none:=by unfold RC.link;rw[j];split<;>rfl
 refine⟨λk d p g h=>?_,λk d g i=>?_,λk d g=>?_⟩
 ·rcases Wc g with g|⟨rfl,rfl⟩
  ·have:=W.link k d p g h;exact⟨by simp;omega,this.2⟩
  ·rw[m]at h;cases h
 ·rcases Wc g with g|⟨rfl,rfl⟩
  ·have:=W.parts k d g i;simp;omega
  ·have:=n i;simp;omega
 ·rcases Wc g with g|⟨rfl,rfl⟩
  ·exact W.sort k d g
  ·exact o
theorem Io{D:Nat->Prop}(h:Cl D l)(m:c.fo=none)(o:c.comp->¬D c.a/\¬D c.b):Cl D (l++[c]):=λk d g j=>by
 have n:c.link=none:=by unfold RC.link;rw[m];split<;>rfl
 rcases Wc g with g|⟨rfl,rfl⟩
 ·exact h k d g j
 ·exact⟨λp i=>(by rw[n]at i;cases i),o⟩
theorem Ce(W:Wf l f)(s:Sat l v){a:Ty}(h:c.says (upd v l.length a) l.length):Sat (l++[c]) (upd v l.length a):=
 Ek.2 ⟨s.agree W (Kq v l.length a),h⟩
theorem M9(v:Nat->Ty)(k:Nat):(⟨118,0,0,none⟩:RC).says v k:=⟨λj h=>(by simp[RC.link]at h),λh=>(by simp at h),λh=>(by simp at h),λh=>(by simp at h),λh=>(by simp at h)⟩
theorem zav :(⟨105,0,0,none⟩:RC).says v k↔v k=.int:=⟨λh=>h.int rfl,λe=>⟨λj h=>(by simp[RC.link]at h),λ_=>e,λh=>(by simp at h),λh=>(by simp at h),λh=>(by simp at h)⟩⟩
theorem P0 :(⟨98,0,0,none⟩:RC).says v k↔v k=.bool:=⟨λh=>h.bool rfl,λe=>⟨λj h=>(by simp[RC.link]at h),λh=>(by simp at h),λ_=>e,λh=>(by simp at h),λh=>(by simp at h)⟩⟩
theorem Tq :(⟨62,a,b,none⟩:RC).says v k↔v k=.fn (v a) (v b):=⟨λh=>h.fn rfl,λe=>⟨λj h=>(by simp[RC.link]at h),λh=>(by simp at h),λh=>(by simp at h),λ_=>e,λh=>(by simp at h)⟩⟩
theorem Tr :(⟨42,a,b,none⟩:RC).says v k↔v k=.pair (v a) (v b):=⟨λh=>h.pair rfl,λe=>⟨λj h=>(by simp[RC.link]at h),λh=>(by simp at h),λh=>(by simp at h),λh=>(by simp at h),λ_=>e⟩⟩
def EOk(F:List Nat)(l:List RC):REn->Prop
 |.nil=>True
 |.fix _ r o=>r<l.length/\EOk F l o
 |.dfn _ r t o=>(∃g,zom F l r t o g)/\EOk F l o
structure Grow(F:List Nat)(l l':List RC):Prop where
 low:l.length<=l'.length
 sat:∀v,Sat l' v->Sat l v
 frame:∀D:Nat->Prop,Cl D l->(∀x∈F,¬D x)->(∀k,D k->k<l.length)->(∀k,D k->l'[k]?=l[k]?)/\Cl D l'
theorem EOk.grow{F G:List Nat}{l l':List RC}(g:Grow G l l')(j:∀x∈G,x∈F\/l.length<=x):∀ {e:REn},EOk F l e->EOk F l' e
 |.nil,_=>trivial
 |.fix _ r o,h=>⟨by have:=g.low;have:=h.1;omega,EOk.grow g j (e:=o) h.2⟩
 |.dfn _ r t o,h=>by
  obtain⟨⟨n,d⟩,s⟩:=h;have i:∀k,Ol n o.Av k->k<l.length:=λk i=>by have:=i.1;have:=d.low;omega
  obtain⟨p,q⟩:=g.frame _ d.cl (λx w m=>(j x w).elim (λh=>d.apart x h m) (λh=>by have:=i x m;omega)) i;exact⟨⟨n,{d with low:=kB d.low g.low,sat:=λv y=>d.sat v (g.sat v y),dead:=λk i=>(p k i).trans (d.dead k i),cl:=q}⟩,EOk.grow g j (e:=o) s⟩
theorem EOk.more{F i:List Nat}{l:List RC}(g:∀x∈i,x∈F\/l.length<=x):∀ {e:REn},EOk F l e->EOk i l e
 |.nil,_=>trivial
 |.fix _ r o,h=>⟨h.1,EOk.more g (e:=o) h.2⟩
 |.dfn _ r t o,h=>by
  obtain⟨⟨p,d⟩,m⟩:=h;exact⟨⟨p,{d with apart:=λx n j=>(g x n).elim (λh=>d.apart x h j) (λh=>by have:=j.1;have:=d.low;omega)}⟩,EOk.more g (e:=o) m⟩
theorem EOk.Av{F:List Nat}{l:List RC}:∀ {e:REn},EOk F l e->∀x∈e.Av,x<l.length
 |.nil,_,x,g=>by cases g
 |.fix _ r o,h,x,g=>by
  rcases zmA.1 g with g|g
  ·exact EOk.Av (e:=o) h.2 x g
  ·simp at g;rw[g];exact h.1
 |.dfn _ r t o,h,x,g=>EOk.Av (e:=o) h.2 x g
theorem EOk.look{F:List Nat}{l:List RC}{x:zU}:∀ {e:REn},EOk F l e->(∀r,e.look x=some (.inl r)->r∈e.Av/\r<l.length)/\∀r t o,e.look x=some (.inr (r,t,o))->(∃s,zom F l r t o s)/\∀y∈o.Av,y∈e.Av
 |.nil,_=>⟨λ_ h=>by simp[REn.look]at h,λ_ _ _ h=>by simp[REn.look]at h⟩
 |.fix n r o,h=>by
  have j:=EOk.look (x:=x) (e:=o) h.2;simp only[REn.look];split
  ·exact⟨λi g=>by simp at g;subst g;exact⟨by simp[REn.Av],h.1⟩,λ_ _ _ g=>by simp at g⟩
  ·exact⟨λi g=>⟨by simp[REn.Av,(j.1 i g).1],(j.1 i g).2⟩,λi q p g=>⟨(j.2 i q p g).1,λy m=>by simp[REn.Av,(j.2 i q p g).2 y m]⟩⟩
 |.dfn n r t o,h=>by
  have j:=EOk.look (x:=x) (e:=o) h.2;simp only[REn.look];split
  ·exact⟨λ_ g=>by simp at g,λi q p g=>by simp at g;obtain⟨rfl,rfl,rfl⟩:=g;exact⟨h.1,λy m=>m⟩⟩
  ·exact j
structure ROk(J:TEn->Ty->Prop)(e:REn)(s s':RS)(r:Nat):Prop where
 wf:∃f,Wf s'.l f
 lt:r<s'.l.length
 low:s.l.length<=s'.l.length
 bad:s'.bad=false->s.bad=false
 sound:s'.bad=false->∀v,Sat s'.l v->Sat s.l v/\J (e.val v) (v r)
 complete:s.bad=false->∀v a,Sat s.l v->J (e.val v) a->s'.bad=false/\∃v',I9 s.l.length v v'/\Sat s'.l v'/\v' r=a
 frame:s'.bad=false->∀D:Nat->Prop,Cl D s.l->(∀x∈e.Av,¬D x)->(∀k,D k->k<s.l.length)->(∀k,D k->s'.l[k]?=s.l[k]?)/\Cl D s'.l/\¬D r
def Fb(run:Nat->RS->Option (Nat×RS))(J:TEn->Ty->Prop)(e:REn):Prop:=
 ∀(s:RS) (f:Nat->Nat),Wf s.l f->(s.bad=true->0<s.l.length)->(s.bad=false->EOk e.Av s.l e)->∃h r g,(∀n,h<=n->run n s=some (r,g))/\ROk J e s g r
theorem ROk.grow{s i:RS}{r:Nat}(h:ROk J e s i r)(g:i.bad=false):Grow e.Av s.l i.l:=
 ⟨h.low,λv o=>(h.sound g v o).1,λD j m n=>⟨(h.frame g D j m n).1,(h.frame g D j m n).2.1⟩⟩
theorem zwt{s:RS}(W:Wf s.l f)(g:s.bad=true)(i:s.bad=true->0<s.l.length):ROk J e s s 0:=
 ⟨⟨f,W⟩,i g,znL _,id,λh=>(by rw[g]at h;cases h),λh=>(by rw[g]at h;cases h),λh=>(by rw[g]at h;cases h)⟩
theorem Fb.of{run:Nat->RS->Option (Nat×RS)}(j:∀n s,s.bad=true->run n s=some (0,s))(h:∀(s:RS) (f:Nat->Nat),Wf s.l f->s.bad=false->EOk e.Av s.l e->∃p r i,(∀n,p<=n->run n s=some (r,i))/\ROk J e s i r):Fb run J e:=λs f W o m=>by
 cases g:s.bad with
 |true=>exact⟨0,0,s,λn _=>j n s g,zwt W g o⟩
 |false=>exact h s f W g (m g)
theorem Dg{F:List Nat}(g:EOk F l e)(h:I9 l.length v v'):e.val v'=e.val v:=REn.Wa λx i=>h x (g.Av x i)
structure OOk(a b:Nat)(s s':RS):Prop where
 wf:∃f,Wf s'.l f
 len:s'.l.length=s.l.length
 bad:s'.bad=false->s.bad=false
 sound:s'.bad=false->∀v,Sat s'.l v->Sat s.l v/\v a=v b
 complete:s.bad=false->∀v,Sat s.l v->v a=v b->s'.bad=false/\Sat s'.l v
 frame:∀D:Nat->Prop,Cl D s.l->¬D a->¬D b->(∀k,D k->s'.l[k]?=s.l[k]?)/\Cl D s'.l
theorem Hi{s:RS}(W:Wf s.l f)(r:a<s.l.length)(t:b<s.l.length):∃j o,(∀n,j<=n->Re n a b s=some o)/\OOk a b s o:=by
 obtain⟨j,y,x,i,M⟩:=Pz _ (todo:=[(a,b)]) W (by simp[r,t]) (znL _);refine⟨j,⟨y,s.bad||x⟩,λn w=>by unfold Re;rw[i n w];rfl,⟨M.wf,M.len,λh=>?_,λh v g=>?_,λh v g e=>?_,λD i p q=>M.frame D i (by simp[p,q])⟩⟩
 ·simp at h;exact h.1
 ·simp at h
  have:=(M.E7 h.2 v).1 g;exact⟨this.1,by simpa using this.2⟩
 ·cases m:x with
  |true=>exact absurd (by simpa using e) (M.bad m v g)
  |false=>exact⟨by simp[h],(M.E7 m v).2 ⟨g,by simpa using e⟩⟩
end
end
end Tw.Rf
end Go.Proofs.YtckhafpejefbbaaGreatDoor
