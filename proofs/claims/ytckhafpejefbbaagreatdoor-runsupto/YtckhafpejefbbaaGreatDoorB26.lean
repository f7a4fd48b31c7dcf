import Derived.Test.YtckhafpejefbbaaGreatDoorB25

set_option maxRecDepth 100000
set_option maxHeartbeats 16000000
namespace Go.Proofs.YtckhafpejefbbaaGreatDoor
namespace Tw.Rf
section
open Go Go.Proofs.YtckhafpejefbbaaGreatDoor.Tw
section
variable{fr to:Nat}{l r:T}
def REn.names:REn->List zU
 |.nil=>[]
 |.fix n _ o=>n::o.names
 |.dfn n _ _ o=>n::o.names
theorem Qs {x:List UInt8}:∀ {e:REn},e.names.contains x=true->∃r,e.look x=some r
 | .nil,h=>by simp [REn.names] at h
 | .fix n r o,h=>by
  simp only [REn.look]
  split
  ·exact ⟨_,rfl⟩
  ·rename_i hn
   refine Qs (e:=o) ?_
   simp [REn.names] at h
   rcases h with h | h
   ·exact absurd h.symm hn
   ·simpa using h
 | .dfn n r t o,h=>by
  simp only [REn.look]
  split
  ·exact ⟨_,rfl⟩
  ·rename_i hn
   refine Qs (e:=o) ?_
   simp [REn.names] at h
   rcases h with h | h
   ·exact absurd h.symm hn
   ·simpa using h
theorem B8(v:Nat->Ty)(n:Nat)(a:Ty):upd v n a n=a:=by simp[upd]
theorem Da{v:Nat->Ty}{n q:Nat}{a:Ty}(h:q≠n):upd v n a q=v q:=by simp[upd,h]
structure Two(J1 J2:TEn->Ty->Prop)(e:REn)(s s2:RS)(r1 r2:Nat):Prop where
 wf:∃f,Wf s2.l f
 lt1:r1<s2.l.length
 lt2:r2<s2.l.length
 low:s.l.length<=s2.l.length
 bad:s2.bad=false->s.bad=false
 sound:s2.bad=false->∀v,Sat s2.l v->Sat s.l v/\J1 (e.val v) (v r1)/\J2 (e.val v) (v r2)
 complete:s.bad=false->∀v a b,Sat s.l v->J1 (e.val v) a->J2 (e.val v) b->s2.bad=false/\∃v',I9 s.l.length v v'/\Sat s2.l v'/\v' r1=a/\v' r2=b
 frame:s2.bad=false->∀D:Nat->Prop,Cl D s.l->(∀x∈e.Av,¬D x)->(∀k,D k->k<s.l.length)->(∀k,D k->s2.l[k]?=s.l[k]?)/\Cl D s2.l/\¬D r1/\¬D r2
theorem Wd{run1 run2:Nat->RS->Option (Nat×RS)}{J1 J2:TEn->Ty->Prop}{e:REn}(h1:Fb run1 J1 e)(h2:Fb run2 J2 e)(s:RS)(f:Nat->Nat)(W:Wf s.l f)(hn:s.bad=true->0<s.l.length)(he:s.bad=false->EOk e.Av s.l e):
  ∃n0 r1 s1 r2 s2,(∀n,n0<=n->run1 n s=some (r1,s1)/\run2 n s1=some (r2,s2))/\Two J1 J2 e s s2 r1 r2:=by
 obtain⟨n1,r1,s1,g1,R1⟩:=h1 s f W hn he;obtain⟨f1,W1⟩:=R1.wf;have e1:s1.bad=false->EOk e.Av s1.l e:=λhb=>(he (R1.bad hb)).grow (R1.grow hb) (λx hx=>.inl hx);obtain⟨n2,r2,s2,g2,R2⟩:=h2 s1 f1 W1 (λ_=>by have:=R1.lt;omega) e1;refine⟨n1+n2,r1,s1,r2,s2,λn hn=>⟨g1 n oM,g2 n oM⟩,⟨R2.wf,aB R1.lt R2.low,R2.lt,kB R1.low R2.low,λhb=>R1.bad (R2.bad hb),λhb v hv=>?_,λhb v a b hv ha hb'=>?_,λhb D d1 d2 d3=>?_⟩⟩
 ·obtain⟨a1,a2⟩:=R2.sound hb v hv;obtain⟨b1,b2⟩:=R1.sound (R2.bad hb) v a1;exact⟨b1,b2,a2⟩
 ·obtain⟨b1,v1,g1,s1',q1⟩:=R1.complete hb v a hv ha;obtain⟨b2,v2,g2,s2',q2⟩:=R2.complete b1 v1 b s1' (by rw[Dg (he hb) g1];exact hb');exact⟨b2,v2,g1.trans g2 R1.low,s2',by rw[g2 r1 R1.lt];exact q1,q2⟩
 ·obtain⟨a1,a2,a3⟩:=R1.frame (R2.bad hb) D d1 d2 d3;obtain⟨b1,b2,b3⟩:=R2.frame hb D a2 d2 (λk hk=>aB (d3 k hk) R1.low);exact⟨λk hk=>(b1 k hk).trans (a1 k hk),b2,a3,b3⟩
theorem znn(fr to:Nat)(x:zU)(e:REn)(i:(T.name fr to x).freeS e.names=none):Fb (λn s=>rOf n (.name fr to x) e s) (Typ (.name fr to x)) e:=by
 refine .of (λn s c=>by simp[rOf,c]) λs t W c o=>?_;have E:e.names.contains x=true:=by
  simp only[T.freeS]at i;split at i
  ·assumption
  ·cases i
 obtain⟨q,d⟩:=Qs E;have b:=λv=>REn.look_val v x e;rw[d]at b;cases q with
 |inl r=>
  obtain⟨z,A⟩:=o.look.1 r d;refine⟨0,r,s,λn _=>by simp[rOf,c,useS,d],⟨⟨t,W⟩,A,znL _,λh=>h,λ_ v a=>⟨a,.name (b v)⟩,λ_ v k a j=>⟨c,v,λ_ _=>rfl,a,?_⟩,λ_ D f g m=>⟨λ_ _=>rfl,f,g r z⟩⟩⟩;cases j with
  |name h=>rw[b v]at h;simp at h;exact h
  |use h=>rw[b v]at h;simp at h
 |inr q=>
  obtain⟨r,L,J⟩:=q;obtain⟨⟨M,p⟩,C⟩:=o.look.2 r L J d;obtain⟨I,G,H,w,T⟩:=znm W p;refine⟨I,G,⟨H,s.bad⟩,λn B=>by simp[rOf,c,useS,d,w n B],⟨T.wf,T.lt,T.low,λh=>h,λ_ v a=>⟨(T.sound v a).1,.use (b v) (T.sound v a).2⟩,λ_ v k a j=>⟨c,?_⟩,λ_ D f g m=>T.frame D f (λy F=>g y (C y F)) m⟩⟩;cases j with
  |name h=>rw[b v]at h;simp at h
  |use h hd=>
   rw[b v]at h;simp at h;obtain⟨rfl,rfl⟩:=h;exact T.complete v k a hd
theorem zaw{J:TEn->Ty->Prop}{e:REn}{run:Nat->RS->Option (Nat×RS)}(c:RC)(a0:Ty)(d:(c=⟨105,0,0,none⟩/\a0=.int)\/(c=⟨98,0,0,none⟩/\a0=.bool))(A:∀n s,s.bad=false->run n s=some (s.l.length,s.put c))(b:∀n s,s.bad=true->run n s=some (0,s))(i:∀e a,J e a↔a=a0):Fb run J e:=by
 refine .of b λs q W b C=>?_;have o:∀ {v:Nat->Ty} {k:Nat},c.says v k↔v k=a0:=by
  rcases d with⟨rfl,rfl⟩|⟨rfl,rfl⟩
  ·exact zav
  ·exact P0
 have m:c.fo=none:=by rcases d with⟨rfl,_⟩|⟨rfl,_⟩<;>rfl
 have j:¬c.comp:=by rcases d with⟨rfl,_⟩|⟨rfl,_⟩<;>(intro h;rcases h with h|h<;>cases h)
 refine⟨0,_,_,λn _=>A n s b,⟨⟨q,Hc W m (by rcases d with⟨rfl,_⟩|⟨rfl,_⟩<;>simp) (λh=>absurd h j)⟩,by simp[RS.put],by simp[RS.put],λh=>h,λ_ v f=>?_,λ_ v a f x=>⟨b,upd v s.l.length a,Kq _ _ _,Ce W f (o.2 ?_),B8 _ _ _⟩,λ_ D p B g=>⟨λk z=>?_,Io p m (λh=>absurd h j),λy=>by have:=g _ y;omega⟩⟩⟩
 ·obtain⟨t,w⟩:=Ek.1 f;exact⟨t,(i _ _).2 (o.1 w)⟩
 ·rw[B8];exact(i _ _).1 x
 ·exact iA (g k z)
theorem zno(fr to:Nat)(b:Bool)(e:REn):Fb (λn s=>rOf n (.side fr to b) e s) (Typ (.side fr to b)) e:=by
 refine .of (λn s i=>by simp[rOf,i]) λs I W i S=>?_;obtain⟨N,d⟩:∃N,s.l.length=N:=⟨_,rfl⟩;have B:(s.l++[(⟨118,0,0,none⟩:RC)]).length=N+1:=by simp[d]
 have f:(s.l++[(⟨118,0,0,none⟩:RC)]++[(⟨118,0,0,none⟩:RC)]).length=N+2:=by simp[d]
 have g:(s.l++[(⟨118,0,0,none⟩:RC)]++[(⟨118,0,0,none⟩:RC)]++[(⟨42,N,N+1,none⟩:RC)]).length=N+3:=by simp[d]
 have w:=Hc W (c:=⟨118,0,0,none⟩) rfl sM (λh=>by rcases h with h|h<;>cases h);have x:=Hc w (c:=⟨118,0,0,none⟩) rfl sM (λh=>by rcases h with h|h<;>cases h);have y:=Hc x (c:=⟨42,N,N+1,none⟩) rfl sM (λ_=>by rw[f];exact⟨by show N<N+2;omega,by show N+1<N+2;omega⟩);have G:=Hc y (c:=⟨62,N+2,if b then N+1 else N,none⟩) rfl sM (λ_=>by rw[g];exact⟨by show N+2<N+3;omega,by show(if b then N+1 else N)<N+3;split<;>omega⟩);refine⟨0,N+3,⟨s.l++[⟨118,0,0,none⟩]++[⟨118,0,0,none⟩]++[⟨42,N,N+1,none⟩]++[⟨62,N+2,if b then N+1 else N,none⟩],s.bad⟩,λn _=>by simp[rOf,i,RS.put,d],⟨⟨I,G⟩,by simp[d],sM,λh=>h,λ_ v q=>?_,λ_ v a q Q=>⟨i,?_⟩,λ_ F H R o=>⟨λk j=>?_,?_,λp=>by have:=o _ p;omega⟩⟩⟩
 ·obtain⟨O,A⟩:=Ek.1 q;obtain⟨M,z⟩:=Ek.1 O;obtain⟨L,_⟩:=Ek.1 M;obtain⟨J,_⟩:=Ek.1 L;rw[g]at A;rw[f]at z;refine⟨J,?_⟩;rw[Tq.1 A,Tr.1 z]
  have:=@Typ.side fr to b (e.val v) (v N) (v (N+1));cases b<;>exact this
 ·cases Q with
  |@side _ _ _ _ a c=>
   have C:=Ce W (a:=a) q (M9 _ _);have t:=Ce w (a:=c) C (M9 _ _);rw[d]at C t;rw[B]at t;have D:=Ce x (c:=⟨42,N,N+1,none⟩) (a:=.pair a c) t (by rw[f,Tr];simp[upd]);rw[f]at D;have E:=Ce y (c:=⟨62,N+2,if b then N+1 else N,none⟩) (a:=.fn (.pair a c) (if b then c else a)) D (by
    rw[g,Tq,B8,Da oM,B8];cases b
    ·simp only[xA,if_false];rw[Da oM,Da oM,Da oM,B8]
    ·simp only[if_true];rw[Da oM,Da oM,B8])
   rw[g]at E;refine⟨_,λU P=>?_,E,B8 _ _ _⟩;rw[d]at P;rw[Da oM,Da oM,Da oM,Da oM]
 ·have j:=o k j;show(s.l++_++_++_++_)[k]?=_;rw[iA (by rw[g];omega),iA (by rw[f];omega),iA (by rw[B];omega),iA j]
 ·have m:∀k,N<=k->¬F k:=λk j p=>by have:=o k p;omega
  refine Io (Io (Io (Io H rfl (λh=>by rcases h with h|h<;>cases h)) rfl (λh=>by rcases h with h|h<;>cases h)) rfl (λ_=>⟨m _ (znL _),m _ (Nat.le_succ _)⟩)) rfl (λ_=>⟨m _ (by show N<=N+2;omega),m _ (by show N<=(if b then N+1 else N);split<;>omega)⟩)
theorem zer{i:T}{e:REn}(h:Fb (λn s=>rOf n i e s) (Typ i) e):Fb (λn s=>rOf n (.bracket fr to i) e s) (Typ (.bracket fr to i)) e:=by
 refine .of (λn s a=>by simp[rOf,a]) λs f W a j=>?_;obtain⟨m,r,o,g,R⟩:=h s f W (λh=>by rw[a]at h;cases h) (λ_=>j);exact⟨m,r,o,λn k=>by simp only[rOf,a];exact g n k,{R with sound:=λa v b=>⟨(R.sound a v b).1,.bracket (R.sound a v b).2⟩,complete:=λa v d b c=>by cases c with|bracket c=>exact R.complete a v d b c}⟩
theorem znp{e:REn}(F:Fb (λn s=>rOf n l e s) (Typ l) e)(G:Fb (λn s=>rOf n r e s) (Typ r) e):Fb (λn s=>rOf n (.pair fr to l r) e s) (Typ (.pair fr to l r)) e:=by
 refine .of (λn s a=>by simp[rOf,a]) λs B W a I=>?_;obtain⟨N,P,Y,Q,p,E,R⟩:=Wd F G s B W (λh=>by rw[a]at h;cases h) (λ_=>I);obtain⟨C,q⟩:=R.wf;have Z:=R.lt1;have w2:=R.lt2;refine⟨N,p.l.length,p.put ⟨42,P,Q,none⟩,λn J=>?_,⟨⟨C,Hc q rfl sM (λ_=>⟨R.lt1,R.lt2⟩)⟩,by simp[RS.put],by have:=R.low;simp[RS.put];omega,λh=>R.bad h,λi v j=>?_,λ_ v X j M=>?_,λi D z A g=>?_⟩⟩
 ·obtain⟨m,o⟩:=E n J;simp only[rOf,a,xA,if_false,m,o,zbS]
 ·obtain⟨S,c⟩:=Ek.1 j;obtain⟨b,d,f⟩:=R.sound i v S;exact⟨b,by rw[Tr.1 c];exact .pair d f⟩
 ·cases M with
  |pair hl hr=>
   obtain⟨y,V,x,U,m,o⟩:=R.complete a v _ _ j hl hr;refine⟨y,upd V p.l.length _,λO L=>?_,Ce q U (Tr.2 ?_),B8 _ _ _⟩
   ·rw[Da (by have:=R.low;omega)];exact x O L
   ·rw[B8,Da oM,Da oM,m,o]
 ·obtain⟨b,d,f,w⟩:=R.frame i D z A g;have low:=R.low;refine⟨λk t=>?_,Io d rfl (λ_=>⟨f,w⟩),λH=>by have:=g _ H;omega⟩;rw[<-b k t];exact iA (by have:=g k t;omega)
theorem znq{e:REn}(h1:Fb (λn s=>rOf n l e s) (Typ l) e)(h2:Fb (λn s=>rOf n r e s) (Typ r) e):Fb (λn s=>rOf n (.call fr to l r) e s) (Typ (.call fr to l r)) e:=by
 refine .of (λn s hb=>by simp[rOf,hb]) λs f W hb he=>?_;obtain⟨n0,r1,s1,r2,s2,g,R⟩:=Wd h1 h2 s f W (λh=>by rw[hb]at h;cases h) (λ_=>he);obtain⟨f2,W2⟩:=R.wf;have w1:=R.lt1;have w2:=R.lt2;have low:=R.low;obtain⟨N,hN⟩:∃N,s2.l.length=N:=⟨_,rfl⟩;have l1:(s2.l++[(⟨118,0,0,none⟩:RC)]).length=N+1:=by simp[hN]
 have l2:(s2.l++[(⟨118,0,0,none⟩:RC)]++[(⟨62,r2,N,none⟩:RC)]).length=N+2:=by simp[hN]
 have W3:=Hc W2 (c:=⟨118,0,0,none⟩) rfl sM (λh=>by rcases h with h|h<;>cases h);have W4:=Hc W3 (c:=⟨62,r2,N,none⟩) rfl sM (λ_=>by rw[l1];exact⟨by show r2<N+1;omega,by show N<N+1;omega⟩);obtain⟨n1,s3,g3,O⟩:=Hi (s:=⟨s2.l++[⟨118,0,0,none⟩]++[⟨62,r2,N,none⟩],s2.bad⟩) W4 (a:=r1) (b:=N+1) (by show r1<_;rw[l2];omega) (by show N+1<_;rw[l2];omega);have len3:s3.l.length=N+2:=O.len.trans l2;refine⟨n0+n1,N,s3,λn hn=>?_,⟨O.wf,oM,oM,λh=>R.bad (O.bad h),λhb' v hv=>?_,λ_ v a hv ht=>?_,λhb' D d1 d2 d3=>?_⟩⟩
 ·obtain⟨q1,q2⟩:=g n oM;have q3:=g3 n oM;simp only[rOf,hb,xA,if_false,q1,q2,zbS,RS.put,hN,q3]
 ·obtain⟨k1,k2⟩:=O.sound hb' v hv;obtain⟨k3,c⟩:=Ek.1 k1;obtain⟨k4,_⟩:=Ek.1 k3;obtain⟨a1,a2,a3⟩:=R.sound (O.bad hb') v k4;rw[l1]at c;rw[Tq.1 c]at k2;rw[k2]at a2;exact⟨a1,.call a2 a3⟩
 ·cases ht with
  |@call _ _ _ _ _ x _ hf hx=>
   obtain⟨b2,v2,ag,sv,q1,q2⟩:=R.complete hb v _ _ hv hf hx;have m1:=Ce W2 (a:=a) sv (M9 _ _);rw[hN]at m1;have m2:=Ce W3 (c:=⟨62,r2,N,none⟩) (a:=.fn x a) m1 (by rw[l1,Tq,B8,Da oM,Da oM,Da oM,B8,q2]);rw[l1]at m2;obtain⟨b3,m3⟩:=O.complete b2 _ m2 (by rw[Da oM,Da oM,B8];exact q1);refine⟨b3,_,λq hq=>?_,m3,by rw[Da oM,B8]⟩;rw[Da oM,Da oM];exact ag q hq
 ·obtain⟨a1,a2,a3,a4⟩:=R.frame (O.bad hb') D d1 d2 d3;have nD:∀k,N<=k->¬D k:=λk hk hd=>by have:=d3 k hd;omega
  obtain⟨b1,b2⟩:=O.frame D (Io (Io a2 rfl (λh=>by rcases h with h|h<;>cases h)) rfl (λ_=>⟨a4,nD _ (znL _)⟩)) a3 (nD _ (Nat.le_succ _));refine⟨λk hk=>?_,b2,nD _ (znL _)⟩;rw[b1 k hk,<-a1 k hk]
  have:=d3 k hk;show(s2.l++_++_)[k]?=_;rw[iA (by rw[l1];omega),iA oM]
theorem zst{bat:Nat}{bn:zU}{b:T}{e:REn}(h:∀r,Fb (λn s=>rOf n b (.fix bn r e) s) (Typ b) (.fix bn r e)):Fb (λn s=>rOf n (.fn fr to bn bat b) e s) (Typ (.fn fr to bn bat b)) e:=by
 refine .of (λn s j=>by simp[rOf,j]) λs U W j I=>?_;obtain⟨N,p⟩:∃N,s.l.length=N:=⟨_,rfl⟩;have o:(s.l++[(⟨118,0,0,none⟩:RC)]).length=N+1:=by simp[p]
 have M:=Hc W (c:=⟨118,0,0,none⟩) rfl sM (λh=>by rcases h with h|h<;>cases h);have H:Grow e.Av s.l (s.l++[⟨118,0,0,none⟩]):=⟨sM,λv m=>(Ek.1 m).1,λD A B f=>⟨λk g=>iA (f k g),Io A rfl (λh=>by rcases h with h|h<;>cases h)⟩⟩;have G:∀x∈(REn.fix bn N e).Av,x∈e.Av\/s.l.length<=x:=λx d=>by
  rcases zmA.1 d with d|d
  ·exact .inl d
  ·simp at d;right;omega
 have Q:EOk (REn.fix bn N e).Av (s.l++[⟨118,0,0,none⟩]) (.fix bn N e):=⟨by rw[o];omega,(I.more G).grow H (λx d=>.inl (zmA.2 (.inl d)))⟩;obtain⟨n0,r,t,X,R⟩:=h N ⟨s.l++[⟨118,0,0,none⟩],s.bad⟩ U M (λh=>by rw[o];omega) (λ_=>Q);obtain⟨V,F⟩:=R.wf;have low:N+1<=t.l.length:=by have:=R.low;rw[<-o];exact this
 have w1:=R.lt;refine⟨n0,t.l.length,t.put ⟨62,N,r,none⟩,λn hn=>?_,⟨⟨V,Hc F rfl sM (λ_=>⟨by show N<_;omega,R.lt⟩)⟩,by simp[RS.put],by simp[RS.put];omega,λh=>R.bad h,λC v m=>?_,λ_ v a m E=>?_,λC D A B f=>?_⟩⟩
 ·have q:=X n hn;simp only[rOf,j,xA,if_false,RS.put,p];simp only[j]at q;rw[q];rfl
 ·obtain⟨a0,c⟩:=Ek.1 m;obtain⟨w,y⟩:=R.sound C v a0;exact⟨(Ek.1 w).1,by rw[Tq.1 c];exact .fn y⟩
 ·cases E with
  |@fn _ _ _ _ _ _ a c E=>
   have J:=Ce W (a:=a) m (M9 _ _);rw[p]at J;have S:(REn.fix bn N e).val (upd v N a)=.fix bn a (e.val v):=by
    simp only[REn.val,B8];rw[Dg I (by rw[p];exact Kq v N a)]
   obtain⟨P,L,z,sv,q⟩:=R.complete j _ c J (by rw[S];exact E);simp only[o]at z;have a1:L N=a:=(by rw[z N oM,B8]);refine⟨P,upd L t.l.length (.fn a c),λq hq=>?_,Ce F sv (Tq.2 ?_),B8 _ _ _⟩
   ·rw[Da oM,z q oM,Da oM]
   ·rw[B8,Da oM,Da oM,q,a1]
 ·obtain⟨Y,Z⟩:=H.frame D A B f;obtain⟨w,y,O⟩:=R.frame C D Z (λx d i=>(G x d).elim (λh=>B x h i) (λh=>by have:=f x i;omega)) (λk g=>by have:=f k g;rw[o];omega);refine⟨λk g=>?_,Io y rfl (λ_=>⟨λi=>by have:=f N i;omega,O⟩),λi=>by have:=f _ i;omega⟩;rw[<-Y k g,<-w k g];exact iA (by have:=f k g;omega)
end
section
variable{fr to bat:Nat}{e:REn}{t d b:T}{bn:List UInt8}
theorem zgq{sg:Int}{l r:T}(h1:Fb (λn s=>rOf n l e s) (Typ l) e)(h2:Fb (λn s=>rOf n r e s) (Typ r) e):Fb (λn s=>rOf n (.binary fr to sg l r) e s) (Typ (.binary fr to sg l r)) e:=by
 refine .of (λn s hb=>by simp[rOf,hb]) λs f W hb he=>?_;obtain⟨n0,r1,s1,r2,s2,g,R⟩:=Wd h1 h2 s f W (λh=>by rw[hb]at h;cases h) (λ_=>he);obtain⟨f2,W2⟩:=R.wf;have w1:=R.lt1;have w2:=R.lt2;have low:=R.low;obtain⟨N,hN⟩:∃N,s2.l.length=N:=⟨_,rfl⟩;have l1:(s2.l++[(⟨105,0,0,none⟩:RC)]).length=N+1:=by simp[hN]
 have W3:=Hc W2 (c:=⟨105,0,0,none⟩) rfl sM (λh=>by rcases h with h|h<;>cases h);obtain⟨n1,s3,g3,O⟩:=Hi (s:=⟨s2.l++[⟨105,0,0,none⟩],s2.bad⟩) W3 (a:=r1) (b:=N) (by show r1<_;rw[l1];omega) (by show N<_;rw[l1];omega);have len3:s3.l.length=N+1:=O.len.trans l1;obtain⟨f3,W4⟩:=O.wf;obtain⟨n2,s4,g4,P⟩:=Hi (s:=s3) W4 (a:=r2) (b:=N) oM oM;have len4:s4.l.length=N+1:=P.len.trans len3;obtain⟨f4,W5⟩:=P.wf;have snd:s4.bad=false->∀v,Sat s4.l v->Sat s.l v/\Typ l (e.val v) .int/\Typ r (e.val v) .int/\v N=.int:=λhb' v hv=>by
  obtain⟨p1,p2⟩:=P.sound hb' v hv;obtain⟨k1,k2⟩:=O.sound (P.bad hb') v p1;obtain⟨k3,c⟩:=Ek.1 k1;obtain⟨a1,a2,a3⟩:=R.sound (O.bad (P.bad hb')) v k3;rw[hN]at c;have vi:=zav.1 c;rw[k2,vi]at a2;rw[p2,vi]at a3;exact⟨a1,a2,a3,vi⟩
 have cmp:∀v,Sat s.l v->Typ l (e.val v) .int->Typ r (e.val v) .int->s4.bad=false/\∃v',I9 s.l.length v v'/\Sat s4.l v'/\v' N=.int:=λv hv hl hr=>by
  obtain⟨b2,v2,ag,sv,q1,q2⟩:=R.complete hb v _ _ hv hl hr;have m1:=Ce W2 (c:=⟨105,0,0,none⟩) (a:=.int) sv (by rw[zav,B8]);rw[hN]at m1;obtain⟨b3,m3⟩:=O.complete b2 _ m1 (by rw[B8,Da oM];exact q1);obtain⟨b4,m4⟩:=P.complete b3 _ m3 (by rw[B8,Da oM];exact q2);refine⟨b4,_,λq hq=>?_,m4,B8 _ _ _⟩;rw[Da oM];exact ag q hq
 have frm:s4.bad=false->∀D:Nat->Prop,Cl D s.l->(∀x∈e.Av,¬D x)->(∀k,D k->k<s.l.length)->(∀k,D k->s4.l[k]?=s.l[k]?)/\Cl D s4.l/\∀k,N<=k->¬D k:=λhb' D d1 d2 d3=>by
  obtain⟨a1,a2,a3,a4⟩:=R.frame (O.bad (P.bad hb')) D d1 d2 d3;have nD:∀k,N<=k->¬D k:=λk hk hd=>by have:=d3 k hd;omega
  obtain⟨b1,b2⟩:=O.frame D (Io a2 rfl (λh=>by rcases h with h|h<;>cases h)) a3 (nD _ (znL _));obtain⟨c1,c2⟩:=P.frame D b2 a4 (nD _ (znL _));refine⟨λk hk=>?_,c2,nD⟩;rw[c1 k hk,b1 k hk,<-a1 k hk];exact iA (by have:=d3 k hk;omega)
 have run:∀n,n0+n1+n2<=n->rOf n (.binary fr to sg l r) e s=if sg=23\/sg=15 then some (s4.l.length,s4.put ⟨98,0,0,none⟩)else some (N,s4):=λn hn=>by
  obtain⟨q1,q2⟩:=g n oM;have q3:=g3 n oM;have q4:=g4 n oM;simp only[rOf,hb,xA,if_false,q1,q2,zbS,RS.put,hN,q3,q4]
 by_cases hsg:sg=23\/sg=15
 ·refine⟨n0+n1+n2,s4.l.length,s4.put ⟨98,0,0,none⟩,λn hn=>by show rOf n _ e s=_;rw[run n hn,mA hsg],⟨⟨f4,Hc W5 rfl sM (λh=>by rcases h with h|h<;>cases h)⟩,by simp[RS.put],by simp[RS.put];omega,λh=>R.bad (O.bad (P.bad h)),λhb' v hv=>?_,λ_ v a hv ht=>?_,λhb' D d1 d2 d3=>?_⟩⟩
  ·obtain⟨h1,c⟩:=Ek.1 hv;obtain⟨a1,a2,a3,_⟩:=snd hb' v h1;refine⟨a1,?_⟩
   have:=@Typ.binary fr to sg l r (e.val v) a2 a3;rw[mA hsg]at this;rw[P0.1 c];exact this
  ·obtain⟨a',ha'⟩:∃a',a=a':=⟨_,rfl⟩;rw[ha']at ht;have e0:a'=.bool:=(by cases ht with|binary hl hr=>rw[mA hsg]);cases ht with
   |binary hl hr=>
    obtain⟨b4,v',ag,sv,_⟩:=cmp v hv hl hr;refine⟨b4,upd v' s4.l.length .bool,λq hq=>?_,Ce W5 sv (P0.2 (B8 _ _ _)),by rw[B8,ha',e0]⟩;rw[Da oM];exact ag q hq
  ·obtain⟨b1,b2,b3⟩:=frm hb' D d1 d2 d3;refine⟨λk hk=>?_,Io b2 rfl (λh=>by rcases h with h|h<;>cases h),b3 _ oM⟩;rw[<-b1 k hk];exact iA (by have:=d3 k hk;omega)
 ·refine⟨n0+n1+n2,N,s4,λn hn=>by show rOf n _ e s=_;rw[run n hn,jA hsg],⟨⟨f4,W5⟩,oM,oM,λh=>R.bad (O.bad (P.bad h)),λhb' v hv=>?_,λ_ v a hv ht=>?_,λhb' D d1 d2 d3=>?_⟩⟩
  ·obtain⟨a1,a2,a3,a4⟩:=snd hb' v hv;refine⟨a1,?_⟩
   have:=@Typ.binary fr to sg l r (e.val v) a2 a3;rw[jA hsg]at this;rw[a4];exact this
  ·obtain⟨a',ha'⟩:∃a',a=a':=⟨_,rfl⟩;rw[ha']at ht;have e0:a'=.int:=(by cases ht with|binary hl hr=>rw[jA hsg]);cases ht with
   |binary hl hr=>
    obtain⟨b4,v',ag,sv,q⟩:=cmp v hv hl hr;exact⟨b4,v',ag,sv,by rw[q,ha',e0]⟩
  ·obtain⟨b1,b2,b3⟩:=frm hb' D d1 d2 d3;exact⟨b1,b2,b3 _ (znL _)⟩
theorem znr{c g:T}(h0:Fb (λn s=>rOf n c e s) (Typ c) e)(h1:Fb (λn s=>rOf n t e s) (Typ t) e)(h2:Fb (λn s=>rOf n g e s) (Typ g) e):Fb (λn s=>rOf n (.cond fr to c t g) e s) (Typ (.cond fr to c t g)) e:=by
 refine .of (λn s hb=>by simp[rOf,hb]) λs f W hb he=>?_;obtain⟨n0,r0,s0,g0,Q⟩:=h0 s f W (λh=>by rw[hb]at h;cases h) (λ_=>he);obtain⟨f0,W0⟩:=Q.wf;have q1:=Q.lt;have q2:=Q.low;obtain⟨N,hN⟩:∃N,s0.l.length=N:=⟨_,rfl⟩;have l1:(s0.l++[(⟨98,0,0,none⟩:RC)]).length=N+1:=by simp[hN]
 have W1:=Hc W0 (c:=⟨98,0,0,none⟩) rfl sM (λh=>by rcases h with h|h<;>cases h);obtain⟨n1,s1,g1,O⟩:=Hi (s:=⟨s0.l++[⟨98,0,0,none⟩],s0.bad⟩) W1 (a:=r0) (b:=N) (by show r0<_;rw[l1];omega) (by show N<_;rw[l1];omega);have len1:s1.l.length=N+1:=O.len.trans l1;obtain⟨f1,W2⟩:=O.wf;have frm:s1.bad=false->∀D:Nat->Prop,Cl D s.l->(∀x∈e.Av,¬D x)->(∀k,D k->k<s.l.length)->(∀k,D k->s1.l[k]?=s.l[k]?)/\Cl D s1.l:=λhb' D d1 d2 d3=>by
  obtain⟨a1,a2,a3⟩:=Q.frame (O.bad hb') D d1 d2 d3;have nD:∀k,N<=k->¬D k:=λk hk hd=>by have:=d3 k hd;omega
  obtain⟨b1,b2⟩:=O.frame D (Io a2 rfl (λh=>by rcases h with h|h<;>cases h)) a3 (nD _ (znL _));refine⟨λk hk=>?_,b2⟩;rw[b1 k hk,<-a1 k hk];exact iA (by have:=d3 k hk;omega)
 have snd:s1.bad=false->∀v,Sat s1.l v->Sat s.l v/\Typ c (e.val v) .bool:=λhb' v hv=>by
  obtain⟨k1,k2⟩:=O.sound hb' v hv;obtain⟨k3,cc⟩:=Ek.1 k1;obtain⟨a1,a2⟩:=Q.sound (O.bad hb') v k3;rw[hN]at cc;rw[k2,P0.1 cc]at a2;exact⟨a1,a2⟩
 have e1:s1.bad=false->EOk e.Av s1.l e:=λhb'=>he.grow ⟨oM,λv hv=>(snd hb' v hv).1,frm hb'⟩ (λx hx=>.inl hx);obtain⟨n2,r1,s2,r2,s3,g2,R⟩:=Wd h1 h2 s1 f1 W2 (λ_=>oM) e1;obtain⟨f3,W3⟩:=R.wf;obtain⟨n3,s4,g4,P⟩:=Hi (s:=s3) W3 (a:=r1) (b:=r2) R.lt1 R.lt2;have low:=R.low;have w1:=R.lt1;have len4:=P.len;refine⟨n0+n1+n2+n3,r1,s4,λn hn=>?_,⟨P.wf,oM,oM,λh=>Q.bad (O.bad (R.bad (P.bad h))),λhb' v hv=>?_,λ_ v a hv ht=>?_,λhb' D d1 d2 d3=>?_⟩⟩
 ·have k0:=g0 n oM;have k1:=g1 n oM;obtain⟨k2,k3⟩:=g2 n oM;have k4:=g4 n oM;simp only at k0;simp only[rOf,hb,xA,if_false,k0,zbS,RS.put,hN,k1,k2,k3,k4]
 ·obtain⟨p1,p2⟩:=P.sound hb' v hv;obtain⟨a1,a2,a3⟩:=R.sound (P.bad hb') v p1;obtain⟨c1,c2⟩:=snd (R.bad (P.bad hb')) v a1;rw[<-p2]at a3;exact⟨c1,.cond c2 a2 a3⟩
 ·cases ht with
  |cond hc ht hf=>
   obtain⟨b0,v0,ag0,sv0,y0⟩:=Q.complete hb v _ hv hc;have m1:=Ce W0 (c:=⟨98,0,0,none⟩) (a:=.bool) sv0 (by rw[P0,B8]);rw[hN]at m1;obtain⟨b1,m2⟩:=O.complete b0 _ m1 (by rw[B8,Da oM];exact y0);have ag1:I9 s.l.length v (upd v0 N .bool):=λq hq=>(by rw[Da oM];exact ag0 q hq);have ev:=Dg he ag1;obtain⟨b2,v2,ag2,sv2,y1,y2⟩:=R.complete b1 _ a a m2 (by rw[ev];exact ht) (by rw[ev];exact hf);obtain⟨b3,m3⟩:=P.complete b2 v2 sv2 (y1.trans y2.symm);exact⟨b3,v2,ag1.trans ag2 oM,m3,y1⟩
 ·obtain⟨a1,a2⟩:=frm (R.bad (P.bad hb')) D d1 d2 d3;obtain⟨b1,b2,b3,b4⟩:=R.frame (P.bad hb') D a2 d2 (λk hk=>by have:=d3 k hk;omega);obtain⟨c1,c2⟩:=P.frame D b2 b3 b4;exact⟨λk hk=>(c1 k hk).trans ((b1 k hk).trans (a1 k hk)),c2,b3⟩
theorem zax{l c:List RC}{j:Nat->Nat}(n:Wf c j){r:Nat}(k:EOk e.Av l e)(y:r<c.length)(z:l.length<=c.length)(m:∀v,Sat c v->Sat l v/\Og t (e.val v) (v r))(w:∀v a,Sat l v->Og t (e.val v) a->∃g,I9 l.length v g/\Sat c g/\g r=a):zom e.Av c r t e c where
 low:=znL _
 lt:=y
 Av:=λx f=>by have:=k.Av x f;omega
 sat:=λ_ o=>o
 dead:=λ_ _=>rfl
 cl:=Wb _ _
 apart:=λx f h=>h.2 (.base f)
 wf:=⟨j,n⟩
 sound:=λv i=>(m v i).2
 complete:=λv a i h=>by
  obtain⟨g,p,q,s⟩:=w v a (m v i).1 h;exact⟨g,q,λx f=>p x (k.Av x f),s⟩
theorem zgr{rc:Bool}(U:∀r,Fb (λn s=>rOf n b (.dfn bn r (.Am fr to rc bn bat d b) e) s) (Typ b) (.dfn bn r (.Am fr to rc bn bat d b) e))
  {s s1:RS} {G:Nat->Nat} (B:Wf s1.l G) {r:Nat} (V:r<s1.l.length) (p:EOk e.Av s.l e) (W:s.bad=false) (q:s.l.length<=s1.l.length)
  (w:s1.bad=false->∀v,Sat s1.l v->Sat s.l v/\Og (.Am fr to rc bn bat d b) (e.val v) (v r))
  (H:∀v a,Sat s.l v->Og (.Am fr to rc bn bat d b) (e.val v) a->s1.bad=false/\∃A,I9 s.l.length v A/\Sat s1.l A/\A r=a)
  (I:s1.bad=false->∀D:Nat->Prop,Cl D s.l->(∀x∈e.Av,¬D x)->(∀k,D k->k<s.l.length)->(∀k,D k->s1.l[k]?=s.l[k]?)/\Cl D s1.l) :
  ∃z i j,(∀n,z<=n->rOf n b (.dfn bn r (.Am fr to rc bn bat d b) e) s1=some (i,j))/\ROk (Typ (.Am fr to rc bn bat d b)) e s j i:=by
 have P:s1.bad=false->EOk e.Av s1.l e:=λh=>p.grow ⟨q,λv c=>(w h v c).1,I h⟩ (λx X=>.inl X);obtain⟨z,i,j,Q,R⟩:=U r s1 G B (λ_=>oM) (λh=>⟨⟨s1.l,zax B p V q (w h) (λv a c S=>(H v a c S).2)⟩,P h⟩);have low:=R.low;refine⟨z,i,j,Q,⟨R.wf,R.lt,oM,λ_=>W,λh v c=>?_,λ_ v a c y=>?_,λh D O E F=>?_⟩⟩
 ·obtain⟨l,m⟩:=R.sound h v c;obtain⟨f,o⟩:=w (R.bad h) v l;exact⟨f,.Am o m⟩
 ·cases y with
  |Am hd y=>
   obtain⟨N,J,C,Z,_⟩:=H v _ c hd;obtain⟨f,v2,L,a0,Y⟩:=R.complete N J a Z (by
    show Typ b (.dfn bn _ (e.val J)) a;rw[Dg p C];exact y)
   exact⟨f,v2,C.trans L q,a0,Y⟩
 ·obtain⟨l,m⟩:=I (R.bad h) D O E F;obtain⟨f,o,M⟩:=R.frame h D m E (λk g=>by have:=F k g;omega);exact⟨λk g=>(f k g).trans (l k g),o,M⟩
theorem zqc(y:Fb (λn s=>rOf n d e s) (Typ d) e)(f:∀r,Fb (λn s=>rOf n b (.dfn bn r (.Am fr to false bn bat d b) e) s) (Typ b) (.dfn bn r (.Am fr to false bn bat d b) e)):
  Fb (λn s=>rOf n (.Am fr to false bn bat d b) e s) (Typ (.Am fr to false bn bat d b)) e:=by
 refine .of (λn s f=>by simp[rOf,f]) λs q W a l=>?_;obtain⟨A,r,H,w,Q⟩:=y s q W (λh=>by rw[a]at h;cases h) (λ_=>l);obtain⟨F,o⟩:=Q.wf;obtain⟨B,C,E,x,R⟩:=zgr f o Q.lt l a Q.low (λh v c=>⟨(Q.sound h v c).1,.plain (Q.sound h v c).2⟩) (λv p c g=>by cases g with|plain g=>exact Q.complete a v p c g) (λh D i j k=>⟨(Q.frame h D i j k).1,(Q.frame h D i j k).2.1⟩);refine⟨A+B,C,E,λn G=>?_,R⟩;have m:=w n oM;have z:=x n oM;simp only at m;simp only[rOf,a,xA,if_false,m,zbS,z]
theorem zqd(hd:∀r,Fb (λn s=>rOf n d (.fix bn r e) s) (Typ d) (.fix bn r e))(hb:∀r,Fb (λn s=>rOf n b (.dfn bn r (.Am fr to true bn bat d b) e) s) (Typ b) (.dfn bn r (.Am fr to true bn bat d b) e)):
  Fb (λn s=>rOf n (.Am fr to true bn bat d b) e s) (Typ (.Am fr to true bn bat d b)) e:=by
 refine .of (λn s hb=>by simp[rOf,hb]) λs f W hsb he=>?_;obtain⟨N,hN⟩:∃N,s.l.length=N:=⟨_,rfl⟩;have l1:(s.l++[(⟨118,0,0,none⟩:RC)]).length=N+1:=by simp[hN]
 have W1:=Hc W (c:=⟨118,0,0,none⟩) rfl sM (λh=>by rcases h with h|h<;>cases h);have gr:Grow e.Av s.l (s.l++[⟨118,0,0,none⟩]):=⟨sM,λv hv=>(Ek.1 hv).1,λD d1 d2 d3=>⟨λk hk=>iA (d3 k hk),Io d1 rfl (λh=>by rcases h with h|h<;>cases h)⟩⟩;have fx:∀x∈(REn.fix bn N e).Av,x∈e.Av\/s.l.length<=x:=λx hx=>by
  rcases zmA.1 hx with hx|hx
  ·exact .inl hx
  ·simp at hx;right;omega
 have e1:EOk (REn.fix bn N e).Av (s.l++[⟨118,0,0,none⟩]) (.fix bn N e):=⟨by rw[l1];omega,(he.more fx).grow gr (λx hx=>.inl (zmA.2 (.inl hx)))⟩;obtain⟨n0,r,s2,g,Q⟩:=hd N ⟨s.l++[⟨118,0,0,none⟩],s.bad⟩ f W1 (λh=>by rw[l1];omega) (λ_=>e1);obtain⟨f2,W2⟩:=Q.wf;have low:N+1<=s2.l.length:=by have:=Q.low;rw[<-l1];exact this
 obtain⟨n1,s3,g1,O⟩:=Hi (s:=s2) W2 (a:=N) (b:=r) oM Q.lt;obtain⟨f3,W3⟩:=O.wf;have len:=O.len;obtain⟨n2,r',s',g2,R⟩:=zgr hb (s:=s) (s1:=s3) (r:=N) W3 oM he hsb oM (λh v hv=>by
   obtain⟨o1,o2⟩:=O.sound h v hv;obtain⟨q1,q2⟩:=Q.sound (O.bad h) v o1;rw[<-o2]at q2;exact⟨(Ek.1 q1).1,.zon q2⟩) (λv a hv ht=>by
   cases ht with
   |zon ht=>
    have m1:=Ce W (a:=a) hv (M9 _ _);rw[hN]at m1;have ev:(REn.fix bn N e).val (upd v N a)=.fix bn a (e.val v):=by
     simp only[REn.val,B8];rw[Dg he (by rw[hN];exact Kq v N a)]
    obtain⟨b2,v2,ag,sv,q⟩:=Q.complete hsb _ a m1 (by rw[ev];exact ht);simp only[l1]at ag;have vN:v2 N=a:=(by rw[ag N oM,B8]);obtain⟨b3,m3⟩:=O.complete b2 v2 sv (vN.trans q.symm);exact⟨b3,v2,λq hq=>by rw[ag q oM,Da oM],m3,vN⟩) (λh D d1 d2 d3=>by
   obtain⟨g1,g2⟩:=gr.frame D d1 d2 d3;obtain⟨a1,a2,a3⟩:=Q.frame (O.bad h) D g2 (λx hx hd=>(fx x hx).elim (λh=>d2 x h hd) (λh=>by have:=d3 x hd;omega)) (λk hk=>by have:=d3 k hk;rw[l1];omega);obtain⟨b1,b2⟩:=O.frame D a2 (λhd=>by have:=d3 N hd;omega) a3;exact⟨λk hk=>(b1 k hk).trans ((a1 k hk).trans (g1 k hk)),b2⟩)
 refine⟨n0+n1+n2,r',s',λn hn=>?_,R⟩;have k0:=g n oM;have k1:=g1 n oM;have k2:=g2 n oM;simp only[hsb]at k0;simp only[rOf,hsb,xA,if_false,if_true,RS.put,hN,k0,zbS,k1,k2]
theorem Ez{a b:Option Nat}(h:a.or b=none):a=none/\b=none:=by
 cases a<;>simp_all
theorem Dt:∀(t:T) (e:REn),t.freeS e.names=none->Fb (λn s=>rOf n t e s) (Typ t) e
 |.name fr to x,e,h=>znn fr to x e h
 |.int fr to v,e,_=>zaw ⟨105,0,0,none⟩ .int (.inl ⟨rfl,rfl⟩) (λn s g=>by simp[rOf,g]) (λn s g=>by simp[rOf,g]) (λe a=>⟨λh=>by cases h;rfl,λh=>by rw[h];exact .int⟩)
 |.Ak fr to b,e,_=>zaw ⟨98,0,0,none⟩ .bool (.inr ⟨rfl,rfl⟩) (λn s g=>by simp[rOf,g]) (λn s g=>by simp[rOf,g]) (λe a=>⟨λh=>by cases h;rfl,λh=>by rw[h];exact .Ak⟩)
 |.side fr to b,e,_=>zno fr to b e
 |.bracket fr to i,e,h=>zer (Dt i e h)
 |.pair fr to l r,e,h=>znp (Dt l e (Ez h).1) (Dt r e (Ez h).2)
 |.call fr to l r,e,h=>znq (Dt l e (Ez h).1) (Dt r e (Ez h).2)
 |.binary fr to s l r,e,h=>zgq (Dt l e (Ez h).1) (Dt r e (Ez h).2)
 |.cond fr to c t f,e,h=>znr (Dt c e (Ez (Ez h).1).1) (Dt t e (Ez (Ez h).1).2) (Dt f e (Ez h).2)
 |.fn fr to bn bat b,e,h=>zst λr=>Dt b (.fix bn r e) h
 |.Am fr to rc bn bat d b,e,h=>by
  have j:=Ez h;cases rc with
  |false=>exact zqc (Dt d e j.1) λr=>Dt b (.dfn bn r _ e) j.2
  |true=>exact zqd (λr=>Dt d (.fix bn r e) j.1) λr=>Dt b (.dfn bn r _ e) j.2
end
section
variable{l:List RC}{p:Nat}
def Hu:Nat->List RC->List Int->Nat->Option (Bool×List Int)
 |0,_,_,_=>none
 |n+1,l,st,k=>(endS n l k).bind λk=>st[k]?.bind λm=>if m=2 then some (false,st)else if m=1 then some (true,st)else l[k]?.bind λt=>
  if t.sort=62\/t.sort=42 then(Hu n l (st.set k 1) t.a).bind λa=>if a.1 then some (true,a.2)else(Hu n l a.2 t.b).bind λb=>if b.1 then some (true,b.2)else some (false,b.2.set k 2)
  else some (false,(st.set k 1).set k 2)
def Mu(n:Nat)(l:List RC):Nat->Nat->List Int->Option Bool
 |0,_,_=>some false
 |m+1,i,st=>(Hu n l st i).bind λr=>if r.1 then some true else Mu n l m (i+1) r.2
structure Mks(l:List RC)(mk:List Int):Prop where
 len:mk.length=l.length
 val:∀(p:Nat) (m:Int),mk[p]?=some m->m=0\/m=1\/m=2
 done:∀p:Nat,mk[p]?=some 2->∃a,Fin l p a
theorem Fin.move{k:Nat}{a:Ty}(h:Fin l p a)(b:End l k p):Fin l k a:=by
 have c:∀ {q},End l p q->End l k q:=λh=>by rw[<-b.self.unique h];exact b
 cases h with
 |var he' hx hs=>have e:=b.self.unique he';subst e;exact .var b hx hs
 |int he' hx hs=>exact .int (c he') hx hs
 |bool he' hx hs=>exact .bool (c he') hx hs
 |fn he' hx hs ha hb=>exact .fn (c he') hx hs ha hb
 |pair he' hx hs ha hb=>exact .pair (c he') hx hs ha hb
theorem zc4{c:RC}{v:Nat->Ty}(s:Sat l v)(a:l[p]?=some c)(b:c.comp):(v c.a).size<(v p).size/\(v c.b).size<(v p).size:=by
 rcases b with h|h
 ·rw[(s p c a).fn h];simp only[Ty.size];omega
 ·rw[(s p c a).pair h];simp only[Ty.size];omega
theorem zjw{f:Nat->Nat}(W:Wf l f):∀(z:Nat) {st:List Int} {k:Nat},Mks l st->Ke st<=z->k<l.length->(∀v:Nat->Ty,Sat l v->∀p:Nat,st[p]?=some 1->(v k).size<(v p).size) ->
  ∃n0 b st',(∀n,n0<=n->Hu n l st k=some (b,st'))/\(b=true->∀v:Nat->Ty,¬Sat l v)/\(b=false->(∃a,Fin l k a)/\Mks l st'/\(∀p:Nat,st'[p]?=some 1↔st[p]?=some 1)/\Ke st'<=Ke st/\∀p:Nat,st[p]?=some 2->st'[p]?=some 2):=by
 intro z
 induction z with
 |zero=>
  intro st k M hz G D;obtain⟨x,ex,q⟩:=Qq W (f k+1) k oM G;obtain⟨m,d⟩:∃m,st[x]?=some m:=⟨_,fA (by rw[M.len];exact ex.lt.2)⟩;rcases M.val x m d with rfl|rfl|rfl
  ·exact absurd (Th (m:=1) d dZ) oM
  ·refine⟨f k+2,true,st,λn y=>?_,λ_ v s=>?_,λh=>(by cases h)⟩
   ·obtain⟨n,rfl⟩:∃e,n=e+1:=⟨n-1,oM⟩;simp[Hu,q n oM,d]
   ·have:=D v s x d;rw[s.end ex]at this;omega
  ·refine⟨f k+2,false,st,λn y=>?_,λh=>(by cases h),λ_=>?_⟩
   ·obtain⟨n,rfl⟩:∃e,n=e+1:=⟨n-1,oM⟩;simp[Hu,q n oM,d]
   ·obtain⟨a,j⟩:=M.done x d;exact⟨⟨a,j.move ex⟩,M,λ_=>Iff.rfl,znL _,λ_ h=>h⟩
 |succ z ih=>
  intro st k M hz G D;obtain⟨x,ex,q⟩:=Qq W (f k+1) k oM G;obtain⟨m,d⟩:∃m,st[x]?=some m:=⟨_,fA (by rw[M.len];exact ex.lt.2)⟩;rcases M.val x m d with rfl|rfl|rfl
  ·obtain⟨c,i,a1⟩:=ex.root;have Q:x<st.length:=(by rw[M.len];exact ex.lt.2);have z1:=Th (m:=1) d dZ;have r:=λt=>Tw.Gp (m:=1) Q t;by_cases o:c.sort=62\/c.sort=42
   ·obtain⟨pa,pb⟩:=W.parts x c i o;have U:Mks l (st.set x 1):=⟨by rw[jB];exact M.len,λp m h=>by
     rw[r]at h;split at h
     ·cases h;exact .inr (.inl rfl)
     ·exact M.val p m h,λp h=>by
     rw[r]at h;split at h
     ·cases h
     ·exact M.done p h⟩
    have R:∀I,(∀v:Nat->Ty,Sat l v->(v I).size<(v x).size)->∀w:List Int,(∀p:Nat,w[p]?=some 1↔(st.set x 1)[p]?=some 1)->∀v:Nat->Ty,Sat l v->∀p:Nat,w[p]?=some 1->(v I).size<(v p).size:=λI hj w Z v s p H=>by
     have:=hj v s;rw[Z,r]at H;split at H
     ·rename_i g;rw[g];exact this
     ·have h3:=D v s p H;rw[s.end ex]at h3;omega
    obtain⟨J,X,a0,F,y1,o1⟩:=ih U oM pa (R c.a (λv s=>(zc4 s i o).1) _ (λ_=>Iff.rfl));cases X with
    |true=>
     refine⟨J+f k+2,true,a0,λn y=>?_,λ_=>y1 rfl,λh=>(by cases h)⟩;obtain⟨n,rfl⟩:∃e,n=e+1:=⟨n-1,oM⟩;simp only[Hu,q n oM,zbS,d,i,mA o,F n oM];simp
    |false=>
     obtain⟨⟨a,j⟩,V,L,z2,k2⟩:=o1 rfl;obtain⟨S,Y,w,N,y2,o2⟩:=ih V oM pb (R c.b (λv s=>(zc4 s i o).2) _ L);cases Y with
     |true=>
      refine⟨J+S+f k+2,true,w,λn y=>?_,λ_=>y2 rfl,λh=>(by cases h)⟩;obtain⟨n,rfl⟩:∃e,n=e+1:=⟨n-1,oM⟩;simp only[Hu,q n oM,zbS,d,i,mA o,F n oM,N n oM];simp
     |false=>
      obtain⟨⟨b,O⟩,E,T,z3,k3⟩:=o2 rfl;have P:w[x]?=some 1:=(T x).2 ((L x).2 (by rw[r,mA rfl]));have C:=λt=>Tw.Gp (m:=2) (mk:=w) (p:=x) (zlE.1 P).1 t;have A:∃a,Fin l x a:=by
       rcases o with h|h
       ·exact⟨_,.fn ex.self i h j O⟩
       ·exact⟨_,.pair ex.self i h j O⟩
      refine⟨J+S+f k+2,false,w.set x 2,λn y=>?_,λh=>(by cases h),λ_=>⟨?_,⟨by rw[jB];exact E.len,λp m h=>?_,λp h=>?_⟩,λp=>?_,?_,λp h=>?_⟩⟩
      ·obtain⟨n,rfl⟩:∃e,n=e+1:=⟨n-1,oM⟩;simp only[Hu,q n oM,zbS,d,i,mA o,F n oM,N n oM];simp
      ·obtain⟨a,j⟩:=A;exact⟨a,j.move ex⟩
      ·rw[C]at h;split at h
       ·cases h;exact .inr (.inr rfl)
       ·exact E.val p m h
      ·rw[C]at h;split at h
       ·rename_i g;rw[g];exact A
       ·exact E.done p h
      ·rw[C];split
       ·rename_i g;rw[g,d];simp
       ·rename_i g;rw[T,L,r,jA g]
      ·rw[Uv P dZ dZ];omega
      ·rw[C];split
       ·rfl
       ·rename_i g;exact k3 p (k2 p (by rw[r,jA g];exact h))
   ·have B:∀t,((st.set x 1).set x 2)[t]?=if t=x then some 2 else st[t]? :=λt=>by
     rw[Tw.Gp (by rw[jB];exact Q),r];split<;>rfl
    have A:∃a,Fin l x a:=by
     rcases W.sort x c i with h|h|h|h|h
     ·exact⟨_,.var ex.self i h⟩
     ·exact⟨_,.int ex.self i h⟩
     ·exact⟨_,.bool ex.self i h⟩
     ·exact absurd (.inl h) o
     ·exact absurd (.inr h) o
    refine⟨f k+2,false,(st.set x 1).set x 2,λn y=>?_,λh=>(by cases h),λ_=>⟨?_,⟨by simpa using M.len,λp m h=>?_,λp h=>?_⟩,λp=>?_,?_,λp h=>?_⟩⟩
    ·obtain⟨n,rfl⟩:∃e,n=e+1:=⟨n-1,oM⟩;simp only[Hu,q n oM,zbS,d,i,jA o];simp
    ·obtain⟨a,j⟩:=A;exact⟨a,j.move ex⟩
    ·rw[B]at h;split at h
     ·cases h;exact .inr (.inr rfl)
     ·exact M.val p m h
    ·rw[B]at h;split at h
     ·rename_i g;rw[g];exact A
     ·exact M.done p h
    ·rw[B];split
     ·rename_i g;rw[g,d];simp
     ·exact Iff.rfl
    ·rw[Uv (a:=1) (by rw[r,mA rfl]) dZ dZ];omega
    ·rw[B];split
     ·rfl
     ·exact h
  ·refine⟨f k+2,true,st,λn y=>?_,λ_ v s=>?_,λh=>(by cases h)⟩
   ·obtain⟨n,rfl⟩:∃e,n=e+1:=⟨n-1,oM⟩;simp[Hu,q n oM,d]
   ·have:=D v s x d;rw[s.end ex]at this;omega
  ·refine⟨f k+2,false,st,λn y=>?_,λh=>(by cases h),λ_=>?_⟩
   ·obtain⟨n,rfl⟩:∃e,n=e+1:=⟨n-1,oM⟩;simp[Hu,q n oM,d]
   ·obtain⟨a,j⟩:=M.done x d;exact⟨⟨a,j.move ex⟩,M,λ_=>Iff.rfl,znL _,λ_ h=>h⟩
theorem Y4{l:List RC}{f:Nat->Nat}(W:Wf l f):∀(m i:Nat) {st:List Int},Mks l st->(∀p:Nat,¬st[p]?=some 1)->i+m=l.length->(∀k,k<i->∃a,Fin l k a) ->
  ∃w b,(∀n,w<=n->Mu n l m i st=some b)/\(b=true->∀v:Nat->Ty,¬Sat l v)/\(b=false->∀k,k<l.length->∃a,Fin l k a)
 |0,i,st,_,_,hi,hF=>⟨0,false,λ_ _=>rfl,λh=>(by cases h),λ_ k s=>hF k oM⟩
 |m+1,i,st,M,h1,hi,hF=>by
  obtain⟨e,j,E,c,B,y⟩:=zjw W _ M (znL _) (k:=i) oM (λv D p t=>absurd t (h1 p));cases j with
  |true=>exact⟨e,true,λn d=>by simp[Mu,c n d],λ_=>B rfl,λh=>(by cases h)⟩
  |false=>
   obtain⟨q,g,A,_,_⟩:=y rfl;obtain⟨x,b,r,C,z⟩:=Y4 W m (i+1) g (λp h=>h1 p ((A p).1 h)) oM (λk s=>by
    by_cases o:k=i
    ·rw[o];exact q
    ·exact hF k oM)
   exact⟨e+x,b,λn d=>by simp[Mu,c n oM];exact r n oM,C,z⟩
theorem zjx{t:T}(z:t.freeS []=none):∃o r s,(∀n,o<=n->rOf n t .nil ⟨[],false⟩=some (r,s))/\(∃f,Wf s.l f)/\r<s.l.length /\
  ((s.bad=true/\∀a,¬Typ t .nil a)\/(s.bad=false/\∃b,(∀n,o<=n->Mu n s.l s.l.length 0 (List.replicate s.l.length 0)=some b)/\((b=true/\∀a,¬Typ t .nil a)\/(b=false/\∃a,Fin s.l r a/\Ws t a)))):=by
 have w:Wf [] (λ_=>0):=⟨λk c I h=>by simp at h,λk c h=>by simp at h,λk c h=>by simp at h⟩;have i:∀v,Sat [] v:=λv k c h=>by simp at h
 obtain⟨C,r,s,x,R⟩:=Dt t .nil z ⟨[],false⟩ _ w (λh=>by cases h) (λ_=>trivial);obtain⟨f,W⟩:=R.wf;obtain⟨D,b,y,G,q⟩:=Y4 W s.l.length 0 (st:=List.replicate s.l.length 0) ⟨sM,λp J h=>by simp[List.getElem?_replicate]at h;exact .inl h.2.symm,λp h=>by simp[List.getElem?_replicate]at h⟩ (λp h=>by simp[List.getElem?_replicate]at h) oM (λk H=>oM);refine⟨C+D,r,s,λn A=>x n oM,R.wf,R.lt,?_⟩;cases m:s.bad with
 |true=>
  refine .inl ⟨rfl,λa d=>?_⟩
  have:=(R.complete rfl (λ_=>.int) a (i _) d).1;rw[m]at this;cases this
 |false=>
  refine .inr ⟨rfl,b,λn A=>y n oM,?_⟩;cases b with
  |true=>
   refine .inl ⟨rfl,λa d=>?_⟩;obtain⟨_,j,_,e,_⟩:=R.complete rfl (λ_=>.int) a (i _) d;exact G rfl j e
  |false=>
   obtain⟨a,d⟩:=q rfl r R.lt;refine .inr ⟨rfl,a,d,λc=>⟨λg=>?_,λ⟨F,g⟩=>?_⟩⟩
   ·obtain⟨_,j,_,e,E⟩:=R.complete rfl (λ_=>.int) c (i _) g;exact⟨j,by rw[<-E];exact d.val e⟩
   ·obtain⟨v,e,B⟩:=zla W (q rfl) F;rw[g,<-B r a d];exact(R.sound m v e).2
end
section
variable{acc b:List UInt8}
abbrev Wr:=List Nat×zU
def app(s:Wr)(b:zU):Wr:=(s.1,s.2++b)
def rbr(a:Ty)(c:Nat):Bool:=(a.tsort==3&&decide (0<c))||(a.tsort==4&&c==2)
def C7(br:Bool)(g:Wr->Wr)(s:Wr):Wr:=if 400<s.2.length then s else if br then app (g (app s [40])) [41]else g s
def rin:Ty->Wr->Wr
 |.var p,s=>((Oi s.1 p).2,s.2++Hl (Oi s.1 p).1)
 |.int,s=>app s [105,110,116]
 |.bool,s=>app s [98,111,111,108]
 |.fn a b,s=>C7 (rbr b 0) (rin b) (app (C7 (rbr a 1) (rin a) s) [32,45,62,32])
 |.pair a b,s=>C7 (rbr b 2) (rin b) (app (C7 (rbr a 2) (rin a) s) [32,42,32])
def ze9(a:Ty):zU:=if 400<(rin a ([],[])).2.length then[46,46,46]else(rin a ([],[])).2
def Alike(s a:Wr):Prop:=s=a\/(400<s.2.length/\400<a.2.length)
theorem Kt{br:Bool}{g:Wr->Wr}(h:∀s,s.2.length<=(g s).2.length)(s:Wr):s.2.length<=(C7 br g s).2.length:=by
 unfold C7;split
 ·grind
 ·split
  ·have:=h (app s [40]);simp only[app,eA]at this ⊢;omega
  grind
theorem Fz:∀(a:Ty) (s:Wr),s.2.length<=(rin a s).2.length
 |.var p,s=>by simp[rin]
 |.int,s=>by simp[rin,app]
 |.bool,s=>by simp[rin,app]
 |.fn a b,s=>by
  have d:=Kt (br:=rbr a 1) (Fz a) s;have c:=Kt (br:=rbr b 0) (Fz b) (app (C7 (rbr a 1) (rin a) s) [32,45,62,32]);simp only[rin];simp only[app,eA]at c ⊢;omega
 |.pair a b,s=>by
  have d:=Kt (br:=rbr a 2) (Fz a) s;have c:=Kt (br:=rbr b 2) (Fz b) (app (C7 (rbr a 2) (rin a) s) [32,42,32]);simp only[rin];simp only[app,eA]at c ⊢;omega
theorem Iz(a:Ty){s:Wr}(h:400<s.2.length):wrT a s=s:=by
 cases a<;>simp[wrT,h]
theorem Qt(h:¬400<acc.length):Ei 400 acc b=acc++b:=by unfold Ei;rw[jA h]
theorem Ts(h:400<acc.length):Ei 400 acc b=acc:=by unfold Ei;rw[mA h]
theorem Alike.app{s c:Wr}(h:Alike s c)(b:zU):Alike (Rf.app s b) (c.1,Ei 400 c.2 b):=by
 rcases h with rfl|⟨e,d⟩
 ·by_cases a:400<s.2.length
  ·rw[Ts a];exact .inr ⟨by simp[Rf.app];omega,a⟩
  ·rw[Qt a];exact .inl rfl
 ·rw[Ts d];exact .inr ⟨by simp[Rf.app];omega,d⟩
theorem Qu{a:Ty}(h:∀s c,Alike s c->Alike (rin a s) (wrT a c))(br:Bool){s c:Wr}(k:Alike s c):Alike (C7 br (rin a) s) (brk br (wrT a) c):=by
 cases br with
 |false=>
  unfold C7 brk;split
  ·rename_i e;have d:400<c.2.length:=(by rcases k with rfl|k;exact e;exact k.2);rw[Iz a d];exact k
  grind
 |true=>
  unfold C7 brk;split
  ·rename_i e;have d:400<c.2.length:=(by rcases k with rfl|k;exact e;exact k.2);rw[Ts d,Iz a d,Ts d];exact k
  ·simp only[if_true];exact(h _ _ (k.app [40])).app [41]
theorem P9:∀(a:Ty) (s e:Wr),Alike s e->Alike (rin a s) (wrT a e)
 |.var p,s,e,k=>by
  rcases k with rfl|⟨d,f⟩
  ·by_cases c:400<s.2.length
   ·rw[Iz _ c];exact .inr ⟨aB c (Fz _ _),c⟩
   ·simp only[wrT,rin,jA c,Qt c];exact .inl rfl
  ·rw[Iz _ f];exact .inr ⟨aB d (Fz _ _),f⟩
 |.int,s,e,k=>by
  rcases k with rfl|⟨d,f⟩
  ·by_cases c:400<s.2.length
   ·rw[Iz _ c];exact .inr ⟨aB c (Fz _ _),c⟩
   ·simp only[wrT,rin,jA c,Qt c];exact .inl rfl
  ·rw[Iz _ f];exact .inr ⟨aB d (Fz _ _),f⟩
 |.bool,s,e,k=>by
  rcases k with rfl|⟨d,f⟩
  ·by_cases c:400<s.2.length
   ·rw[Iz _ c];exact .inr ⟨aB c (Fz _ _),c⟩
   ·simp only[wrT,rin,jA c,Qt c];exact .inl rfl
  ·rw[Iz _ f];exact .inr ⟨aB d (Fz _ _),f⟩
 |.fn a b,s,e,k=>by
  by_cases c:400<e.2.length
  ·have d:400<s.2.length:=(by rcases k with rfl|k;exact c;exact k.1);rw[Iz _ c];exact .inr ⟨aB d (Fz _ _),c⟩
  ·simp only[wrT,rin,jA c];have g:rbr a 1=(a.tsort==3):=(by simp[rbr]);have h:rbr b 0=false:=(by simp[rbr]);rw[g,h];exact Qu (P9 b) false ((Qu (P9 a) (a.tsort==3) k).app _)
 |.pair a b,s,e,k=>by
  by_cases c:400<e.2.length
  ·have d:400<s.2.length:=(by rcases k with rfl|k;exact c;exact k.1);rw[Iz _ c];exact .inr ⟨aB d (Fz _ _),c⟩
  ·simp only[wrT,rin,jA c];have g:rbr a 2=(a.tsort==3||a.tsort==4):=(by simp[rbr]);have h:rbr b 2=(b.tsort==3||b.tsort==4):=(by simp[rbr]);rw[g,h];exact Qu (P9 b) _ ((Qu (P9 a) _ k).app _)
theorem zns(a:Ty):ze9 a=a.shown:=by
 unfold ze9 Ty.shown Lx;rcases P9 a ([],[]) ([],[]) (.inl rfl)with h|⟨c,d⟩
 ·rw[h]
 grind
end
section
variable{s:Int}{x m:List UInt8}
def Eo(s:Int):zU:=
 if s=3 then[108,101,116]else if s=4 then[114,101,99]else if s=5 then[105,110]else if s=6 then[102,117,110]
 else if s=7 then[105,102]else if s=8 then[116,104,101,110]else if s=9 then[101,108,115,101]
 else if s=10 then[116,114,117,101]else if s=11 then[102,97,108,115,101]else if s=12 then[102,115,116]
 else if s=13 then[115,110,100]else if s=14 then[45,62]else if s=15 then[61]else if s=16 then[40]else if s=17 then[41]
 else if s=18 then[44]else if s=19 then[43]else if s=20 then[45]else if s=21 then[42]else if s=22 then[47]else[60]
def Pd(s:Int):Nat:=if s=1 then 110 else if s=2 then 105 else if s<=13 then 107 else 115
structure zlt(s:Int)(x:List UInt8):Prop where
 range:1<=s/\s<=23
 name:s=1->Nm x
 int:s=2->x ≠ []/\(∀c∈x,B6 c.toNat=true)/\x.length<=9
 other:3<=s->x=Eo s
theorem Nv(h:3<=s/\s<=23):s=3\/s=4\/s=5\/s=6\/s=7\/s=8\/s=9\/s=10\/s=11\/s=12\/s=13\/s=14\/s=15\/s=16\/s=17\/s=18\/s=19\/s=20\/s=21\/s=22\/s=23:=oM
theorem zlt.iff(h:zlt s x){c:Int}(b:3<=c/\c<=23):x=Eo c↔s=c:=by
 constructor
 ·intro e;rcases(by omega:s<3\/3<=s)with a|a
  ·have:=h.range;rcases(by omega:s=1\/s=2)with k|l
   ·have N:=h.name k;have d:=N.head;have f:=N.sort;rw[e]at d f;rcases Nv b with rfl|rfl|rfl|rfl|rfl|rfl|rfl|rfl|rfl|rfl|rfl|rfl|rfl|rfl|rfl|rfl|rfl|rfl|rfl|rfl|rfl<;>first
     |exact absurd f dZ
     |exact absurd d dZ
   ·obtain⟨j,g,_⟩:=h.int l;rw[e]at j g;rcases Nv b with rfl|rfl|rfl|rfl|rfl|rfl|rfl|rfl|rfl|rfl|rfl|rfl|rfl|rfl|rfl|rfl|rfl|rfl|rfl|rfl|rfl<;>exact absurd g dZ
  ·have i:=h.other a;rw[i]at e;rcases Nv b with rfl|rfl|rfl|rfl|rfl|rfl|rfl|rfl|rfl|rfl|rfl|rfl|rfl|rfl|rfl|rfl|rfl|rfl|rfl|rfl|rfl<;>
   rcases Nv ⟨a,h.range.2⟩with rfl|rfl|rfl|rfl|rfl|rfl|rfl|rfl|rfl|rfl|rfl|rfl|rfl|rfl|rfl|rfl|rfl|rfl|rfl|rfl|rfl<;>first
    |rfl
    |exact absurd e dZ
 ·intro e;rw[<-e];exact h.other oM
theorem So(h:Cw x≠1):3<=Cw x/\Cw x<=13/\x=Eo (Cw x):=by
 unfold Cw at h ⊢
 repeat' split
 all_goals first
  |(subst_vars;exact⟨dZ,dZ,dZ⟩)
  |(rename_i a d e f g i j k l b c;rw[jA a,jA d,jA e,jA f,jA g,jA i,jA j,jA k,jA l,jA b,jA c]at h;exact absurd rfl h)
theorem zjy(h:(Id (D7 m)).2≠0):(Id (D7 m)).2=1/\15<=(Id (D7 m)).1/\(Id (D7 m)).1<=23/\m.take 1=Eo (Id (D7 m)).1:=by
 cases m with
 |nil=>exact absurd rfl h
 |cons c m=>
  have o:∀k:Nat,k<256->(c.toNat:Int)=k->c=UInt8.ofNat k:=λk p e=>by
   apply UInt8.toNat_inj.1;rw[UInt8.toNat_ofNat'];omega
  simp only[D7,List.take_succ_cons,List.take_zero]at h ⊢;unfold Id at h ⊢
  repeat' split
  all_goals first
   |(rename_i e;rw[o _ dZ e];exact⟨rfl,dZ,dZ,dZ⟩)
   |(rename_i a b d f g i j l n;rw[jA a,jA b,jA d,jA f,jA g,jA i,jA j,jA l,jA n]at h;exact absurd rfl h)
theorem zgs(a:(Au m).2≠0):zlt (Au m).1 (m.take (Au m).2.toNat):=by
 by_cases b:(Au m).1=1
 ·exact⟨oM,λ_=>zp6 b,λh=>oM,λh=>oM⟩
 by_cases d:Et (D7 m)=true
 ·have e:Au m=Jq (Gy Ef m):=by unfold Au;rw[mA d]
  rw[e]at a b ⊢;unfold Jq at a b ⊢;split at a
  ·exact absurd rfl a
  ·rename_i i;rw[jA i]at b ⊢;obtain⟨j,k,c⟩:=So b;refine⟨by simp only;omega,λh=>absurd h b,λh=>by simp only at h;omega,λ_=>?_⟩;simp only[Int.toNat_natCast];rw[Oz];exact c
 ·by_cases g:B6 (D7 m)=true
  ·have e:Au m=Ge (Gy B6 m):=(by unfold Au;rw[jA d,mA g]);rw[e]at a b ⊢;unfold Ge at a b ⊢;split at a
   ·exact absurd rfl a
   ·rename_i i;rw[jA i];refine⟨sM,λh=>by simp at h,λ_=>?_,λh=>by simp at h⟩;simp only[Int.toNat_natCast];rw[Oz];refine⟨λe=>?_,λc o=>?_,oM⟩
    ·rw[e]at a;simp at a
    ·exact(by simpa using List.all_eq_true.1 (List.all_takeWhile (p:=λc:UInt8=>B6 c.toNat) (l:=m)) c o)
  ·by_cases f:m.take 2=[45,62]
   ·have e:Au m=(14,2):=(by unfold Au;rw[jA d,jA g,mA f]);rw[e];exact⟨sM,λh=>by simp at h,λh=>by simp at h,λ_=>f⟩
   ·have e:Au m=Id (D7 m):=(by unfold Au;rw[jA d,jA g,jA f]);rw[e]at a ⊢;obtain⟨j,k,c,n⟩:=zjy a;rw[j];exact⟨oM,λh=>oM,λh=>oM,λ_=>n⟩
theorem znt{off:Nat}{b:List Tok}(h:Lex off m b):∀t∈b,zlt t.sort (Bv m (t.fr-off) (t.to-off)):=by
 induction h with
 |nil=>intro t a;cases a
 |@gap off m b hm hg hr ih=>
  intro t a;have c:=((hr.Eh).1 t a).low
  have:=ih t a;rw[<-Nat.sub_sub,<-Nat.sub_sub,zal oM]at this;exact this
 |@tok off m b hm hg h0 hr ih=>
  intro t a;rcases zmC.1 a with rfl|a
  ·simp only[Nat.sub_self,Nat.add_sub_cancel_left,Bv,List.drop_zero,Nat.sub_zero];exact zgs h0
  ·have c:=((hr.Eh).1 t a).low
   have:=ih t a;rw[<-Nat.sub_sub,<-Nat.sub_sub,zal oM]at this;exact this
end
end
end Tw.Rf
section
open Tw Tw.Rf Go.Proofs.Tryz
open Go.RowKit
theorem zgt(c:UInt8):∀(m:zU) (n:Nat) (a:n<m.length),(∀j (d:j<n),m[j]'oM≠c)->m[n]=c->Lib.indexByte m c=n
 |[],n,a,_,_=>by simp at a
 |b::m,0,_,_,h=>by simp at h;simp[Lib.indexByte,h]
 |b::m,n+1,a,d,h=>by
  have e:b≠c:=d 0 oM;have f:=zgt c m n (by simpa using a) (λj g=>d (j+1) oM) (by simpa using h);simp[Lib.indexByte];rw[f];simp[e]
theorem zgu(c:UInt8):∀(m:zU),(∀j (a:j<m.length),m[j]≠c)->Lib.indexByte m c = -1
 |[],_=>rfl
 |b::m,a=>by
  have d:b≠c:=a 0 sM;have f:=zgu c m (λj e=>a (j+1) (by simpa using e));simp[Lib.indexByte];rw[f];simp[d]
def Tw.Rf.zfb(m:zU):Int:=
 if D7 m=32\/D7 m=9\/D7 m=10 then 1 else if D7 m=123 then(if Lib.indexByte m 125 = -1 then -1 else Lib.indexByte m 125+1)else 0
theorem Va(s:ByteArray)(k:Nat)(a:k<s.size):D7 (s.data.toList.drop k)=s[k].toNat:=by
 rw[lD (h:=a)];rfl
theorem Ku(s:ByteArray)(k:Nat)(y:k<s.size)(M:s.size<=300)(w:World):
  Calls prog 188 #[.string s,vI k] w λe w'=>e=.returned (vI (zfb (s.data.toList.drop k)))/\w=w':=by
 have f:=Va s k y;have I:(k:Int)<(s.size:Int):=oM;by_cases a:s[k].toNat=32\/s[k].toNat=9\/s[k].toNat=10
 ·have e:zfb (s.data.toList.drop k)=1:=by unfold zfb;rw[f,mA oM]
  rw[e];rcases a with a|a|a
  ·have n:(s[k].toNat:Int)=32:=oM;go_in;go_wp21;go_ret;exact⟨rfl,rfl⟩
  ·have n:(s[k].toNat:Int)=9:=oM;go_in;go_wp21;go_ret;exact⟨rfl,rfl⟩
  ·have n:(s[k].toNat:Int)=10:=oM;go_in;go_wp21;go_ret;exact⟨rfl,rfl⟩
 ·by_cases b:s[k].toNat=123
  ·have g:¬(s[k].toNat:Int)=32:=oM;have h:¬(s[k].toNat:Int)=9:=oM;have l:¬(s[k].toNat:Int)=10:=oM;have m:(s[k].toNat:Int)=123:=oM;have C:((s[k].toNat:Int)==32)=false:=(by simpa using g);have D:((s[k].toNat:Int)==9)=false:=(by simpa using h);have E:((s[k].toNat:Int)==10)=false:=(by simpa using l);have F:((s[k].toNat:Int) != 123)=false:=(by simpa using m);go_in;go_wp21;have t:zfb (s.data.toList.drop k)=if Lib.indexByte (s.data.toList.drop k) 125 = -1 then -1 else Lib.indexByte (s.data.toList.drop k) 125+1:=(by unfold zfb;rw[f,jA oM,mA oM]);have G:(s.data.toList.drop k).length=s.size-k:=(by rw[xD];rfl);have o:=bV t;clear t;go_loopg[5] (s.size-k) (λj A wr=>∃q:Nat,j+q=s.size/\k<=q/\A=vI q/\wr=w/\Hid (∀i (c:i<s.size),k<=i->i<q->s[i].toNat≠125))
   case atStart=>exact⟨k,oM,oM,rfl,rfl,λi _ a b=>oM⟩
   case round=>
    obtain⟨q,d,L,rfl,rfl,p⟩:=hrel;have v:∀i (c:i<(s.data.toList.drop k).length),i<q-k->(s.data.toList.drop k)[i]≠125:=λi c H e=>by
     rw[List.getElem_drop]at e;have b:k+i<s.size:=oM;exact p.o (k+i) b oM oM (by show(s.data.toList[k+i]'b).toNat=125;rw[e];rfl)
    by_cases J:q<s.size
    ·have z:(q:Int)<(s.size:Int):=oM;by_cases r:s[q].toNat=125
     ·have n:(s[q].toNat:Int)=125:=oM;go_wp21;go_ret;refine⟨Fu ?_,rfl⟩;rw[uh o,zgt 125 (s.data.toList.drop k) (q-k) oM (λj d=>v j oM d) (by
       rw[List.getElem_drop];apply UInt8.toNat_inj.1;have B:∀i (x:i<s.data.toList.length),i=q->(s.data.toList[i]).toNat=125:=λi x e=>(by subst e;exact r);exact B _ _ oM),jA oM]
      go_light
      go_num
     ·have n:¬(s[q].toNat:Int)=125:=oM;have N:((s[q].toNat:Int)==125)=false:=(by simpa using n);go_wp21;go_roundg (gk-1)
      case measure=>omega
      case rel=>
       refine⟨q+1,oM,oM,by go_num,rfl,λi c a b=>?_⟩;by_cases e:i=q
       ·subst e;exact r
       ·exact p.o i c a oM
    ·have z:¬(q:Int)<(s.size:Int):=oM;go_wp21;go_ret;refine⟨Fu ?_,rfl⟩;rw[uh o,zgu 125 _ (λj d=>v j d oM),mA rfl]
  ·have g:¬(s[k].toNat:Int)=32:=oM;have h:¬(s[k].toNat:Int)=9:=oM;have l:¬(s[k].toNat:Int)=10:=oM;have m:¬(s[k].toNat:Int)=123:=oM;have C:((s[k].toNat:Int)==32)=false:=(by simpa using g);have D:((s[k].toNat:Int)==9)=false:=(by simpa using h);have E:((s[k].toNat:Int)==10)=false:=(by simpa using l);have F:((s[k].toNat:Int) != 123)=true:=(by simpa using m);have e:zfb (s.data.toList.drop k)=0:=(by unfold zfb;rw[f,jA oM,jA oM]);rw[e];go_in;go_wp21;go_ret;exact⟨rfl,rfl⟩
theorem Lt(s:ByteArray)(w:World):
    Calls prog 189 #[.string s] w λe w'=>e=.returned (.bool (decide (Cw s.data.toList≠1)))/\w=w':=by
  go_in
  go_wp2
  all_goals (go_ret;go_light;exact⟨Ft (by simp[beq_iff_eq,beq_eq_false_iff_ne,ne_eq,Lib.toList_data]at *;first|contradiction|simp[Cw, *]),rfl⟩)
end
section
open Tw Tw.Rf
open Go.RowKit
def Ze(l:zU)(t:Tw.Tok):List Value:=[.string ⟨(Bv l t.fr t.to).toArray⟩,.int .u8 (Pd t.sort),.int .i64 t.fr]
def Dk(l:zU):List Tw.Tok->List Value
 |[]=>[]
 |t::ts=>Ze l t++Dk l ts
theorem I0(l:zU)(a b:List Tw.Tok):Dk l (a++b)=Dk l a++Dk l b:=by
 induction a with
 |nil=>rfl
 |cons t a ih=>simp[Dk,ih]
theorem zjz(l:zU)(b:List Tw.Tok)(j:Nat)(t:Tw.Tok)(h:b[j]?=some t):
  (Dk l b)[j*3]?=some (.string ⟨(Bv l t.fr t.to).toArray⟩)/\(Dk l b)[j*3+1]?=some (vU (Pd t.sort))/\(Dk l b)[j*3+2]?=some (vI t.fr):=by
 induction b generalizing j with
 |nil=>simp at h
 |cons a b ih=>
  cases j with
  |zero=>simp at h;subst h;simp[Dk,Ze]
  |succ j=>
   have:=ih j (by simpa using h);simp only[Dk,Ze];rw[show(j+1)*3=j*3+1+1+1 from oM];simpa using this
end
section
open Tw Tw.Rf Go.Proofs.Tryz
open Go.RowKit
theorem Tryz.zt8:(Tryz.prog.info? 273).map (λi=>(i.zero,i.size,i.bytes))=some (some (.agg #[.string ⟨#[]⟩,vU 0,vI 0]),3,32):=kR
theorem zlb(p:Int->Bool)(s:ByteArray)(i k:Nat)(n:i<=k)(o:k<=s.size)(c:∀j (a:j<s.size),i<=j->j<k->p s[j].toNat=true)(l:∀h:k<s.size,p s[k].toNat=false):(Gy p (s.data.toList.drop i)).length=k-i:=by
 have g:(s.data.toList.drop i).length=s.size-i:=by rw[xD];rfl
 have b:∀j (a:j<(s.data.toList.drop i).length),(s.data.toList.drop i)[j]=s[i+j]'oM:=λj a=>by rw[List.getElem_drop];rfl
 rcases yB k s.size with h|h
 ·have d:k-i<(s.data.toList.drop i).length:=oM;have m:∀q (e:q<s.size),q=k->p s[q].toNat=false:=λq e f=>by subst f;exact l e
  rw[Wy p _ (k-i) d (λj a=>by rw[b j oM];exact c (i+j) oM oM oM) (by rw[b _ d];exact m _ _ oM)];rw[List.length_take];omega
 ·rw[Rq p _ (λj a=>by rw[b j a];exact c (i+j) oM oM oM),g];omega
theorem Hp(s:ByteArray)(i k:Nat):s.extract i k=⟨(Bv s.data.toList i k).toArray⟩:=by
 apply zh0;rw[Lib.extract_data];rfl
theorem zgv(s:ByteArray)(k:Nat)(c:k+1<s.size):(s.data.toList.drop k).take 2=[s[k],s[k+1]]:=by
 have a:k<s.data.toList.length:=by show k<s.size;omega
 have b:k+1<s.data.toList.length:=c;rw[lD a,lD b];rfl
theorem zqe(s:ByteArray)(k:Nat)(b:k<s.size)(c:¬k+1<s.size):(s.data.toList.drop k).take 2=[s[k]]:=by
 have a:k<s.data.toList.length:=b;rw[lD a,List.drop_of_length_le (by show s.size<=k+1;omega)];rfl
theorem znu(s:ByteArray)(k:Nat)(b:k<s.size)(h:¬(s[k].toNat=45/\∃h:k+1<s.size,s[k+1].toNat=62)):¬(s.data.toList.drop k).take 2=[45,62]:=λe=>by
 by_cases a:k+1<s.size
 ·rw[zgv s k a]at e;simp at e;exact h ⟨by rw[e.1];rfl,a,by rw[e.2];rfl⟩
 ·rw[zqe s k b a]at e;simp at e
theorem znv(s:ByteArray)(k:Nat)(a:k<s.size)(d:¬(97<=s[k].toNat/\s[k].toNat<=122))(e:¬(48<=s[k].toNat/\s[k].toNat<=57))(h:¬(s[k].toNat=45/\∃h:k+1<s.size,s[k+1].toNat=62)):Au (s.data.toList.drop k)=Tw.Id s[k].toNat:=by
 unfold Au;rw[Va s k a];have b:Et (s[k].toNat:Int)=false:=by simp[Et];omega
 have c:B6 (s[k].toNat:Int)=false:=by simp[B6];omega
 rw[b,c,jA (znu s k a h)];rfl
def zrl(s:ByteArray)(w:World)(e:Ending)(w':World):Prop:=Below w.heap.size w w' /\
   match split s.data.toList with
   |.error k=>e=.returned (.tuple #[.slice none 0 0,.int .i64 k])
   |.ok ts=>∃v a,e=.returned (.tuple #[v,.int .i64 (-1)])/\ts=a++[⟨0,s.size,s.size⟩]/\w'.ownsRow w.heap.size 273 3 v a.length (Dk s.data.toList a)
theorem zj0(s:ByteArray)(w:World)(h1:s.size<=300):
    Calls prog 119 #[.string s] w (zrl s w):=by
  obtain⟨i0,hi,hz0,hz1,hz2⟩:=info_parts Tryz.zt8;go_in;go_wp2_with fail
  go_loopw [4,5] (λv i wr=>∃(k fuel:Nat) (acc:List Tw.Tok),i=vI k/\k<=s.size/\s.size<k+fuel/\acc.length<=k/\wr.ownsRow w.heap.size 273 3 v acc.length (Dk s.data.toList acc)/\Below w.heap.size w wr/\Hid (split s.data.toList=Ct s.data.toList fuel k acc)) (λ_ i _=>s.size-(intOf i).toNat)
  case atStart=>exact⟨0,s.size+1,[],rfl,oM,oM,sM,mD _ _ _ _,Below.refl _ _,rfl⟩
  case round=>
    obtain⟨k,fuel,acc,rfl,hk,hf,ha,hown,hb,HS⟩:=hrel;obtain⟨fuel,rfl⟩:∃f',fuel=f'+1:=⟨fuel-1,oM⟩;have hl:s.data.toList.length=s.size:=rfl;have HL:Hid (s.data.toList.length=s.size):=hl;clear hl;by_cases hlt:k<s.size
    · have hh:=Va s k hlt
      have HH:=bV hh;have hc0:0<=(s[k].toNat:Int)/\(s[k].toNat:Int)<=255:=(by have:=s[k].toNat_lt;omega);have hki:(k:Int)<(s.size:Int):=oM;have g0:=Vj (s.data.toList.drop k) (by rw[xD,HL.out];omega);rw[xD,HL.out]at g0;have hgr:zfb (s.data.toList.drop k)=if D7 (s.data.toList.drop k)=123/\Lib.indexByte (s.data.toList.drop k) 125 = -1 then -1 else Mf (s.data.toList.drop k):=by
        unfold zfb Mf;by_cases h1:D7 (s.data.toList.drop k)=32\/D7 (s.data.toList.drop k)=9\/D7 (s.data.toList.drop k)=10
        · rw[mA h1,mA h1,jA oM]
        · rw[jA h1,jA h1]
          by_cases h2:D7 (s.data.toList.drop k)=123
          · rw[mA h2,mA h2]
            by_cases h3:Lib.indexByte (s.data.toList.drop k) 125 = -1
            · rw[mA h3,mA ⟨h2,h3⟩]
            · rw[jA h3,jA (λh=>h3 h.2)]
          · rw[jA h2,jA h2,jA (λh=>h2 h.1)]
      by_cases hbad:D7 (s.data.toList.drop k)=123/\Lib.indexByte (s.data.toList.drop k) 125 = -1
      · rw[mA hbad]at hgr
        have HG:=bV hgr;have HE:Hid (split s.data.toList=.error k):=by
          show _=_;rw[HS.out,Ct,mA (by rw[HL.out];exact hlt)];have e1:Mf (s.data.toList.drop k)=0:=(by unfold Mf;rw[jA oM,mA hbad.1,hbad.2];rfl);have e2:(Au (s.data.toList.drop k)).2=0:=by
            unfold Au;have e3:Et (D7 (s.data.toList.drop k))=false:=(by rw[hbad.1];decide);have e4:B6 (D7 (s.data.toList.drop k))=false:=(by rw[hbad.1];decide);rw[e3,e4];have e5:¬(s.data.toList.drop k).take 2=[45,62]:=λe=>by
              have:=hbad.1;cases hd:s.data.toList.drop k with
              |nil=>rw[hd]at this;simp[D7]at this
              |cons c m=>rw[hd]at this e;simp[D7]at this;simp at e;rw[e.1]at this;simp at this
            simp only[xA,if_false,jA e5];rw[hbad.1];decide
          rw[e1,jA oM,mA e2]
        clear hgr hbad g0 hh HS;go_wp2_with (go_at_call 188;refine(Ku s k hlt h1 _).mono ?_;rintro e w' ⟨rfl,rfl⟩;rw[HG.out])
        go_ret2;go_light;refine⟨hb,?_⟩;rw[HE.out];rfl
      · rw[jA hbad]at hgr
        generalize hG:Mf (s.data.toList.drop k)=G at *;have HG:=bV hgr;have HGL:=bV hG;clear hG hgr hbad hh;by_cases hgp:0<G
        · have hgn:¬G<0:=oM
          go_wp2_with (go_at_call 188;refine(Ku s k hlt h1 _).mono ?_;rintro e w' ⟨rfl,rfl⟩;rw[HG.out])
          go_roundw
          case rel=>
            go_light;refine⟨k+G.toNat,fuel,acc,Ml oM,oM,oM,oM,hown,hb,?_⟩;show _=_;rw[HS.out,Ct,mA (by rw[HL.out];exact hlt),HGL.out,mA hgp]
          case measure=>go_light;simp[intOf];omega
        · obtain rfl:G=0:=oM
          have HF:Hid (split s.data.toList=if(Au (s.data.toList.drop k)).2=0 then .error k else Ct s.data.toList fuel (k+(Au (s.data.toList.drop k)).2.toNat) (acc++[⟨(Au (s.data.toList.drop k)).1,k,k+(Au (s.data.toList.drop k)).2.toNat⟩])):=by
            show _=_;rw[HS.out,Ct,mA (by rw[HL.out];exact hlt),HGL.out,jA hgp]
          clear HS HGL g0 hgp;by_cases hdig:48<=s[k].toNat/\s[k].toNat<=57
          · as_aux_lemma=>
              have d1:(48:Int)<=(s[k].toNat:Int):=oM;have d2:(s[k].toNat:Int)<=57:=oM;have e3:Et (s[k].toNat:Int)=false:=(by simp[Et];omega);have e4:B6 (s[k].toNat:Int)=true:=(by simp[B6];omega);have HFE:Hid (Au (s.data.toList.drop k)=Ge (Gy B6 (s.data.toList.drop k))):=by
                show _=_;unfold Au;rw[HH.out,e3,e4];rfl
              clear e3;have E4:=bV e4;clear e4;go_wp2_with (go_at_call 188;refine(Ku s k hlt h1 _).mono ?_;rintro e w' ⟨rfl,rfl⟩;rw[HG.out]);go_loopg[8] (s.size-(k+1)) (λj iv w5=>∃q:Nat,j+q=s.size/\k<q/\iv=vI q/\w5=wr/\Hid (∀i (hi:i<s.size),k<=i->i<q->B6 s[i].toNat=true))
              case atStart=>exact⟨k+1,oM,oM,by go_num,rfl,λi hi h1 h2=>by
                have e:i=k:=oM;subst e;exact E4.out⟩
              case round=>
                obtain⟨q,hj,hq,rfl,rfl,hall⟩:=hrel;by_cases hgo:∃h:q<s.size,48<=s[q].toNat/\s[q].toNat<=57
                · obtain⟨hlt2,x1,x2⟩:=hgo
                  have hli:(q:Int)<(s.size:Int):=oM;have y1:(48:Int)<=(s[q].toNat:Int):=oM;have y2:(s[q].toNat:Int)<=57:=oM;go_wp2_with fail;go_roundg (gk-1)
                  case measure=>omega
                  case rel=>
                    refine⟨q+1,oM,oM,by go_num,rfl,λi hi h1 h2=>?_⟩;by_cases e:i=q
                    · subst e;simp[B6];omega
                    · exact hall.out i hi h1 oM
                · have hql:q<=s.size:=oM
                  have HRL:Hid ((Gy B6 (s.data.toList.drop k)).length=q-k):=bV (zlb B6 s k q oM hql (λj hj h1 h2=>hall.out j hj h1 h2) (λh=>by
                    simp only[B6,decide_eq_false_iff_not];intro hc;exact hgo ⟨h,oM,oM⟩))
                  have hstop:(∃h:q<s.size,(q:Int)<(s.size:Int)/\¬(48:Int)<=(s[q].toNat:Int))\/(∃h:q<s.size,(q:Int)<(s.size:Int)/\(48:Int)<=(s[q].toNat:Int)/\¬(s[q].toNat:Int)<=57)\/¬(q:Int)<(s.size:Int):=by
                    by_cases h:q<s.size
                    · by_cases h2:(48:Int)<=(s[q].toNat:Int)
                      · exact .inr (.inl ⟨h,oM,h2,λh3=>hgo ⟨h,oM,oM⟩⟩)
                      · exact .inl ⟨h,oM,h2⟩
                    · exact .inr (.inr oM)
                  clear hgo;have HKW:Hid (True=True):=rfl;rcases hstop with⟨hl2,hli,hx3⟩|⟨hl2,hli,hx4,hx3⟩|hli
                  all_goals
                    by_cases h9:q-k<=9
                    · have h9i:¬(9:Int)<(q:Int)-(k:Int):=oM
                      go_wp2_with (first
                |(go_at_call 189;refine(Lt _ _).mono ?_;rintro e w' ⟨rfl,rfl⟩;rw[HKW.out])
                |(at_builtin;refine wpList_append_own _ rfl _ _ 99 rfl w.heap.size 273 i0 (.agg #[.string ⟨#[]⟩,vU 0,vI 0]) 3 32 underlying99 hi hz0 hz1 hz2 rfl dZ _ _ _ rfl (hown.alloc _) (aD wr.heap.size 0) 1 1 [.string (s.extract k q),vU 105,vI k] rfl rfl (Dp _ _ _ _ _) (by intro u hu;simp at hu;rcases hu with rfl|rfl|rfl<;>rfl) (by unfold maxLen;omega) oM (by have:=hb.size;simp;omega) ?_;intro v3 w3 hown3 hgrow3 hnil3;have hb3:Below w.heap.size w w3:=Below.grown (hb.alloc hb.size _) hgrow3 (by have:=hb.size;simp;omega) (λj hj=>(hown.lt _ hj).1);have X:Aside (w3.ownsRow w.heap.size 273 3 v3 (acc.length+1) (Dk s.data.toList acc++[.string (s.extract k q),vU 105,vI k])/\Below w.heap.size w w3):=⟨hown3,hb3⟩;clear hown3 hgrow3 hnil3 hb3))
                      go_roundw
                      case rel=>
                        go_light;refine⟨q,fuel,acc++[⟨2,k,q⟩],Ml oM,oM,oM,by simp;omega,?_,X.out.2,?_⟩
                        · rw[I0,eA]
                          have e:Dk s.data.toList [(⟨2,k,q⟩:Tw.Tok)]=[.string (s.extract k q),vU 105,vI k]:=by
                            simp[Dk,Ze,Hp,Pd]
                          rw[e];exact X.out.1
                        · show _=_
                          rw[HF.out,HFE.out];have e0:Ge (Gy B6 (s.data.toList.drop k))=(2,((q-k:Nat):Int)):=(by unfold Ge;rw[HRL.out,jA oM]);rw[e0];have e1:¬((q-k:Nat):Int)=0:=oM;simp only[jA e1,Int.toNat_natCast,show k+(q-k)=q by omega]
                      case measure=>go_light;simp[intOf];omega
                    · have h9i:(9:Int)<(q:Int)-(k:Int):=oM
                      go_wp2_with fail
                      go_ret2;go_light;refine⟨hb,?_⟩;rw[HF.out,HFE.out];have e0:Ge (Gy B6 (s.data.toList.drop k))=(0,0):=(by unfold Ge;rw[HRL.out,mA oM]);rw[e0];rfl
          · by_cases hsm:97<=s[k].toNat/\s[k].toNat<=122
            · as_aux_lemma=>
                have d1:(97:Int)<=(s[k].toNat:Int):=oM;have d2:(s[k].toNat:Int)<=122:=oM;have d3:¬(s[k].toNat:Int)<=57:=oM;have d4:(48:Int)<=(s[k].toNat:Int):=oM;have e3:Et (s[k].toNat:Int)=true:=(by simp[Et];omega);have e4:Ef (s[k].toNat:Int)=true:=(by simp[Ef];omega);have HFE:Hid (Au (s.data.toList.drop k)=Jq (Gy Ef (s.data.toList.drop k))):=by
                  show _=_;unfold Au;rw[HH.out,e3];rfl
                clear e3 hdig;have E4:=bV e4;clear e4;go_wp2_with (go_at_call 188;refine(Ku s k hlt h1 _).mono ?_;rintro e w' ⟨rfl,rfl⟩;rw[HG.out]);go_loopg[8] (s.size-(k+1)) (λj iv w5=>∃q:Nat,j+q=s.size/\k<q/\iv=vI q/\w5=wr/\Hid (∀i (hi:i<s.size),k<=i->i<q->Ef s[i].toNat=true))
                case atStart=>exact⟨k+1,oM,oM,by go_num,rfl,λi hi h1 h2=>by
                  have e:i=k:=oM;subst e;exact E4.out⟩
                case round=>
                  obtain⟨q,hj,hq,rfl,rfl,hall⟩:=hrel;by_cases hgo:∃h:q<s.size,Ef s[q].toNat=true
                  · obtain⟨hlt2,x1⟩:=hgo
                    have hli:(q:Int)<(s.size:Int):=oM;have x2:(97<=s[q].toNat/\s[q].toNat<=122)\/(48<=s[q].toNat/\s[q].toNat<=57):=(by simp[Ef]at x1;omega);have X1:=bV x1;clear x1;rcases x2 with⟨x2,x3⟩|⟨x2,x3⟩
                    · have y1:(97:Int)<=(s[q].toNat:Int):=oM
                      have y2:(s[q].toNat:Int)<=122:=oM;go_wp2_with fail;go_roundg (gk-1)
                      case measure=>omega
                      case rel=>
                        refine⟨q+1,oM,oM,by go_num,rfl,λi hi h1 h2=>?_⟩;by_cases e:i=q
                        · subst e;exact X1.out
                        · exact hall.out i hi h1 oM
                    · have y1:(48:Int)<=(s[q].toNat:Int):=oM
                      have y2:(s[q].toNat:Int)<=57:=oM;have y3:¬(97:Int)<=(s[q].toNat:Int):=oM;go_wp2_with fail;go_roundg (gk-1)
                      case measure=>omega
                      case rel=>
                        refine⟨q+1,oM,oM,by go_num,rfl,λi hi h1 h2=>?_⟩;by_cases e:i=q
                        · subst e;exact X1.out
                        · exact hall.out i hi h1 oM
                  · have hql:q<=s.size:=oM
                    have HRL:Hid ((Gy Ef (s.data.toList.drop k)).length=q-k):=bV (zlb Ef s k q oM hql (λj hj h1 h2=>hall.out j hj h1 h2) (λh=>by
                      cases hc:Ef (s[q].toNat:Int)with
                      |false=>rfl
                      |true=>exact absurd ⟨h,hc⟩ hgo))
                    have HRP:Hid (Gy Ef (s.data.toList.drop k)=(s.extract k q).data.toList):=by
                      show _=_;rw[Hp,<-Oz Ef (s.data.toList.drop k),HRL.out];rfl
                    have hstop:(∃h:q<s.size,(q:Int)<(s.size:Int)/\¬(48:Int)<=(s[q].toNat:Int)/\¬(97:Int)<=(s[q].toNat:Int))\/(∃h:q<s.size,(q:Int)<(s.size:Int)/\(48:Int)<=(s[q].toNat:Int)/\¬(s[q].toNat:Int)<=57/\¬(97:Int)<=(s[q].toNat:Int))\/(∃h:q<s.size,(q:Int)<(s.size:Int)/\(48:Int)<=(s[q].toNat:Int)/\¬(s[q].toNat:Int)<=57/\(97:Int)<=(s[q].toNat:Int)/\¬(s[q].toNat:Int)<=122)\/¬(q:Int)<(s.size:Int):=by
                      by_cases h:q<s.size
                      · have nw:¬Ef (s[q].toNat:Int)=true:=λhc=>hgo ⟨h,hc⟩
                        simp only[Ef,fE]at nw;rcases(by omega:(s[q].toNat:Int)<48\/((57:Int)<(s[q].toNat:Int)/\(s[q].toNat:Int)<97)\/(122:Int)<(s[q].toNat:Int))with h2|h2|h2
                        · exact .inl ⟨h,oM,oM,oM⟩
                        · exact .inr (.inl ⟨h,oM,oM,oM,oM⟩)
                        · exact .inr (.inr (.inl ⟨h,oM,oM,oM,oM,oM⟩))
                      · exact .inr (.inr (.inr oM))
                    clear hgo;rcases hstop with⟨hl2,hli,hx1,hx2⟩|⟨hl2,hli,hx1,hx2,hx3⟩|⟨hl2,hli,hx1,hx2,hx3,hx4⟩|hli
                    all_goals
                      by_cases h9:q-k<=6
                      · have h9i:¬(6:Int)<(q:Int)-(k:Int):=oM
                        cases hkw:decide (Cw (s.extract k q).data.toList≠1)
                        · have HKW:=bV hkw
                          have HW1:Hid (Cw (Gy Ef (s.data.toList.drop k))=1):=by show _=_;rw[HRP.out];simpa using hkw
                          clear hkw;go_wp2_with (first
                |(go_at_call 189;refine(Lt _ _).mono ?_;rintro e w' ⟨rfl,rfl⟩;rw[HKW.out])
                |(at_builtin;refine wpList_append_own _ rfl _ _ 99 rfl w.heap.size 273 i0 (.agg #[.string ⟨#[]⟩,vU 0,vI 0]) 3 32 underlying99 hi hz0 hz1 hz2 rfl dZ _ _ _ rfl (hown.alloc _) (aD wr.heap.size 0) 1 1 [.string (s.extract k q),vU 110,vI k] rfl rfl (Dp _ _ _ _ _) (by intro u hu;simp at hu;rcases hu with rfl|rfl|rfl<;>rfl) (by unfold maxLen;omega) oM (by have:=hb.size;simp;omega) ?_;intro v3 w3 hown3 hgrow3 hnil3;have hb3:Below w.heap.size w w3:=Below.grown (hb.alloc hb.size _) hgrow3 (by have:=hb.size;simp;omega) (λj hj=>(hown.lt _ hj).1);have X:Aside (w3.ownsRow w.heap.size 273 3 v3 (acc.length+1) (Dk s.data.toList acc++[.string (s.extract k q),vU 110,vI k])/\Below w.heap.size w w3):=⟨hown3,hb3⟩;clear hown3 hgrow3 hnil3 hb3))
                          go_roundw
                          case rel=>
                            go_light;refine⟨q,fuel,acc++[⟨1,k,q⟩],Ml oM,oM,oM,by simp;omega,?_,X.out.2,?_⟩
                            · rw[I0,eA]
                              have e:Dk s.data.toList [(⟨1,k,q⟩:Tw.Tok)]=[.string (s.extract k q),vU 110,vI k]:=by
                                simp[Dk,Ze,Hp,Pd]
                              rw[e];exact X.out.1
                            · show _=_
                              rw[HF.out,HFE.out];have e0:Jq (Gy Ef (s.data.toList.drop k))=(1,((q-k:Nat):Int)):=(by unfold Jq;rw[HRL.out,jA oM,HW1.out]);rw[e0];have e1:¬((q-k:Nat):Int)=0:=oM;simp only[jA e1,Int.toNat_natCast,show k+(q-k)=q by omega]
                          case measure=>go_light;simp[intOf];omega
                        · have HKW:=bV hkw
                          obtain⟨srt,hsrt⟩:∃srt,Cw (Gy Ef (s.data.toList.drop k))=srt:=⟨_,rfl⟩;have HW1:=bV hsrt;have hs3:Cw (Gy Ef (s.data.toList.drop k))≠1:=(by rw[HRP.out];simpa using hkw);have hs4:=(So hs3);have hs5:3<=srt/\srt<=13:=(by rw[<-hsrt];exact⟨hs4.1,hs4.2.1⟩);clear hkw hsrt hs3 hs4;go_wp2_with (first
                |(go_at_call 189;refine(Lt _ _).mono ?_;rintro e w' ⟨rfl,rfl⟩;rw[HKW.out])
                |(at_builtin;refine wpList_append_own _ rfl _ _ 99 rfl w.heap.size 273 i0 (.agg #[.string ⟨#[]⟩,vU 0,vI 0]) 3 32 underlying99 hi hz0 hz1 hz2 rfl dZ _ _ _ rfl (hown.alloc _) (aD wr.heap.size 0) 1 1 [.string (s.extract k q),vU 107,vI k] rfl rfl (Dp _ _ _ _ _) (by intro u hu;simp at hu;rcases hu with rfl|rfl|rfl<;>rfl) (by unfold maxLen;omega) oM (by have:=hb.size;simp;omega) ?_;intro v3 w3 hown3 hgrow3 hnil3;have hb3:Below w.heap.size w w3:=Below.grown (hb.alloc hb.size _) hgrow3 (by have:=hb.size;simp;omega) (λj hj=>(hown.lt _ hj).1);have X:Aside (w3.ownsRow w.heap.size 273 3 v3 (acc.length+1) (Dk s.data.toList acc++[.string (s.extract k q),vU 107,vI k])/\Below w.heap.size w w3):=⟨hown3,hb3⟩;clear hown3 hgrow3 hnil3 hb3))
                          go_roundw
                          case rel=>
                            go_light;refine⟨q,fuel,acc++[⟨srt,k,q⟩],Ml oM,oM,oM,by simp;omega,?_,X.out.2,?_⟩
                            · rw[I0,eA]
                              have e:Dk s.data.toList [(⟨srt,k,q⟩:Tw.Tok)]=[.string (s.extract k q),vU 107,vI k]:=by
                                have k1:Pd srt=107:=(by unfold Pd;rw[jA oM,jA oM,mA oM]);simp[Dk,Ze,Hp,k1]
                              rw[e];exact X.out.1
                            · show _=_
                              rw[HF.out,HFE.out];have e0:Jq (Gy Ef (s.data.toList.drop k))=(srt,((q-k:Nat):Int)):=(by unfold Jq;rw[HRL.out,jA oM,HW1.out]);rw[e0];have e1:¬((q-k:Nat):Int)=0:=oM;simp only[jA e1,Int.toNat_natCast,show k+(q-k)=q by omega]
                          case measure=>go_light;simp[intOf];omega
                      · have h9i:(6:Int)<(q:Int)-(k:Int):=oM
                        have e0:Jq (Gy Ef (s.data.toList.drop k))=(0,0):=(by unfold Jq;rw[HRL.out,mA oM]);have E0:=bV e0;clear e0;cases hkw:decide (Cw (s.extract k q).data.toList≠1)
                        · have HKW:=bV hkw
                          clear hkw;go_wp2_with (go_at_call 189;refine(Lt _ _).mono ?_;rintro e w' ⟨rfl,rfl⟩;rw[HKW.out])
                          go_ret2;go_light;refine⟨hb,?_⟩;rw[HF.out,HFE.out,E0.out];rfl
                        · have HKW:=bV hkw
                          clear hkw;go_wp2_with (go_at_call 189;refine(Lt _ _).mono ?_;rintro e w' ⟨rfl,rfl⟩;rw[HKW.out])
                          go_ret2;go_light;refine⟨hb,?_⟩;rw[HF.out,HFE.out,E0.out];rfl
            · as_aux_lemma=>
                by_cases h45:s[k].toNat=45/\∃h:k+1<s.size,s[k+1].toNat=62
                · obtain⟨h45,hl2,h62⟩:=h45
                  have HFE:Hid (Au (s.data.toList.drop k)=(14,2)):=by
                    show _=_;unfold Au;rw[HH.out];have e1:Et (s[k].toNat:Int)=false:=(by rw[h45];decide);have e2:B6 (s[k].toNat:Int)=false:=(by rw[h45];decide);have e3:(s.data.toList.drop k).take 2=[45,62]:=by
                      rw[zgv s k hl2];have a1:s[k]=45:=UInt8.toNat_inj.1 h45;have a2:s[k+1]=62:=UInt8.toNat_inj.1 h62;rw[a1,a2]
                    rw[e1,e2,mA e3];rfl
                  have n2:(s[k+1].toNat:Int)=62:=oM;have hli:(k:Int)+1<(s.size:Int):=oM;clear hdig hsm;have n:(s[k].toNat:Int)=45:=oM;go_wp2_with (first
                |(go_at_call 188;refine(Ku s k hlt h1 _).mono ?_;rintro e w' ⟨rfl,rfl⟩;rw[HG.out])
                |(at_builtin;refine wpList_append_own _ rfl _ _ 99 rfl w.heap.size 273 i0 (.agg #[.string ⟨#[]⟩,vU 0,vI 0]) 3 32 underlying99 hi hz0 hz1 hz2 rfl dZ _ _ _ rfl (hown.alloc _) (aD wr.heap.size 0) 1 1 [.string (s.extract k (k+2)),vU 115,vI k] rfl rfl (Dp _ _ _ _ _) (by intro u hu;simp at hu;rcases hu with rfl|rfl|rfl<;>rfl) (by unfold maxLen;omega) oM (by have:=hb.size;simp;omega) ?_;intro v3 w3 hown3 hgrow3 hnil3;have hb3:Below w.heap.size w w3:=Below.grown (hb.alloc hb.size _) hgrow3 (by have:=hb.size;simp;omega) (λj hj=>(hown.lt _ hj).1);have X:Aside (w3.ownsRow w.heap.size 273 3 v3 (acc.length+1) (Dk s.data.toList acc++[.string (s.extract k (k+2)),vU 115,vI k])/\Below w.heap.size w w3):=⟨hown3,hb3⟩;clear hown3 hgrow3 hnil3 hb3))
                  go_roundw
                  case rel=>
                    go_light;refine⟨(k+2),fuel,acc++[⟨14,k,(k+2)⟩],Ml oM,oM,oM,by simp;omega,?_,X.out.2,?_⟩
                    · rw[I0,eA]
                      have e:Dk s.data.toList [(⟨14,k,(k+2)⟩:Tw.Tok)]=[.string (s.extract k (k+2)),vU 115,vI k]:=by
                        simp[Dk,Ze,Hp,Pd]
                      rw[e];exact X.out.1
                    · show _=_
                      rw[HF.out,HFE.out];rfl
                  case measure=>go_light;simp[intOf];omega
                · have HFE:=bV (znv s k hlt hsm hdig h45)
                  by_cases hsg:s[k].toNat=45\/s[k].toNat=61\/s[k].toNat=40\/s[k].toNat=41\/s[k].toNat=44\/s[k].toNat=43\/s[k].toNat=42\/s[k].toNat=47\/s[k].toNat=60
                  · obtain⟨srt,hs0,hs1⟩:∃srt:Int,Tw.Id (s[k].toNat:Int)=(srt,1)/\15<=srt:=by
                      rcases hsg with h|h|h|h|h|h|h|h|h<;>(rw[h];exact⟨_,rfl,dZ⟩)
                    have HS0:=bV hs0;clear hs0;have hv:((s[k].toNat:Int)=45/\∃h:k+1<s.size,(k:Int)+1<(s.size:Int)/\((s[k+1].toNat:Int)==62)=false)\/((s[k].toNat:Int)=45/\¬(k:Int)+1<(s.size:Int))\/(s[k].toNat:Int)=61\/(s[k].toNat:Int)=40\/(s[k].toNat:Int)=41\/(s[k].toNat:Int)=44\/(s[k].toNat:Int)=43\/(s[k].toNat:Int)=42\/(s[k].toNat:Int)=47\/(s[k].toNat:Int)=60:=by
                      by_cases h:s[k].toNat=45
                      · by_cases h2:k+1<s.size
                        · exact .inl ⟨oM,h2,oM,by simp;exact λe=>h45 ⟨h,h2,oM⟩⟩
                        · exact .inr (.inl ⟨oM,oM⟩)
                      · omega
                    clear h45 hdig hsm hsg;rcases hv with⟨hc,hl2,hli,h62⟩|⟨hc,hli⟩|hc|hc|hc|hc|hc|hc|hc|hc
                    all_goals
                      go_wp2_with (first
                |(go_at_call 188;refine(Ku s k hlt h1 _).mono ?_;rintro e w' ⟨rfl,rfl⟩;rw[HG.out])
                |(at_builtin;refine wpList_append_own _ rfl _ _ 99 rfl w.heap.size 273 i0 (.agg #[.string ⟨#[]⟩,vU 0,vI 0]) 3 32 underlying99 hi hz0 hz1 hz2 rfl dZ _ _ _ rfl (hown.alloc _) (aD wr.heap.size 0) 1 1 [.string (s.extract k (k+1)),vU 115,vI k] rfl rfl (Dp _ _ _ _ _) (by intro u hu;simp at hu;rcases hu with rfl|rfl|rfl<;>rfl) (by unfold maxLen;omega) oM (by have:=hb.size;simp;omega) ?_;intro v3 w3 hown3 hgrow3 hnil3;have hb3:Below w.heap.size w w3:=Below.grown (hb.alloc hb.size _) hgrow3 (by have:=hb.size;simp;omega) (λj hj=>(hown.lt _ hj).1);have X:Aside (w3.ownsRow w.heap.size 273 3 v3 (acc.length+1) (Dk s.data.toList acc++[.string (s.extract k (k+1)),vU 115,vI k])/\Below w.heap.size w w3):=⟨hown3,hb3⟩;clear hown3 hgrow3 hnil3 hb3))
                      go_roundw
                      case rel=>
                        go_light;refine⟨(k+1),fuel,acc++[⟨srt,k,(k+1)⟩],Ml oM,oM,oM,by simp;omega,?_,X.out.2,?_⟩
                        · rw[I0,eA]
                          have e:Dk s.data.toList [(⟨srt,k,(k+1)⟩:Tw.Tok)]=[.string (s.extract k (k+1)),vU 115,vI k]:=by
                            have k1:Pd srt=115:=(by unfold Pd;rw[jA oM,jA oM,jA oM]);simp[Dk,Ze,Hp,k1]
                          rw[e];exact X.out.1
                        · show _=_
                          rw[HF.out,HFE.out];rw[HS0.out];rfl
                      case measure=>go_light;simp[intOf];omega
                  · have e0:(Tw.Id (s[k].toNat:Int)).2=0:=by
                      unfold Tw.Id;rw[jA oM,jA oM,jA oM,jA oM,jA oM,jA oM,jA oM,jA oM,jA oM]
                    have E0:=bV e0;clear e0;have m45:((s[k].toNat:Int)==45)=false:=(by simp;omega);have m61:((s[k].toNat:Int)==61)=false:=(by simp;omega);have m40:((s[k].toNat:Int)==40)=false:=(by simp;omega);have m41:((s[k].toNat:Int)==41)=false:=(by simp;omega);have m44:((s[k].toNat:Int)==44)=false:=(by simp;omega);have m43:((s[k].toNat:Int)==43)=false:=(by simp;omega);have m42:((s[k].toNat:Int)==42)=false:=(by simp;omega);have m47:((s[k].toNat:Int)==47)=false:=(by simp;omega);have m60:((s[k].toNat:Int)==60)=false:=(by simp;omega);have hv:¬(48:Int)<=(s[k].toNat:Int)/\¬(97:Int)<=(s[k].toNat:Int)\/(48:Int)<=(s[k].toNat:Int)/\¬(s[k].toNat:Int)<=57/\¬(97:Int)<=(s[k].toNat:Int)\/(48:Int)<=(s[k].toNat:Int)/\¬(s[k].toNat:Int)<=57/\(97:Int)<=(s[k].toNat:Int)/\¬(s[k].toNat:Int)<=122:=oM;rcases hv with⟨x1,x2⟩|⟨x1,x2,x3⟩|⟨x1,x2,x3,x4⟩
                    all_goals
                      go_wp2_with (go_at_call 188;refine(Ku s k hlt h1 _).mono ?_;rintro e w' ⟨rfl,rfl⟩;rw[HG.out])
                      go_ret2;go_light;refine⟨hb,?_⟩;rw[HF.out,HFE.out,mA E0.out];rfl
    · go_wp2_with fail
      go_ret2;go_light;refine⟨hb,?_⟩;have HE:split s.data.toList=.ok (acc++[⟨0,k,k⟩]):=(by rw[HS.out,Ct,jA (by rw[HL.out];omega)]);rw[HE];obtain rfl:k=s.size:=oM;exact⟨_,acc,rfl,rfl,hown⟩
end
namespace Tw.Rf
section
open Go Go.Proofs.YtckhafpejefbbaaGreatDoor.Tw
section
variable{body:List Tok}{i:Nat}{t:Tok}{l:List UInt8}
structure RN where
 sort:Nat
 a:Int
 b:Int
 c:Int
 first:Nat
 last:Int
 name:Nat
 binder:Int
 deriving DecidableEq
def Gf(s:Int):Nat:=if s=19 then 43 else if s=20 then 45 else if s=21 then 42 else if s=22 then 47 else if s=23 then 60 else 61
def T.sz:T->Nat
 |.name .. =>1
 |.int .. =>1
 |.Ak .. =>1
 |.side .. =>1
 |.bracket _ _ i=>sz i+1
 |.pair _ _ l r=>sz l+sz r+1
 |.call _ _ l r=>sz l+sz r+1
 |.binary _ _ _ l r=>sz l+sz r+1
 |.cond _ _ c t e=>sz c+sz t+sz e+1
 |.fn _ _ _ _ b=>sz b+1
 |.Am _ _ _ _ _ d b=>sz d+sz b+1
theorem T.Vb(t:T):0<T.sz t:=by cases t<;>simp[T.sz]
def flat(f g:Nat->Nat):T->Nat->List RN
 |.name fr _ _,_=>[⟨120,-1,-1,-1,f fr,f fr,0,-1⟩]
 |.int fr _ _,_=>[⟨105,-1,-1,-1,f fr,f fr,0,-1⟩]
 |.Ak fr _ b,_=>[⟨if b then 116 else 102,-1,-1,-1,f fr,f fr,0,-1⟩]
 |.side fr _ b,_=>[⟨if b then 50 else 49,-1,-1,-1,f fr,f fr,0,-1⟩]
 |.bracket fr to i,k=>flat f g i k++[⟨103,(k+T.sz i-1:Nat),-1,-1,f fr,g to,0,-1⟩]
 |.pair fr to l r,k=>flat f g l k++flat f g r (k+T.sz l)++[⟨44,(k+T.sz l-1:Nat),(k+T.sz l+T.sz r-1:Nat),-1,f fr,g to,0,-1⟩]
 |.call fr to l r,k=>flat f g l k++flat f g r (k+T.sz l)++[⟨97,(k+T.sz l-1:Nat),(k+T.sz l+T.sz r-1:Nat),-1,f fr,g to,0,-1⟩]
 |.binary fr to s l r,k=>flat f g l k++flat f g r (k+T.sz l)++[⟨Gf s,(k+T.sz l-1:Nat),(k+T.sz l+T.sz r-1:Nat),-1,f fr,g to,0,-1⟩]
 |.cond fr to c t e,k=>flat f g c k++flat f g t (k+T.sz c)++flat f g e (k+T.sz c+T.sz t)++[⟨73,(k+T.sz c-1:Nat),(k+T.sz c+T.sz t-1:Nat),(k+T.sz c+T.sz t+T.sz e-1:Nat),f fr,g to,0,-1⟩]
 |.fn fr to _ bat b,k=>flat f g b k++[⟨70,(k+T.sz b-1:Nat),-1,-1,f fr,g to,f bat,-1⟩]
 |.Am fr to rc _ bat d b,k=>flat f g d k++flat f g b (k+T.sz d)++[⟨if rc then 114 else 108,(k+T.sz d-1:Nat),(k+T.sz d+T.sz b-1:Nat),-1,f fr,g to,f bat,-1⟩]
theorem Ao(f g:Nat->Nat):∀(t:T) (k:Nat),(flat f g t k).length=T.sz t
 |.name ..,_=>rfl
 |.int ..,_=>rfl
 |.Ak ..,_=>rfl
 |.side ..,_=>rfl
 |.bracket _ _ i,k=>by simp[flat,T.sz,Ao f g i]
 |.pair _ _ l r,k=>by simp[flat,T.sz,Ao f g l,Ao f g r];omega
 |.call _ _ l r,k=>by simp[flat,T.sz,Ao f g l,Ao f g r];omega
 |.binary _ _ _ l r,k=>by simp[flat,T.sz,Ao f g l,Ao f g r];omega
 |.cond _ _ c t e,k=>by simp[flat,T.sz,Ao f g c,Ao f g t,Ao f g e];omega
 |.fn _ _ _ _ b,k=>by simp[flat,T.sz,Ao f g b]
 |.Am _ _ _ _ _ d b,k=>by simp[flat,T.sz,Ao f g d,Ao f g b];omega
def ixF(body:List Tok)(p:Nat):Nat:=body.findIdx (·.fr==p)
def ixT(body:List Tok)(p:Nat):Nat:=body.findIdx (·.to==p)
theorem zay{p:Tok->Bool}(h:body[i]?=some t)(d:p t=true)(c:∀(j:Nat) (u:Tok),j<i->body[j]?=some u->p u=false):body.findIdx p=i:=by
 obtain⟨a,rfl⟩:=zlE.1 h;rw[List.findIdx_eq a];exact⟨d,λj b=>by simpa using c j _ b (fA oM)⟩
theorem Vc(h:Lex 0 l body){j:Nat}{u:Tok}(c:i<j)(hi:body[i]?=some t)(d:body[j]?=some u):t.fr<t.to/\t.to<=u.fr:=by
 obtain⟨a,rfl⟩:=zlE.1 hi;obtain⟨b,rfl⟩:=zlE.1 d;exact⟨(h.Eh.1 _ (List.getElem_mem a)).lt,List.pairwise_iff_getElem.1 h.apart i j a b c⟩
theorem Fe(h:Lex 0 l body)(hi:body[i]?=some t):ixF body t.fr=i:=
 zay hi sM λj c a b=>by
  have:=Vc h a b hi;simp;omega
theorem zj1(h:Lex 0 l body)(hi:body[i]?=some t):ixT body t.to=i:=
 zay hi sM λj c a b=>by
  have:=Vc h a b hi
  have:=(h.Eh.1 t (dD hi)).lt;simp;omega
section
variable {l:List UInt8}{ts:List Tok}
variable{st:PS}
def Ends(ts:List Tok):Prop:=∃t,ts[ts.length-1]?=some t/\t.sort=0
theorem Hq(c:Ends ts)(h:st.stuck=true):∃t,Ej ts st=some t/\t.sort=0:=by
 obtain⟨t,a,b⟩:=c;exact⟨t,by simp[Ej,h,a],b⟩
theorem Kv(a:Ends ts){st:PS}(h:st.stuck=true):∀(g:List Int),(∀x∈g,x≠0)->Bn ts g st=some (0,st)
 |[],_=>rfl
 |s::g,hg=>by
  obtain⟨t,c,d⟩:=Hq a h;have b:t.sort≠s:=by rw[d];exact λe=>hg s sM e.symm
  simp only[Bn,c,zbS,jA b];exact Kv a h g (λx f=>hg x (by simp[f]))
theorem zaz(d:Ends ts)(h:st.stuck=true){s:Int}(f:s≠0){r:Tok×PS}(a:Tw.Bg ts s st=some r):r.2=st:=by
 obtain⟨t,b,c⟩:=Hq d h;unfold Tw.Bg at a;rw[b,zbS,jA (by rw[c];exact λe=>f e.symm)]at a;simp[Hj,h]at a;rw[<-a]
structure zts(l:List UInt8)(ts:List Tok)(n:Nat):Prop where
 expr:∀ {st:PS} {x},st.stuck=true->Cg l ts n st=some x->x.2=st
 cmp:∀ {st:PS} {x},st.stuck=true->Kk l ts n st=some x->x.2=st
 sum:∀ {st:PS} {x},st.stuck=true->Kj l ts n st=some x->x.2=st
 term:∀ {st:PS} {x},st.stuck=true->Ha l ts n st=some x->x.2=st
 part:∀ {p:Part} {st:PS} {x},st.stuck=true->Dw l ts n p st=some x->x.2=st
 chain:∀ {p:Part} {g:List Int} {st:PS} {x},(∀x∈g,x≠0)->st.stuck=true->Ed l ts n p g st=some x->x.2=st
 Ch:∀ {p:Part} {g:List Int} {t:T} {st:PS} {x},(∀x∈g,x≠0)->st.stuck=true->Bd l ts n p g t st=some x->x.2=st
 call:∀ {st:PS} {x},st.stuck=true->Gv l ts n st=some x->x.2=st
 Dx:∀ {t:T} {st:PS} {x},st.stuck=true->Bh l ts n t st=some x->x.2=st
 atom:∀ {st:PS} {x},st.stuck=true->Ev l ts n st=some x->x.2=st
theorem zgw(c:Ends ts):∀n,zts l ts n
 |0=>⟨λ_ h=>by simp[Cg]at h,λ_ h=>by simp[Kk]at h,λ_ h=>by simp[Kj]at h,λ_ h=>by simp[Ha]at h,λ{p} _ _ _ h=>by cases p<;>simp[Dw]at h,λ_ _ h=>by simp[Ed]at h,λ_ _ h=>by simp[Bd]at h,λ_ h=>by simp[Gv]at h,λ_ h=>by simp[Bh]at h,λ_ h=>by simp[Ev]at h⟩
 |n+1=>by
  have b:=zgw c n;refine⟨λ{st x} a h=>?_,λ{st x} a h=>?_,λ{st x} a h=>?_,λ{st x} a h=>?_,λ{p st x} a h=>?_,λ{p m st x} j a h=>?_,λ{p m t st x} j a h=>?_,λ{st x} a h=>?_,λ{t st x} a h=>?_,λ{st x} a h=>?_⟩
  ·obtain⟨t,e,g⟩:=Hq c a;rw[Cg,e,zbS,jA oM,jA oM,jA oM]at h;exact b.cmp a h
  ·rw[Kk]at h;obtain⟨k,f,h⟩:=zbE.1 h;have d:=b.sum a f;rw[d,Kv c a _ sM]at h;simp at h;rw[<-h]
  ·rw[Kj]at h;exact b.chain sM a h
  ·rw[Ha]at h;exact b.chain sM a h
  ·cases p with
   |term=>rw[Dw]at h;exact b.term a h
   |call=>rw[Dw]at h;exact b.call a h
  ·rw[Ed]at h;obtain⟨k,f,h⟩:=zbE.1 h;have d:=b.part a f;rw[d]at h;exact b.Ch j a h
  ·rw[Bd,Kv c a m j]at h;simp at h;rw[<-h]
  ·rw[Gv]at h;obtain⟨k,f,h⟩:=zbE.1 h;have d:=b.atom a f;rw[d]at h;exact b.Dx a h
  ·obtain⟨t,e,g⟩:=Hq c a;rw[Bh,e,zbS,jA (by rw[g];decide)]at h;simp at h;rw[<-h]
  ·obtain⟨t,e,g⟩:=Hq c a;rw[Ev,e,zbS,jA oM,jA (by rw[g];decide)]at h;simp[Hj,a]at h;rw[<-h]
end
end
end
end Tw.Rf
end Go.Proofs.YtckhafpejefbbaaGreatDoor
