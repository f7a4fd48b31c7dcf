import Derived.Test.YtckhafpejefbbaaGreatDoorB09

set_option maxRecDepth 100000
set_option maxHeartbeats 4000000
namespace Go.Proofs.YtckhafpejefbbaaGreatDoor
namespace Tw
section
open Go
section
variable{run run1 run2:Nat->SS->Option (Nat×SS)}{J J1 J2:TEn->Ty->Prop}{e:En}{k k1 k2:Nat}{bn:List UInt8}
theorem Cp.iff{J':TEn->Ty->Prop}(h:Cp run J e k)(c:∀ ρ a,J ρ a↔J' ρ a):Cp run J' e k:=λn f W d i j=>by
 obtain⟨m,r,o,g,b⟩:=h n f W d i j;exact⟨m,r,o,g,{b with sound:=λs=>⟨(b.sound s).1,(c _ _).1 (b.sound s).2⟩,complete:=λs l=>b.complete s ((c _ _).2 l)}⟩
theorem Cp.shift{a:Nat->SS->Option (Nat×SS)}(h:Cp run J e k)(j:∀n st,a (n+1) st=run n st):Cp a J e k:=λst f W b g i=>by
 obtain⟨l,r,o,c,d⟩:=h st f W b g i;refine⟨l+1,r,o,λn p=>?_,d⟩;obtain⟨m,rfl⟩:∃m,n=m+1:=⟨n-1,oM⟩;rw[j];exact c m oM
theorem Z5(c:Nat)(a:Ty)(g:(c=0/\a=.int)\/(c=1/\a=.bool))(e:En):Cp (λ_ st=>some (c,st)) (λ_ τ=>τ=a) e 0:=λst f W b i j=>by
 have d:∀ {v:Nat->Ty},st.sat v->v c=a:=λs=>by
  have:=b.zkm s;rcases g with⟨rfl,rfl⟩|⟨rfl,rfl⟩
  ·exact this.1
  ·exact this.2
 refine⟨0,c,st,λ_ _=>rfl,⟨⟨f,W⟩,by have:=b.len;omega,znL _,znL _,b,id,λh _=>h,λs=>⟨s,d s⟩,λ{v τ} s h=>⟨v,λ_ _=>rfl,s,by rw[h];exact d s⟩⟩⟩
theorem zmi(h1:Cp run1 J1 e k1)(h2:Cp run2 J2 e k2):
  Cp (λn st=>(run1 n st).bind λa=>(run2 n a.2).bind λb=>Ld 4 a.1 b.1 b.2) (fun ρ τ=>∃a b,J1 ρ a/\J2 ρ b /\ τ=.pair a b) e (k1+k2+1):=λst f W b hb hl=>by
 obtain⟨n1,r1,st1,g1,I1⟩:=h1 st f W b hb oM;obtain⟨f1,W1⟩:=I1.wf;have l1:=I1.low;have u1:=I1.high;obtain⟨n2,r2,st2,g2,I2⟩:=h2 st1 f1 W1 I1.base (hb.mono l1) oM;obtain⟨f2,W2⟩:=I2.wf;have l2:=I2.low;have u2:=I2.high;have hr1:=I1.lt;have hr2:=I2.lt;obtain⟨st3,g3,A⟩:=Pl W2 (of:=4) (l:=r1) (r:=r2) oM oM oM (λ_ h=>absurd rfl h) oM;refine⟨max n1 n2,st2.shs.length,st3,λn hn=>?_,⟨A.wf,by rw[A.len];omega,by rw[A.len];omega,by rw[A.len];omega,A.base I2.base,λh=>I1.Ar (I2.Ar (A.Ar.symm.trans h)),λc h=>A.closed (I2.closed (I1.closed c (I2.Ar (A.Ar.symm.trans h))) (A.Ar.symm.trans h)),λ{v} s=>?_,λ{v τ} s ⟨a,c,ja,jc,hτ⟩=>?_⟩⟩
 ·show Option.bind _ _=_;rw[g1 n oM];simp only[zbS];rw[g2 n oM];exact g3
 ·obtain⟨s2,hx⟩:=A.sat.1 s;obtain⟨s1,j2⟩:=I2.sound s2;obtain⟨s0,j1⟩:=I1.sound s1;exact⟨s0,_,_,j1,j2,hx.2.2.2 rfl⟩
 ·obtain⟨v1,ag1,s1,e1⟩:=I1.complete s ja;obtain⟨v2,ag2,s2,e2⟩:=I2.complete s1 (a:=c) (by rw[En.Dg ag1 hb];exact jc);obtain⟨v3,ag3,s3,e3⟩:=A.put W2 s2 (a:=τ) (by
   refine⟨λh=>by simp at h,λh=>by simp at h,λh=>by simp at h,λ_=>?_⟩;simp only[upd,if_true];rw[jA oM,jA oM,ag2 r1 hr1,e1,e2,hτ])
  exact⟨v3,(ag1.trans ag2 l1).trans ag3 oM,s3,e3⟩
theorem zmj(h1:Cp run1 J1 e k1)(h2:Cp run2 J2 e k2):
  Cp (λn st=>(run1 n st).bind λx=>(run2 n x.2).bind λy=>(Ld 0 0 0 y.2).bind λto=>(Ld 3 y.1 to.1 to.2).bind λM=>(Eg n M.2 x.1 M.1).bind λst'=>some (to.1,st'))
   (fun ρ τ=>∃a,J1 ρ (.fn a τ)/\J2 ρ a) e (k1+k2+2):=λst Y W b s hl=>by
 obtain⟨n1,m,a2,g1,f⟩:=h1 st Y W b s oM;obtain⟨Z,Q⟩:=f.wf;have N:=f.low;have u1:=f.high;obtain⟨n2,v,D,g2,d⟩:=h2 a2 Z Q f.base (s.mono N) oM;obtain⟨f2,F⟩:=d.wf;have l2:=d.low;have u2:=d.high;have a0:=f.lt;have a1:=d.lt;obtain⟨a3,g3,g⟩:=Pl F (of:=0) (l:=0) (r:=0) oM oM oM (λ_ _=>⟨rfl,rfl⟩) oM;obtain⟨f3,G⟩:=g.wf;have e3:=g.len;obtain⟨a4,g4,i⟩:=Pl G (of:=3) (l:=v) (r:=D.shs.length) oM oM oM (λh=>absurd rfl h) oM;obtain⟨f4,R⟩:=i.wf;have e4:=i.len;obtain⟨n5,O,g5,U⟩:=Pv R (a:=m) (b:=a3.shs.length) oM oM;have q:O.Ar=false->D.Ar=false:=λh=>g.Ar.symm.trans (i.Ar.symm.trans (U.Ar h));refine⟨max (max n1 n2) n5,D.shs.length,O,λn hn=>?_,⟨U.wf,by rw[U.len];omega,by rw[U.len];omega,by rw[U.len];omega,U.base (i.base (g.base d.base)),λh=>f.Ar (d.Ar (q h)),λc h=>U.closed ((i.closed (g.closed (d.closed (f.closed c (d.Ar (q h))) (q h)))).more sM) h,λ{E} w=>?_,λ{E τ} w ⟨a,j,t⟩=>?_⟩⟩
 ·show Option.bind _ _=_;rw[g1 n oM];simp only[zbS];rw[g2 n oM];simp only[zbS];rw[g3];simp only[zbS];rw[g4];simp only[zbS];rw[g5 n oM];rfl
 ·obtain⟨C,hv⟩:=U.sound w;obtain⟨B,hx⟩:=i.sat.1 C;obtain⟨A,_⟩:=g.sat.1 B;obtain⟨z,t⟩:=d.sound A;obtain⟨s0,j⟩:=f.sound z;refine⟨s0,E v,?_,t⟩;rw[hv,hx.2.2.1 rfl]at j;exact j
 ·obtain⟨v1,H,z,V⟩:=f.complete w j;obtain⟨v2,I,A,X⟩:=d.complete z (a:=a) (by rw[En.Dg H s];exact t);obtain⟨v3,o,B,L⟩:=g.put F A (a:=τ) ⟨λh=>by simp at h,λh=>by simp at h,λh=>by simp at h,λh=>by simp at h⟩;obtain⟨P,p,C,T⟩:=i.put G B (a:=.fn a τ) (by
   refine⟨λh=>by simp at h,λh=>by simp at h,λ_=>?_,λh=>by simp at h⟩;simp only[upd,if_true];rw[jA oM,jA oM,L,o v a1,X])
  have S:I9 st.shs.length E P:=((H.trans I N).trans o oM).trans p oM;refine⟨P,S,U.sat C ?_,by rw[p _ oM,L]⟩;rw[T,p m oM,o m oM,I m a0,V]
theorem zfs(Y:Cp run1 J1 e k1)(Z:Cp run2 J2 e k2)(c:Nat)(d:Ty)(hc:(c=0/\d=.int)\/(c=1/\d=.bool)):
  Cp (λn st=>(run1 n st).bind λx=>(Eg n x.2 x.1 0).bind λF=>(run2 n F).bind λy=>(Eg n y.2 y.1 0).bind λst2=>some (c,st2))
   (fun ρ τ=>J1 ρ .int/\J2 ρ .int /\ τ=d) e (k1+k2):=λst R W b q hl=>by
 obtain⟨n1,r1,F,T,g⟩:=Y st R W b q oM;obtain⟨f1,H⟩:=g.wf;have l1:=g.low;have u1:=g.high;have bl:=b.len;obtain⟨n2,st2,U,i⟩:=Pv H (a:=r1) (b:=0) g.lt oM;obtain⟨S,I⟩:=i.wf;have e2:=i.len;have N:=i.base g.base;obtain⟨n3,r3,a3,V,f⟩:=Z st2 S I N (q.mono oM) oM;obtain⟨f3,L⟩:=f.wf;have l3:=f.low;have u3:=f.high;obtain⟨n4,G,X,h⟩:=Pv L (a:=r3) (b:=0) f.lt oM;have w:=h.base f.base;have B:∀ {v:Nat->Ty},G.sat v->v c=d:=λs=>by
  have:=w.zkm s;rcases hc with⟨rfl,rfl⟩|⟨rfl,rfl⟩
  ·exact this.1
  ·exact this.2
 refine⟨max (max n1 n2) (max n3 n4),c,G,λn hn=>?_,⟨h.wf,by rw[h.len];omega,by rw[h.len];omega,by rw[h.len];omega,w,λj=>g.Ar (i.Ar (f.Ar (h.Ar j))),λO j=>?_,λ{v} s=>?_,λ{v τ} s ⟨l,m,a2⟩=>?_⟩⟩
 ·show Option.bind _ _=_;rw[T n oM];simp only[zbS];rw[U n oM];simp only[zbS];rw[V n oM];simp only[zbS];rw[X n oM];rfl
 ·have A:=h.Ar j;have z:=f.Ar A;exact h.closed ((f.closed (i.closed ((g.closed O (i.Ar z)).more sM) z) A).more sM) j
 ·obtain⟨p,a1⟩:=h.sound s;obtain⟨r,m⟩:=f.sound p;obtain⟨o,a0⟩:=i.sound r;obtain⟨D,l⟩:=g.sound o;have C:=(b.zkm D).1;rw[a0,C]at l;rw[a1,C]at m;exact⟨D,l,m,B s⟩
 ·obtain⟨v1,t,o,P⟩:=g.complete s l;have r:=i.sat o (by rw[P,(g.base.zkm o).1]);obtain⟨v3,M,p,Q⟩:=f.complete r (a:=.int) (by rw[En.Dg t q];exact m);have E:=h.sat p (by rw[Q,(f.base.zkm p).1]);exact⟨v3,t.trans M oM,E,by rw[B E,a2]⟩
theorem zmk{I:Nat->SS->Option (Nat×SS)}{w:TEn->Ty->Prop}{H:Nat}(h1:Cp run1 J1 e k1)(h2:Cp run2 J2 e k2)(h3:Cp I w e H):
  Cp (λn st=>(run1 n st).bind λx=>(Eg n x.2 x.1 1).bind λM=>(run2 n M).bind λy=>(I n y.2).bind λz=>(Eg n z.2 y.1 z.1).bind λst2=>some (y.1,st2))
   (fun ρ τ=>J1 ρ .bool/\J2 ρ τ /\ w ρ τ) e (k1+k2+H):=λst Z W b i hl=>by
 obtain⟨n1,r1,M,g1,c⟩:=h1 st Z W b i oM;obtain⟨f1,P⟩:=c.wf;have l1:=c.low;have u1:=c.high;have bl:=b.len;obtain⟨n2,st2,g2,h⟩:=Pv P (a:=r1) (b:=1) c.lt oM;obtain⟨f2,Q⟩:=h.wf;have e2:=h.len;obtain⟨n3,o,a3,g3,d⟩:=h2 st2 f2 Q (h.base c.base) (i.mono oM) oM;obtain⟨f3,R⟩:=d.wf;have l3:=d.low;have u3:=d.high;have a0:=d.lt;obtain⟨n4,r4,a5,g4,f⟩:=h3 a3 f3 R d.base (i.mono oM) oM;obtain⟨f4,S⟩:=f.wf;have l4:=f.low;have u4:=f.high;obtain⟨n5,a4,g5,g⟩:=Pv S (a:=o) (b:=r4) oM f.lt;refine⟨max (max n1 n2) (max n3 (max n4 n5)),o,a4,λn hn=>?_,⟨g.wf,by rw[g.len];omega,by rw[g.len];omega,by rw[g.len];omega,g.base f.base,λj=>c.Ar (h.Ar (d.Ar (f.Ar (g.Ar j)))),λU j=>?_,λ{N} s=>?_,λ{N τ} s ⟨l,q,m⟩=>?_⟩⟩
 ·show Option.bind _ _=_;rw[g1 n oM];simp only[zbS];rw[g2 n oM];simp only[zbS];rw[g3 n oM];simp only[zbS];rw[g4 n oM];simp only[zbS];rw[g5 n oM];rfl
 ·have F:=g.Ar j;have E:=f.Ar F;have D:=d.Ar E;exact g.closed ((f.closed (d.closed (h.closed ((c.closed U (h.Ar D)).more sM) D) E) F).more sM) j
 ·obtain⟨v,a2⟩:=g.sound s;obtain⟨t,m⟩:=f.sound v;obtain⟨r,q⟩:=d.sound t;obtain⟨p,a1⟩:=h.sound r;obtain⟨L,l⟩:=c.sound p;rw[a1,(b.zkm L).2]at l;rw[<-a2]at m;exact⟨L,l,q,m⟩
 ·obtain⟨v1,A,p,V⟩:=c.complete s l;have r:=h.sat p (by rw[V,(c.base.zkm p).2]);obtain⟨v3,T,t,X⟩:=d.complete r (a:=τ) (by rw[En.Dg A i];exact q);have B:I9 st.shs.length N v3:=A.trans T oM;obtain⟨O,C,v,Y⟩:=f.complete t (a:=τ) (by rw[En.Dg B i];exact m);have G:O o=τ:=by rw[C o a0,X]
  exact⟨O,B.trans C oM,g.sat v (by rw[G,Y]),G⟩
theorem zr9{run:Nat->Nat->SS->Option (Nat×SS)}(h:∀r,Cp (run r) J (.fix bn r e) k):
  Cp (λn st=>(Ld 0 0 0 st).bind λg=>(run g.1 n g.2).bind λto=>Ld 3 g.1 to.1 to.2) (fun ρ τ=>∃a c,J (.fix bn a ρ) c /\ τ=.fn a c) e (k+2):=λst U W t x X=>by
 have bl:=t.len;obtain⟨P,E,f⟩:=Pl W (of:=0) (l:=0) (r:=0) oM oM oM (λ_ _=>⟨rfl,rfl⟩) oM;obtain⟨D,z⟩:=f.wf;have T:=f.len;obtain⟨M,y,Q,F,d⟩:=h st.shs.length P D z (f.base t) ⟨oM,x.mono oM⟩ oM;obtain⟨V,o⟩:=d.wf;have Z:=d.low;have u2:=d.high;have Y:=d.lt;obtain⟨R,G,b⟩:=Pl o (of:=3) (l:=st.shs.length) (r:=y) oM oM oM (λh=>absurd rfl h) oM;refine⟨M,Q.shs.length,R,λn H=>?_,⟨b.wf,by rw[b.len];omega,by rw[b.len];omega,by rw[b.len];omega,b.base d.base,λh=>f.Ar.symm.trans (d.Ar (b.Ar.symm.trans h)),λc h=>b.closed (d.closed (f.closed c) (b.Ar.symm.trans h)),λ{v} s=>?_,λ{v τ} s ⟨a,c,j,L⟩=>?_⟩⟩
 ·show Option.bind _ _=_;rw[E];simp only[zbS];rw[F n H];exact G
 ·obtain⟨m,I⟩:=b.sat.1 s;obtain⟨i,j⟩:=d.sound m;obtain⟨N,_⟩:=f.sat.1 i;exact⟨N,v st.shs.length,v y,j,I.2.2.1 rfl⟩
 ·obtain⟨v1,p,i,w⟩:=f.put W s (a:=a) ⟨λh=>by simp at h,λh=>by simp at h,λh=>by simp at h,λh=>by simp at h⟩;obtain⟨v2,q,m,B⟩:=d.complete i (a:=c) (by simp only[En.val];rw[w,En.Dg p x];exact j);obtain⟨S,A,O,C⟩:=b.put o m (a:=τ) (by
   refine⟨λh=>by simp at h,λh=>by simp at h,λ_=>?_,λh=>by simp at h⟩;simp only[upd,if_true];rw[jA oM,jA oM,q _ oM,w,B,L])
  exact⟨S,(p.trans q oM).trans A oM,O,C⟩
theorem zft{run:Nat->Nat->SS->Option (Nat×SS)}(h:∀r,Cp (run r) J (.fix bn r e) k):
  Cp (λn st=>(Ld 0 0 0 st).bind λown=>(run own.1 n own.2).bind λx=>(Eg n x.2 own.1 x.1).bind λst'=>some (own.1,st')) (fun ρ τ=>J (.fix bn τ ρ) τ) e (k+1):=λst P W b t R=>by
 have bl:=b.len;obtain⟨L,B,f⟩:=Pl W (of:=0) (l:=0) (r:=0) oM oM oM (λ_ _=>⟨rfl,rfl⟩) oM;obtain⟨A,w⟩:=f.wf;have O:=f.len;obtain⟨F,H,V,C,d⟩:=h st.shs.length L A w (f.base b) ⟨oM,t.mono oM⟩ oM;obtain⟨Q,y⟩:=d.wf;have T:=d.low;have u2:=d.high;obtain⟨G,M,D,U⟩:=Pv y (a:=st.shs.length) (b:=H) oM d.lt;refine⟨max F G,st.shs.length,M,λn S=>?_,⟨U.wf,by rw[U.len];omega,by rw[U.len];omega,by rw[U.len];omega,U.base d.base,λh=>f.Ar.symm.trans (d.Ar (U.Ar h)),λc h=>U.closed ((d.closed (f.closed c) (U.Ar h)).more sM) h,λ{N} s=>?_,λ{N τ} s j=>?_⟩⟩
 ·show Option.bind _ _=_;rw[B];simp only[zbS];rw[C n oM];simp only[zbS];rw[D n oM];rfl
 ·obtain⟨i,E⟩:=U.sound s;obtain⟨g,j⟩:=d.sound i;obtain⟨I,_⟩:=f.sat.1 g;refine⟨I,?_⟩;rw[<-E]at j;exact j
 ·obtain⟨X,m,g,p⟩:=f.put W s (a:=τ) ⟨λh=>by simp at h,λh=>by simp at h,λh=>by simp at h,λh=>by simp at h⟩;obtain⟨v,o,i,z⟩:=d.complete g (a:=τ) (by simp only[En.val];rw[p,En.Dg m t];exact j);have q:v st.shs.length=τ:=by rw[o _ oM,p]
  exact⟨v,m.trans o oM,U.sat i (by rw[q,z]),q⟩
theorem zpb{t:T}(z:Cp run1 J1 e k1)(A:Cp run2 J2 (.dfn bn t e) k2):
  Cp (λn st=>(run1 n st).bind λx=>run2 n x.2) (fun ρ τ=>(∃a,J1 ρ a)/\J2 (.dfn bn t ρ) τ) e (k1+k2):=λst r W p f Q=>by
 obtain⟨F,U,l,w,d⟩:=z st r W p f oM;obtain⟨v,m⟩:=d.wf;have j:=d.low;have u1:=d.high;obtain⟨G,H,M,y,b⟩:=A l v m d.base (show e.upto l.shs.length from f.mono j) oM;have S:=b.low;have u2:=b.high;refine⟨max F G,H,M,λn R=>?_,⟨b.wf,b.lt,oM,oM,b.base,λh=>d.Ar (b.Ar h),λc h=>b.closed (d.closed c (b.Ar h)) h,λ{N} s=>?_,λ{N τ} s ⟨⟨a,E⟩,B⟩=>?_⟩⟩
 ·show Option.bind _ _=_;rw[w n oM];exact y n oM
 ·obtain⟨g,D⟩:=b.sound s;obtain⟨I,C⟩:=d.sound g;exact⟨I,⟨_,C⟩,D⟩
 ·obtain⟨V,i,g,P⟩:=d.complete s E;obtain⟨O,o,L,q⟩:=b.complete g (a:=τ) (by simp only[En.val];rw[En.Dg i f];exact B);exact⟨O,i.trans o j,L,q⟩
theorem zml(sec:Bool)(e:En):
  Cp (λ_ st=>(Ld 0 0 0 st).bind λa=>(Ld 0 0 0 a.2).bind λb=>(Ld 4 a.1 b.1 b.2).bind λp=>Ld 3 p.1 (if sec then b.1 else a.1) p.2) (λ_ τ=>∃a c,τ=.fn (.pair a c) (if sec then c else a)) e 4:=λst f W b hb hl=>by
 have bl:=b.len;obtain⟨st1,g1,A1⟩:=Pl W (of:=0) (l:=0) (r:=0) oM oM oM (λ_ _=>⟨rfl,rfl⟩) oM;obtain⟨f1,W1⟩:=A1.wf;have e1:=A1.len;obtain⟨st2,g2,A2⟩:=Pl W1 (of:=0) (l:=0) (r:=0) oM oM oM (λ_ _=>⟨rfl,rfl⟩) oM;obtain⟨f2,W2⟩:=A2.wf;have e2:=A2.len;obtain⟨st3,g3,A3⟩:=Pl W2 (of:=4) (l:=st.shs.length) (r:=st1.shs.length) oM oM oM (λ_ h=>absurd rfl h) oM;obtain⟨f3,W3⟩:=A3.wf;have e3:=A3.len;have hsec:(if sec then st1.shs.length else st.shs.length)<st3.shs.length:=by split<;>omega
 obtain⟨st4,g4,A4⟩:=Pl W3 (of:=3) (l:=st2.shs.length) (r:=if sec then st1.shs.length else st.shs.length) oM oM oM (λh=>absurd rfl h) oM;refine⟨0,st3.shs.length,st4,λn _=>?_,⟨A4.wf,by rw[A4.len];omega,by rw[A4.len];omega,by rw[A4.len];omega,A4.base (A3.base (A2.base (A1.base b))),λh=>A1.Ar.symm.trans (A2.Ar.symm.trans (A3.Ar.symm.trans (A4.Ar.symm.trans h))),λc _=>A4.closed (A3.closed (A2.closed (A1.closed c))),λ{v} s=>?_,λ{v τ} s ⟨a,c,hτ⟩=>?_⟩⟩
 ·show Option.bind _ _=_;rw[g1];simp only[zbS];rw[g2];simp only[zbS];rw[g3];exact g4
 ·obtain⟨s3,h4⟩:=A4.sat.1 s;obtain⟨s2,h3⟩:=A3.sat.1 s3;obtain⟨s1,_⟩:=A2.sat.1 s2;obtain⟨s0,_⟩:=A1.sat.1 s1;refine⟨s0,v st.shs.length,v st1.shs.length,?_⟩;rw[h4.2.2.1 rfl];simp only;rw[h3.2.2.2 rfl];cases sec<;>rfl
 ·have none4:∀(w:Nat->Ty) (q:Nat),Sh.says ⟨0,0,0,q⟩ w q:=λw q=>⟨λh=>by simp at h,λh=>by simp at h,λh=>by simp at h,λh=>by simp at h⟩;obtain⟨v1,ag1,s1,d1⟩:=A1.put W s (a:=a) (none4 _ _);obtain⟨v2,ag2,s2,d2⟩:=A2.put W1 s1 (a:=c) (none4 _ _);obtain⟨v3,ag3,s3,d3⟩:=A3.put W2 s2 (a:=.pair a c) (by
   refine⟨λh=>by simp at h,λh=>by simp at h,λh=>by simp at h,λ_=>?_⟩;simp only[upd,if_true];rw[jA oM,jA oM,ag2 _ oM,d1,d2])
  obtain⟨v4,ag4,s4,d4⟩:=A4.put W3 s3 (a:=τ) (by
   refine⟨λh=>by simp at h,λh=>by simp at h,λ_=>?_,λh=>by simp at h⟩;simp only[upd,if_true];rw[jA oM,jA oM,d3,hτ];cases sec with
   |true=>simp only[if_true];rw[ag3 _ oM,d2]
   |false=>simp only[xA,if_false];rw[ag3 _ oM,ag2 _ oM,d1])
  exact⟨v4,((ag1.trans ag2 oM).trans ag3 oM).trans ag4 oM,s4,d4⟩
end
end
end Tw
abbrev fD:=@Nat.mul_le_mul_right
namespace Tw
section
open Go
section
variable{e:En}{x:List UInt8}{fr to r:Nat}
def T.recs:T->Nat
 |.name .. =>0
 |.int .. =>0
 |.Ak .. =>0
 |.side .. =>0
 |.bracket _ _ i=>i.recs
 |.pair _ _ l r=>l.recs+r.recs
 |.call _ _ l r=>l.recs+r.recs
 |.binary _ _ _ l r=>l.recs+r.recs
 |.cond _ _ c t f=>c.recs+t.recs+f.recs
 |.fn _ _ _ _ b=>b.recs
 |.Am _ _ rc _ _ d b=>(if rc then 1 else 0)+d.recs+b.recs
def Zf(e:En)(we:WEn)(B:Nat):Prop:=∀(x:zU) (k:Nat),we.look x=some k->1<=k /\
 ((∃r,e.look x=some (.inl r))\/∃t o,e.look x=some (.inr (t,o))/\(k<=2000->Cp (λn a=>defS n t o a) (Og t) o (B*k)))
theorem Zf.fix{e:En}{we:WEn}{B:Nat}(h:Zf e we B)(bn:zU)(r:Nat):Zf (.fix bn r e) (.cons bn 1 we) B:=by
 intro x k a;simp only[WEn.look]at a;simp only[En.look];split at a
 ·rename_i b;cases a;exact⟨znL _,.inl ⟨r,by rw[mA b]⟩⟩
 ·rename_i b;simp only[jA b];exact h x k a
theorem Zf.dfn{e:En}{we:WEn}{B b:Nat}(h:Zf e we B)(m:B<=b)(bn:zU)(t:T){k:Nat}(l:1<=k)(o:k<=2000->Cp (λn st=>defS n t e st) (Og t) e (b*k)):Zf (.dfn bn t e) (.cons bn k we) b:=by
 intro x p a;simp only[WEn.look]at a;simp only[En.look];split at a
 ·rename_i c;cases a;exact⟨l,.inr ⟨t,e,by rw[mA c],o⟩⟩
 ·rename_i c;simp only[jA c];obtain⟨d,f⟩:=h x p a;refine⟨d,f.imp id ?_⟩;rintro⟨s,q,g,i⟩;exact⟨s,q,g,λj=>(i j).mono (fD _ m)⟩
theorem zfu{t:T}{o:En}(b:e.look x=some (.inr (t,o))){k:Nat}(h:Cp (λn st=>defS n t o st) (Og t) o k):Cp (λn st=>Be n (.name fr to x) e st) (Typ (.name fr to x)) e k:=λst f W d i j=>by
 obtain⟨p,r,q,g,a⟩:=h st f W d ((i.look (x:=x)).2 t o b) j;have c:∀v:Nat->Ty,(e.val v).look x=some (.inr (t,o.val v)):=λv=>by rw[En.look_val,b];rfl
 refine⟨p+1,r,q,λn y=>?_,{a with sound:=λ{v} s=>⟨(a.sound s).1,.use (c v) (a.sound s).2⟩,complete:=λ{v w} s l=>a.complete s ?_}⟩
 ·obtain⟨m,rfl⟩:∃m,n=m+1:=⟨n-1,oM⟩;show Be (m+1) _ _ _=_;rw[Be,b];exact g m oM
 ·cases l with
  |name h=>rw[c]at h;cases h
  |use h hd=>rw[c]at h;cases h;exact hd
theorem zir(a:e.look x=some (.inl r)):Cp (λn st=>Be n (.name fr to x) e st) (Typ (.name fr to x)) e 0:=λst f W c d i=>by
 have b:∀v:Nat->Ty,(e.val v).look x=some (.inl (v r)):=λv=>by rw[En.look_val,a];rfl
 refine⟨1,r,st,λn k=>?_,⟨⟨f,W⟩,(d.look (x:=x)).1 r a,znL _,znL _,c,id,λh _=>h,λ{v} s=>⟨s,.name (b v)⟩,λ{v g} s j=>⟨v,λ_ _=>rfl,s,?_⟩⟩⟩
 ·obtain⟨m,rfl⟩:∃m,n=m+1:=⟨n-1,oM⟩;show Be (m+1) _ _ _=_;rw[Be,a]
 ·cases j with
  |name h=>rw[b]at h;cases h;rfl
  |use h hd=>rw[b]at h;cases h
theorem zv7{A a b c:Nat}(h:1<=A):A*a+A*b+c<=A*(c+a+b):=by
 rw[Nat.mul_add,Nat.mul_add];have:c<=A*c:=Nat.le_mul_of_pos_left c h;omega
theorem Dd:∀(t:T) (e:En) (we:WEn) (w B:Nat),Ah t we=some w->w<=2000->Zf e we B->4<=B->1<=w/\Cp (λn st=>Be n t e st) (Typ t) e ((B+t.recs)*w)
 |.name fr to x,e,we,w,B,hw,hl,hE,hB=>by
  simp only[Ah,zbE,zsI]at hw;obtain⟨k,hk,rfl⟩:=hw;have hkk:min k 2001=k:=oM;rw[hkk]at hl ⊢;obtain⟨h1,⟨r,hr⟩|⟨t,o,ht,hg⟩⟩:=hE x k hk
  ·exact⟨h1,(zir hr).mono oM⟩
  ·exact⟨h1,(zfu ht (hg hl)).mono (by simp[T.recs])⟩
 |.int fr to v,e,we,w,B,hw,hl,hE,hB=>by
  simp only[Ah,zsI]at hw;subst hw;exact⟨znL _,(((Z5 0 .int (.inl ⟨rfl,rfl⟩) e).iff (J':=Typ (.int fr to v)) (fun ρ a=>⟨λh=>by subst h;exact .int,λh=>by cases h;rfl⟩)).shift (λ_ _=>rfl)).mono oM⟩
 |.Ak fr to v,e,we,w,B,hw,hl,hE,hB=>by
  simp only[Ah,zsI]at hw;subst hw;exact⟨znL _,(((Z5 1 .bool (.inr ⟨rfl,rfl⟩) e).iff (J':=Typ (.Ak fr to v)) (fun ρ a=>⟨λh=>by subst h;exact .Ak,λh=>by cases h;rfl⟩)).shift (λ_ _=>rfl)).mono oM⟩
 |.side fr to sec,e,we,w,B,hw,hl,hE,hB=>by
  simp only[Ah,zsI]at hw;subst hw;exact⟨znL _,(((zml sec e).iff (J':=Typ (.side fr to sec)) (fun ρ a=>⟨λ⟨_,_,h⟩=>by subst h;exact .side,λh=>by cases h;exact⟨_,_,rfl⟩⟩)).shift (λ_ _=>rfl)).mono oM⟩
 |.bracket fr to i,e,we,w,B,hw,hl,hE,hB=>by
  simp only[Ah,zbE,zsI]at hw;obtain⟨k,hk,rfl⟩:=hw;obtain⟨h1,h2⟩:=Dd i e we k B hk oM hE hB;have hm:min (1+k) 2001=1+k:=oM;rw[hm];refine⟨oM,((h2.iff (J':=Typ (.bracket fr to i)) (fun ρ a=>⟨.bracket,λh=>by cases h;assumption⟩)).shift (λ_ _=>rfl)).mono (Nat.mul_le_mul (by simp[T.recs]) oM)⟩
 |.pair fr to l r,e,we,w,B,hw,hl,hE,hB=>by
  simp only[Ah,zbE,zsI]at hw;obtain⟨k1,hk1,k2,hk2,rfl⟩:=hw;obtain⟨a1,a2⟩:=Dd l e we k1 B hk1 oM hE hB;obtain⟨b1,b2⟩:=Dd r e we k2 B hk2 oM hE hB;have hm:min (1+k1+k2) 2001=1+k1+k2:=oM;rw[hm];have c1:Cp _ _ e ((B+(T.pair fr to l r).recs)*k1):=a2.mono (fD _ (by simp only[T.recs];omega));have c2:Cp _ _ e ((B+(T.pair fr to l r).recs)*k2):=b2.mono (fD _ (by simp only[T.recs];omega));refine⟨oM,(((zmi c1 c2).iff (J':=Typ (.pair fr to l r)) (fun ρ a=>⟨λ⟨_,_,h1,h2,h3⟩=>by subst h3;exact .pair h1 h2,λh=>by cases h with|pair h1 h2=>exact⟨_,_,h1,h2,rfl⟩⟩)).shift (λ_ _=>by rw[Be])).mono (zv7 oM)⟩
 |.call fr to l r,e,we,w,B,hw,hl,hE,hB=>by
  simp only[Ah,zbE,zsI]at hw;obtain⟨k1,hk1,k2,hk2,rfl⟩:=hw;obtain⟨a1,a2⟩:=Dd l e we k1 B hk1 oM hE hB;obtain⟨b1,b2⟩:=Dd r e we k2 B hk2 oM hE hB;have hm:min (1+k1+k2) 2001=1+k1+k2:=oM;rw[hm];have c1:Cp _ _ e ((B+(T.call fr to l r).recs)*k1):=a2.mono (fD _ (by simp only[T.recs];omega));have c2:Cp _ _ e ((B+(T.call fr to l r).recs)*k2):=b2.mono (fD _ (by simp only[T.recs];omega));refine⟨oM,(((zmj c1 c2).iff (J':=Typ (.call fr to l r)) (fun ρ a=>⟨λ⟨_,h1,h2⟩=>.call h1 h2,λh=>by cases h with|call h1 h2=>exact⟨_,h1,h2⟩⟩)).shift (λ_ _=>by rw[Be])).mono ?_⟩;have:(B+(T.call fr to l r).recs)*(1+k1+k2)=(B+(T.call fr to l r).recs)*1+(B+(T.call fr to l r).recs)*k1+(B+(T.call fr to l r).recs)*k2:=by rw[Nat.mul_add,Nat.mul_add]
  omega
 |.binary fr to sg l r,e,we,w,B,hw,hl,hE,hB=>by
  simp only[Ah,zbE,zsI]at hw;obtain⟨k1,hk1,k2,hk2,rfl⟩:=hw;obtain⟨a1,a2⟩:=Dd l e we k1 B hk1 oM hE hB;obtain⟨b1,b2⟩:=Dd r e we k2 B hk2 oM hE hB;have hm:min (1+k1+k2) 2001=1+k1+k2:=oM;rw[hm];have c1:Cp _ _ e ((B+(T.binary fr to sg l r).recs)*k1):=a2.mono (fD _ (by simp only[T.recs];omega));have c2:Cp _ _ e ((B+(T.binary fr to sg l r).recs)*k2):=b2.mono (fD _ (by simp only[T.recs];omega));have hc:((if sg=23\/sg=15 then 1 else 0)=0/\(if sg=23\/sg=15 then Ty.bool else .int)=.int)\/((if sg=23\/sg=15 then 1 else 0)=1/\(if sg=23\/sg=15 then Ty.bool else .int)=.bool):=by
   by_cases h:sg=23\/sg=15
   ·simp[h]
   ·simp[h]
  refine⟨oM,(((zfs c1 c2 _ _ hc).iff (J':=Typ (.binary fr to sg l r)) (fun ρ a=>⟨λ⟨h1,h2,h3⟩=>by subst h3;exact .binary h1 h2,λh=>by cases h with|binary h1 h2=>exact⟨h1,h2,rfl⟩⟩)).shift (λ_ _=>by rw[Be])).mono ?_⟩
  have:=zv7 (A:=B+(T.binary fr to sg l r).recs) (a:=k1) (b:=k2) (c:=1) oM;omega
 |.cond fr to c t f,e,we,w,B,hw,hl,hE,hB=>by
  simp only[Ah,zbE,zsI]at hw;obtain⟨k1,hk1,k2,hk2,k3,hk3,rfl⟩:=hw;obtain⟨a1,a2⟩:=Dd c e we k1 B hk1 oM hE hB;obtain⟨b1,b2⟩:=Dd t e we k2 B hk2 oM hE hB;obtain⟨d1,d2⟩:=Dd f e we k3 B hk3 oM hE hB;have hm:min (1+k1+k2+k3) 2001=1+k1+k2+k3:=oM;rw[hm];have c1:Cp _ _ e ((B+(T.cond fr to c t f).recs)*k1):=a2.mono (fD _ (by simp only[T.recs];omega));have c2:Cp _ _ e ((B+(T.cond fr to c t f).recs)*k2):=b2.mono (fD _ (by simp only[T.recs];omega));have c3:Cp _ _ e ((B+(T.cond fr to c t f).recs)*k3):=d2.mono (fD _ (by simp[T.recs]));refine⟨oM,(((zmk c1 c2 c3).iff (J':=Typ (.cond fr to c t f)) (fun ρ a=>⟨λ⟨h1,h2,h3⟩=>.cond h1 h2 h3,λh=>by cases h with|cond h1 h2 h3=>exact⟨h1,h2,h3⟩⟩)).shift (λ_ _=>by rw[Be])).mono ?_⟩;have:(B+(T.cond fr to c t f).recs)*(1+k1+k2+k3)=(B+(T.cond fr to c t f).recs)*1+(B+(T.cond fr to c t f).recs)*k1+(B+(T.cond fr to c t f).recs)*k2+(B+(T.cond fr to c t f).recs)*k3:=by rw[Nat.mul_add,Nat.mul_add,Nat.mul_add]
  omega
 |.fn fr to bn bat b,e,we,w,B,hw,hl,hE,hB=>by
  simp only[Ah,zbE,zsI]at hw;obtain⟨k,hk,rfl⟩:=hw;have hm:min (1+k) 2001=1+k:=oM;rw[hm];have h2:∀r,Cp (λn st=>Be n b (.fix bn r e) st) (Typ b) (.fix bn r e) ((B+(T.fn fr to bn bat b).recs)*k):=λr=>(Dd b (.fix bn r e) (.cons bn 1 we) k B hk oM (hE.fix bn r) hB).2;refine⟨oM,(((zr9 h2).iff (J':=Typ (.fn fr to bn bat b)) (fun ρ a=>⟨λ⟨_,_,h,h3⟩=>by subst h3;exact .fn h,λh=>by cases h with|fn h=>exact⟨_,_,h,rfl⟩⟩)).shift (λ_ _=>by rw[Be])).mono ?_⟩;have:(B+(T.fn fr to bn bat b).recs)*(1+k)=(B+(T.fn fr to bn bat b).recs)*1+(B+(T.fn fr to bn bat b).recs)*k:=by rw[Nat.mul_add]
  omega
 |.Am fr to rc bn bat d b,e,we,w,B,hw,hl,hE,hB=>by
  simp only[Ah,zbE,zsI]at hw;obtain⟨k1,hk1,k2,hk2,rfl⟩:=hw;have hm:min (1+(k1+k2)) 2001=1+(k1+k2):=oM;rw[hm];have h1:1<=k1/\Cp (λn st=>defS n (.Am fr to rc bn bat d b) e st) (Og (.Am fr to rc bn bat d b)) e ((B+(if rc then 1 else 0)+d.recs)*k1):=by
   cases rc with
   |false=>
    obtain⟨a1,a2⟩:=Dd d e we k1 B hk1 oM hE hB;exact⟨a1,((a2.iff (J':=Og (.Am fr to false bn bat d b)) (fun ρ a=>⟨.plain,λh=>by cases h;assumption⟩)).shift (λ_ _=>by rw[defS])).mono sM⟩
   |true=>
    have a2:∀r,1<=k1/\Cp (λn st=>Be n d (.fix bn r e) st) (Typ d) (.fix bn r e) ((B+d.recs)*k1):=λr=>Dd d (.fix bn r e) (.cons bn 1 we) k1 B hk1 oM (hE.fix bn r) hB;refine⟨(a2 0).1,(((zft (λr=>(a2 r).2)).iff (J':=Og (.Am fr to true bn bat d b)) (fun ρ a=>⟨.zon,λh=>by cases h;assumption⟩)).shift (λ_ _=>by rw[defS])).mono ?_⟩
    have:=(a2 0).1;have:(B+1+d.recs)*k1=(B+d.recs)*k1+k1:=(by rw[show B+1+d.recs=B+d.recs+1 by omega,Nat.add_mul,Nat.one_mul]);simp only[if_true];omega
  obtain⟨p1,p2⟩:=h1;have hE2:Zf (.dfn bn (.Am fr to rc bn bat d b) e) (.cons bn k1 we) (B+(if rc then 1 else 0)+d.recs):=hE.dfn oM bn _ p1 (λ_=>p2);obtain⟨q1,q2⟩:=Dd b (.dfn bn (.Am fr to rc bn bat d b) e) (.cons bn k1 we) k2 (B+(if rc then 1 else 0)+d.recs) hk2 oM hE2 oM;refine⟨oM,(((zpb p2 q2).iff (J':=Typ (.Am fr to rc bn bat d b)) (fun ρ a=>⟨λ⟨⟨_,h1⟩,h2⟩=>.Am h1 h2,λh=>by cases h with|Am h1 h2=>exact⟨⟨_,h1⟩,h2⟩⟩)).shift (λ_ _=>by rw[Be])).mono ?_⟩;have e1:(B+(if rc then 1 else 0)+d.recs)*k1<=(B+(T.Am fr to rc bn bat d b).recs)*k1:=fD _ (by simp[T.recs];omega);have e2:(B+(if rc then 1 else 0)+d.recs+b.recs)*k2=(B+(T.Am fr to rc bn bat d b).recs)*k2:=by simp[T.recs,Nat.add_assoc]
  have e3:(B+(T.Am fr to rc bn bat d b).recs)*(1+(k1+k2))=(B+(T.Am fr to rc bn bat d b).recs)*1+((B+(T.Am fr to rc bn bat d b).recs)*k1+(B+(T.Am fr to rc bn bat d b).recs)*k2):=by rw[Nat.mul_add,Nat.mul_add]
  omega
theorem Cu:∀(t:T) (we:WEn) (w:Nat),Ah t we=some w->w<=2000->t.recs<=w
 |.name ..,_,_,_,_=>by simp[T.recs]
 |.int ..,_,_,_,_=>by simp[T.recs]
 |.Ak ..,_,_,_,_=>by simp[T.recs]
 |.side ..,_,_,_,_=>by simp[T.recs]
 |.bracket _ _ i,we,w,h,hl=>by
  simp only[Ah,zbE,zsI]at h;obtain⟨k,n,rfl⟩:=h
  have:=Cu i we k n oM;simp only[T.recs];omega
 |.pair _ _ l r,we,w,h,hl=>by
  simp only[Ah,zbE,zsI]at h;obtain⟨j,a,m,g,rfl⟩:=h
  have:=Cu l we j a oM
  have:=Cu r we m g oM;simp only[T.recs];omega
 |.call _ _ l r,we,w,h,hl=>by
  simp only[Ah,zbE,zsI]at h;obtain⟨j,a,m,g,rfl⟩:=h
  have:=Cu l we j a oM
  have:=Cu r we m g oM;simp only[T.recs];omega
 |.binary _ _ _ l r,we,w,h,hl=>by
  simp only[Ah,zbE,zsI]at h;obtain⟨j,a,m,g,rfl⟩:=h
  have:=Cu l we j a oM
  have:=Cu r we m g oM;simp only[T.recs];omega
 |.cond _ _ c t f,we,w,h,hl=>by
  simp only[Ah,zbE,zsI]at h;obtain⟨j,a,m,g,p,o,rfl⟩:=h
  have:=Cu c we j a oM
  have:=Cu t we m g oM
  have:=Cu f we p o oM;simp only[T.recs];omega
 |.fn _ _ bn _ b,we,w,h,hl=>by
  simp only[Ah,zbE,zsI]at h;obtain⟨k,n,rfl⟩:=h
  have:=Cu b _ k n oM;simp only[T.recs];omega
 |.Am _ _ rc bn _ d b,we,w,h,hl=>by
  simp only[Ah,zbE,zsI]at h;obtain⟨j,a,m,g,rfl⟩:=h
  have:=Cu d _ j a oM
  have:=Cu b _ m g oM;simp only[T.recs];split<;>omega
def ss2:SS:=⟨[⟨1,0,0,0⟩,⟨2,0,0,1⟩],false⟩
theorem Uu{x:Sh}(h:ss2.shs[r]?=some x):(r=0/\x=⟨1,0,0,0⟩)\/(r=1/\x=⟨2,0,0,1⟩):=by
 match r,h with
 |0,h=>simp[ss2]at h;exact .inl ⟨rfl,h.symm⟩
 |1,h=>simp[ss2]at h;exact .inr ⟨rfl,h.symm⟩
 |r+2,h=>simp[ss2]at h
theorem zfv{p:Nat}(h:Aw ss2 r p):r=p:=by
 cases h with
 |here=>rfl
 |step h hs=>rcases Uu h with⟨rfl,rfl⟩|⟨rfl,rfl⟩<;>exact absurd rfl hs
theorem zuo:ss2.Wf (λ_=>0):=by
 refine⟨λr x h d=>?_,λr x h=>?_,λr x h=>?_,λr x h _ _=>?_,λr p x y b c a _=>?_⟩
 ·rcases Uu h with⟨rfl,rfl⟩|⟨rfl,rfl⟩<;>exact absurd rfl d
 ·rcases Uu h with⟨rfl,rfl⟩|⟨rfl,rfl⟩<;>simp[ss2]
 ·rcases Uu h with⟨rfl,rfl⟩|⟨rfl,rfl⟩<;>simp
 ·rcases Uu h with⟨rfl,rfl⟩|⟨rfl,rfl⟩<;>simp
 ·have:=zfv c;subst this;rw[b]at a;cases a;rfl
theorem zpc:ss2.base:=⟨⟨_,rfl,rfl⟩,_,rfl,rfl⟩
theorem zsa:ss2.sat (λr=>if r=0 then .int else .bool):=by
 refine⟨rfl,λr p h=>by rw[zfv h],λr x h=>?_⟩;rcases Uu h with⟨rfl,rfl⟩|⟨rfl,rfl⟩<;>exact⟨λh=>by simp at h ⊢,λh=>by simp at h ⊢,λh=>by simp at h,λh=>by simp at h⟩
theorem zis:ss2.Ki []:=by
 intro R _ _ _ r p x y a _ _ b;rcases Uu a with⟨rfl,rfl⟩|⟨rfl,rfl⟩<;>simp at b
theorem zit{t:T}{w:Nat}(g:Ah t .nil=some w)(c:w<=2000):∃d r st,(∀n,d<=n->Be n t .nil ss2=some (r,st))/\(∃f,st.Wf f)/\r<st.shs.length/\(st.Ar=false->st.Ki []) /\
  (∀ {v:Nat->Ty},st.sat v->Typ t .nil (v r))/\(∀ {a:Ty},Typ t .nil a->∃v,st.sat v/\v r=a)/\st.shs.length<=10000000:=by
 have p:=Cu t .nil w g c;obtain⟨_,h⟩:=Dd t .nil .nil w 4 g c (λx k l=>by simp[WEn.look]at l) oM;have o:(4+t.recs)*w<=2004*2000:=Nat.mul_le_mul oM c;obtain⟨d,r,st,i,b⟩:=h ss2 _ zuo zpc trivial (by simp[ss2];omega);refine⟨d,r,st,i,b.wf,b.lt,λj=>b.closed zis j,λs=>(b.sound s).2,λ{a} m=>?_,by have:=b.high;simp[ss2]at this;omega⟩;obtain⟨v,_,s,e⟩:=b.complete zsa (a:=a) m;exact⟨v,s,e⟩
end
end
end Tw
abbrev kD:=@List.getElem?_replicate
abbrev yD:=@Nat.zero_le
namespace Tw
section
open Go
section
variable{r p:Nat}{mk:List Int}{m:Int}{f:Nat->Nat}
inductive Gm(st:SS):Nat->Ty->Prop
 |var {r p:Nat} {x:Sh} (hr:Aw st r p) (hx:st.shs[p]?=some x) (hs:x.sort=0):Gm st r (.var p)
 |int {r p:Nat} {x:Sh} (hr:Aw st r p) (hx:st.shs[p]?=some x) (hs:x.sort=1):Gm st r .int
 |bool {r p:Nat} {x:Sh} (hr:Aw st r p) (hx:st.shs[p]?=some x) (hs:x.sort=2):Gm st r .bool
 |fn {r p:Nat} {x:Sh} {a b:Ty} (hr:Aw st r p) (hx:st.shs[p]?=some x) (hs:x.sort=3) (ha:Gm st x.left a) (hb:Gm st x.right b):Gm st r (.fn a b)
 |pair {r p:Nat} {x:Sh} {a b:Ty} (hr:Aw st r p) (hx:st.shs[p]?=some x) (hs:x.sort=4) (ha:Gm st x.left a) (hb:Gm st x.right b):Gm st r (.pair a b)
theorem Gm.move{st:SS}{q:Nat}{a:Ty}(h:Gm st r a)(k:st.eqv r q):Gm st q a:=by
 obtain⟨p,b,c⟩:=k;cases h with
 |var hr hx hs=>rw[hr.unique b]at hx ⊢;exact .var c hx hs
 |int hr hx hs=>rw[hr.unique b]at hx;exact .int c hx hs
 |bool hr hx hs=>rw[hr.unique b]at hx;exact .bool c hx hs
 |fn hr hx hs ha hb=>rw[hr.unique b]at hx;exact .fn c hx hs ha hb
 |pair hr hx hs ha hb=>rw[hr.unique b]at hx;exact .pair c hx hs ha hb
theorem Gm.sim{st st':SS}(S:st.Sim st'){a:Ty}(h:Gm st r a):Gm st' r a:=by
 induction h with
 |var hr hx hs=>obtain⟨y,c,b,_⟩:=S.shape _ _ hx;exact .var ((S.root _ _).1 hr) c (b.trans hs)
 |int hr hx hs=>obtain⟨y,c,b,_⟩:=S.shape _ _ hx;exact .int ((S.root _ _).1 hr) c (b.trans hs)
 |bool hr hx hs=>obtain⟨y,c,b,_⟩:=S.shape _ _ hx;exact .bool ((S.root _ _).1 hr) c (b.trans hs)
 |fn hr hx hs _ _ ha hb=>obtain⟨y,c,b,d,e⟩:=S.shape _ _ hx;exact .fn ((S.root _ _).1 hr) c (b.trans hs) (by rw[d];exact ha) (by rw[e];exact hb)
 |pair hr hx hs _ _ ha hb=>obtain⟨y,c,b,d,e⟩:=S.shape _ _ hx;exact .pair ((S.root _ _).1 hr) c (b.trans hs) (by rw[d];exact ha) (by rw[e];exact hb)
theorem SS.Sim.symm{a b:SS}(h:a.Sim b):b.Sim a:=⟨h.len.symm,h.Ar.symm,λr y i=>by
 obtain⟨x,g,c,d,e⟩:=h.back i
 exact⟨x,g,c.symm,d.symm,e.symm⟩,λr p=>(h.root r p).symm⟩
theorem Gm.unique{st:SS}{a b:Ty}(h:Gm st r a)(k:Gm st r b):a=b:=by
 induction h generalizing b with
 |var hr hx hs=>cases k with
  |var hr' hx' hs'=>rw[hr.unique hr']
  |int hr' hx' hs'=>rw[hr.unique hr',hx']at hx;cases hx;omega
  |bool hr' hx' hs'=>rw[hr.unique hr',hx']at hx;cases hx;omega
  |fn hr' hx' hs'=>rw[hr.unique hr',hx']at hx;cases hx;omega
  |pair hr' hx' hs'=>rw[hr.unique hr',hx']at hx;cases hx;omega
 |int hr hx hs=>cases k with
  |var hr' hx' hs'=>rw[hr.unique hr',hx']at hx;cases hx;omega
  |int=>rfl
  |bool hr' hx' hs'=>rw[hr.unique hr',hx']at hx;cases hx;omega
  |fn hr' hx' hs'=>rw[hr.unique hr',hx']at hx;cases hx;omega
  |pair hr' hx' hs'=>rw[hr.unique hr',hx']at hx;cases hx;omega
 |bool hr hx hs=>cases k with
  |var hr' hx' hs'=>rw[hr.unique hr',hx']at hx;cases hx;omega
  |int hr' hx' hs'=>rw[hr.unique hr',hx']at hx;cases hx;omega
  |bool=>rfl
  |fn hr' hx' hs'=>rw[hr.unique hr',hx']at hx;cases hx;omega
  |pair hr' hx' hs'=>rw[hr.unique hr',hx']at hx;cases hx;omega
 |fn hr hx hs _ _ iha ihb=>cases k with
  |var hr' hx' hs'=>rw[hr.unique hr',hx']at hx;cases hx;omega
  |int hr' hx' hs'=>rw[hr.unique hr',hx']at hx;cases hx;omega
  |bool hr' hx' hs'=>rw[hr.unique hr',hx']at hx;cases hx;omega
  |fn hr' hx' hs' ha' hb'=>rw[hr.unique hr',hx']at hx;cases hx;rw[iha ha',ihb hb']
  |pair hr' hx' hs'=>rw[hr.unique hr',hx']at hx;cases hx;omega
 |pair hr hx hs _ _ iha ihb=>cases k with
  |var hr' hx' hs'=>rw[hr.unique hr',hx']at hx;cases hx;omega
  |int hr' hx' hs'=>rw[hr.unique hr',hx']at hx;cases hx;omega
  |bool hr' hx' hs'=>rw[hr.unique hr',hx']at hx;cases hx;omega
  |fn hr' hx' hs'=>rw[hr.unique hr',hx']at hx;cases hx;omega
  |pair hr' hx' hs' ha' hb'=>rw[hr.unique hr',hx']at hx;cases hx;rw[iha ha',ihb hb']
def Ty.size:Ty->Nat
 |.var _=>1
 |.int=>1
 |.bool=>1
 |.fn a b=>a.size+b.size+1
 |.pair a b=>a.size+b.size+1
structure zbf(st:SS)(mk:List Int):Prop where
 len:mk.length=st.shs.length
 val:∀(p:Nat) (m:Int),mk[p]?=some m->m=0\/m=1\/m=2
 done:∀p:Nat,mk[p]?=some 2->∃a,Gm st p a
def Ke(mk:List Int):Nat:=mk.countP (· == 0)
theorem Th(h:mk[p]?=some 0)(b:m≠0):Ke (mk.set p m)+1=Ke mk:=by
 induction mk generalizing p with
 |nil=>simp at h
 |cons a mk ih=>
  cases p with
  |zero=>
   simp at h;subst h;simp only[zsZ,Ke,List.countP_cons];simp[b]
  |succ p=>
   simp only[zsS,Ke,List.countP_cons]
   have:=ih (p:=p) (by simpa using h);unfold Ke at this;omega
theorem Uv{a:Int}(h:mk[p]?=some a)(c:a≠0)(d:m≠0):Ke (mk.set p m)=Ke mk:=by
 induction mk generalizing p with
 |nil=>simp at h
 |cons b mk ih=>
  cases p with
  |zero=>
   simp at h;subst h;simp only[zsZ,Ke,List.countP_cons];simp[d,c]
  |succ p=>
   simp only[zsS,Ke,List.countP_cons]
   have:=ih (p:=p) (by simpa using h);unfold Ke at this;omega
theorem Gp(a:p<mk.length)(q:Nat):(mk.set p m)[q]?=if q=p then some m else mk[q]? :=by
 by_cases h:q=p
 ·subst h;rw[mA rfl,List.getElem?_set_self a]
 ·rw[jA h,qD (λe=>h e.symm)]
structure HOk(st:SS)(mk:List Int)(r:Nat)(b:Bool)(st':SS)(mk':List Int):Prop where
 sim:st.Sim st'
 yes:b=true->∀v:Nat->Ty,¬st.sat v
 no:b=false->(∃a,Gm st r a)/\zbf st mk'/\(∀p:Nat,mk'[p]?=some 1↔mk[p]?=some 1)/\Ke mk'<=Ke mk
theorem zfw{st:SS}{x:Sh}{v:Nat->Ty}(s:st.sat v)(b:st.shs[p]?=some x)(a:x.sort=3\/x.sort=4):(v x.left).size<(v p).size/\(v x.right).size<(v p).size:=by
 have:=s.shape p x b;rcases a with h|h
 ·rw[this.2.2.1 h];simp only[Ty.size];omega
 ·rw[this.2.2.2 h];simp only[Ty.size];omega
theorem ziu :∀(z:Nat) {st:SS} {mk:List Int} {r:Nat},st.Wf f->zbf st mk->Ke mk<=z->r<st.shs.length->(∀v:Nat->Ty,st.sat v->∀p:Nat,mk[p]?=some 1->(v r).size<(v p).size) ->
  ∃n0 b st' mk',(∀n,n0<=n->Ir n st mk r=some (b,st',mk'))/\st'.Wf f/\HOk st mk r b st' mk':=by
 intro z
 induction z with
 |zero=>
  intro st mk r W M hz hr hS;obtain⟨n1,p,st1,f1,rp,W1,S1⟩:=Lj W hr;have rp1:=(S1.root _ _).1 rp;obtain⟨x,hx,_⟩:=rp1.root;have hpl:=rp.lt.2;have hpm:p<mk.length:=by rw[M.len];exact hpl
  have hm:mk[p]?=some mk[p]:=fA hpm;have h0:mk[p]≠0:=by
   intro e;have:0<Ke mk:=List.countP_pos_iff.2 ⟨mk[p],List.getElem_mem _,by simp[e]⟩;omega
  refine⟨n1+1,mk[p]==1,st1,mk,λn hn=>?_,W1,S1,λhb v s=>?_,λhb=>⟨?_,M,λ_=>.rfl,znL _⟩⟩
  ·obtain⟨m,rfl⟩:∃m,n=m+1:=⟨n-1,oM⟩;rw[Ir,f1 m oM];simp only[zbS,hx,hm];rw[jA (λh=>h0 h.1)]
  ·simp only[beq_iff_eq]at hb
   have:=hS v s p (by rw[hm,hb]);rw[s.root r p rp]at this;omega
  ·have h2:mk[p]=2:=by
    rcases M.val p _ hm with h|h|h
    ·exact absurd h h0
    ·rw[h]at hb;simp at hb
    ·exact h
   obtain⟨a,ha⟩:=M.done p (by rw[hm,h2]);exact⟨a,ha.move ⟨p,rp.self,rp⟩⟩
 |succ z ih=>
  intro st mk r W M hz hr hS;obtain⟨n1,p,st1,f1,rp,W1,S1⟩:=Lj W hr;have rp1:=(S1.root _ _).1 rp;obtain⟨x,hx,_⟩:=rp1.root;obtain⟨x0,hx0,e1,e2,e3⟩:=S1.back hx;have hpl:=rp.lt.2;have hpm:p<mk.length:=by rw[M.len];exact hpl
  have hm:mk[p]?=some mk[p]:=fA hpm;by_cases hgo:mk[p]=0/\Rk x=true;rotate_left
  ·refine⟨n1+1,mk[p]==1,st1,mk,λn hn=>?_,W1,S1,λhb v s=>?_,λhb=>⟨?_,M,λ_=>.rfl,znL _⟩⟩
   ·obtain⟨m,rfl⟩:∃m,n=m+1:=⟨n-1,oM⟩;rw[Ir,f1 m oM];simp only[zbS,hx,hm];rw[jA hgo]
   ·simp only[beq_iff_eq]at hb
    have:=hS v s p (by rw[hm,hb]);rw[s.root r p rp]at this;omega
   ·rcases M.val p _ hm with h|h|h
    ·have hnm:Rk x=false:=by
      cases hx':Rk x
      ·rfl
      ·exact absurd ⟨h,hx'⟩ hgo
     have hs:=W.sort p x0 hx0;rw[<-e1]at hs;unfold Rk at hnm;simp only[Bool.or_eq_false_iff,beq_eq_false_iff_ne]at hnm;rcases hs with h'|h'|h'|h'|h'
     ·exact⟨_,.var rp hx0 (e1.symm.trans h')⟩
     ·exact⟨_,.int rp hx0 (e1.symm.trans h')⟩
     ·exact⟨_,.bool rp hx0 (e1.symm.trans h')⟩
     ·exact absurd h' hnm.1
     ·exact absurd h' hnm.2
    ·rw[h]at hb;simp at hb
    ·obtain⟨a,ha⟩:=M.done p (by rw[hm,h]);exact⟨a,ha.move ⟨p,rp.self,rp⟩⟩
  ·obtain⟨hm0,hmade⟩:=hgo;have hmade':x.sort=3\/x.sort=4:=by
    unfold Rk at hmade;simpa using hmade
   have hp0:mk[p]?=some 0:=(by rw[hm,hm0]);have g1:=Gp (mk:=mk) (m:=1) hpm;have M1:zbf st1 (mk.set p 1):=by
    refine⟨by simp[M.len,S1.len],λq m hq=>?_,λq hq=>?_⟩
    ·rw[g1]at hq;split at hq
     ·cases hq;exact .inr (.inl rfl)
     ·exact M.val q m hq
    ·rw[g1]at hq;split at hq
     ·cases hq
     ·obtain⟨a,ha⟩:=M.done q hq;exact⟨a,ha.sim S1⟩
   have z1:Ke (mk.set p 1)<=z:=(by have:=Th (m:=1) hp0 oM;omega);have range:=W1.range p x hx;have below:∀(v:Nat->Ty),st1.sat v->∀q:Nat,(mk.set p 1)[q]?=some 1->(v p).size<=(v q).size:=λv s q hq=>by
    rw[g1]at hq;split at hq
    ·rename_i h;rw[h];exact znL _
    ·have s0:=S1.sat.2 s
     have:=hS v s0 q hq;rw[s0.root r p rp]at this;omega
   obtain⟨n2,b2,st2,mk2,h2,W2,H2⟩:=ih (r:=x.left) W1 M1 z1 range.2.1 (λv s q hq=>by have:=below v s q hq;have:=(zfw s hx hmade').1;omega);have unf:∀m,n1<=m->Ir (m+1) st mk r=(Ir m st1 (mk.set p 1) x.left).bind λa=>if a.1 then some (true,a.2)else(Ir m a.2.1 a.2.2 x.right).bind λb=>if b.1 then some (true,b.2)else some (false,b.2.1,b.2.2.set p 2):=λm hm'=>by
    rw[Ir,f1 m hm'];simp only[zbS,hx,hm];rw[mA ⟨hm0,hmade⟩]
   cases b2 with
   |true=>
    refine⟨max n1 n2+1,true,st2,mk2,λn hn=>?_,W2,S1.trans H2.sim,λ_ v s=>H2.yes rfl v (S1.sat.1 s),λh=>by cases h⟩;obtain⟨m,rfl⟩:∃m,n=m+1:=⟨n-1,oM⟩;rw[unf m oM,h2 m oM];rfl
   |false=>
    obtain⟨⟨a,ha⟩,M2,w2,z2⟩:=H2.no rfl;have M2':zbf st2 mk2:=⟨by rw[M2.len,H2.sim.len],M2.val,λq hq=>by obtain⟨c,hc⟩:=M2.done q hq;exact⟨c,hc.sim H2.sim⟩⟩;obtain⟨x2,hx2,d1,d2,d3⟩:=H2.sim.shape p x hx;have hmade2:x2.sort=3\/x2.sort=4:=(by rw[d1];exact hmade');have range2:=W2.range p x2 hx2;obtain⟨n3,b3,st3,mk3,h3,W3,H3⟩:=ih (st:=st2) (mk:=mk2) (r:=x.right) W2 M2' oM (by rw[<-d3];exact range2.2.2) (λv s q hq=>by
     have s1:=H2.sim.sat.2 s
     have:=below v s1 q ((w2 q).1 hq)
     have:=(zfw s1 hx hmade').2;omega)
    cases b3 with
    |true=>
     refine⟨max n1 (max n2 n3)+1,true,st3,mk3,λn hn=>?_,W3,(S1.trans H2.sim).trans H3.sim,λ_ v s=>H3.yes rfl v (H2.sim.sat.1 (S1.sat.1 s)),λh=>by cases h⟩;obtain⟨m,rfl⟩:∃m,n=m+1:=⟨n-1,oM⟩;rw[unf m oM,h2 m oM];simp only[zbS,xA,if_false];rw[h3 m oM];rfl
    |false=>
     obtain⟨⟨b,hb⟩,M3,w3,z3⟩:=H3.no rfl;have hb1:Gm st1 x.right b:=hb.sim H2.sim.symm;have hpm3:p<mk3.length:=(by rw[M3.len,H2.sim.len,S1.len];exact hpl);have g3:=Gp (mk:=mk3) (m:=2) hpm3;have FP:∃c,Gm st p c:=by
      have hl:Gm st x0.left a:=(by rw[<-e2];exact ha.sim S1.symm);have hr':Gm st x0.right b:=(by rw[<-e3];exact hb1.sim S1.symm);rcases hmade' with h|h
      ·exact⟨_,.fn rp.self hx0 (e1.symm.trans h) hl hr'⟩
      ·exact⟨_,.pair rp.self hx0 (e1.symm.trans h) hl hr'⟩
     have wp:mk3[p]?=some 1:=(w3 p).2 ((w2 p).2 (by rw[g1,mA rfl]));refine⟨max n1 (max n2 n3)+1,false,st3,mk3.set p 2,λn hn=>?_,W3,(S1.trans H2.sim).trans H3.sim,λh=>(by cases h),λ_=>⟨?_,⟨?_,λq m hq=>?_,λq hq=>?_⟩,λq=>?_,?_⟩⟩
     ·obtain⟨m,rfl⟩:∃m,n=m+1:=⟨n-1,oM⟩;rw[unf m oM,h2 m oM];simp only[zbS,xA,if_false];rw[h3 m oM];rfl
     ·obtain⟨c,hc⟩:=FP;exact⟨c,hc.move ⟨p,rp.self,rp⟩⟩
     ·simp[M3.len,H2.sim.len,S1.len]
     ·rw[g3]at hq;split at hq
      ·cases hq;exact .inr (.inr rfl)
      ·exact M3.val q m hq
     ·rw[g3]at hq;split at hq
      ·rename_i h;rw[h];exact FP
      ·obtain⟨c,hc⟩:=M3.done q hq;exact⟨c,(hc.sim H2.sim.symm).sim S1.symm⟩
     ·rw[g3];by_cases hq:q=p
      ·subst hq;simp[hp0]
      ·rw[jA hq,w3 q,w2 q,g1,jA hq]
     ·have:=Uv (m:=2) wp oM oM
      have:=Th (m:=1) hp0 oM;omega
theorem zmm{N:Nat}:∀(k:Nat) {st:SS} {mk:List Int} {r:Nat},st.Wf f->zbf st mk->(∀p:Nat,mk[p]? ≠ some 1)->N=st.shs.length->r+k=N ->
  ∃O b st',(∀n,O<=n->E9 n (k+1) st mk r N=some (b,st'))/\st'.Wf f/\st.Sim st'/\(b=true->∀v:Nat->Ty,¬st.sat v)/\(b=false->∀q,r<=q->q<N->∃a,Gm st q a):=by
 intro k
 induction k with
 |zero=>
  intro st mk r W M g w L;refine⟨0,false,st,λn _=>?_,W,.refl _,λh=>(by cases h),λ_ q V t=>absurd t oM⟩;rw[E9,jA oM]
 |succ k ih=>
  intro st mk r W M g w L;obtain⟨z,E,l,y,s,o,d⟩:=ziu (Ke mk) W M (znL _) (r:=r) oM (λv _ p i=>absurd i (g p));cases E with
  |true=>
   refine⟨z,true,l,λn x=>?_,o,d.sim,λ_=>d.yes rfl,λh=>(by cases h)⟩;rw[E9,mA oM,s n x];rfl
  |false=>
   obtain⟨A,e,T,_⟩:=d.no rfl;have B:zbf l y:=⟨by rw[e.len,d.sim.len],e.val,λq j=>by obtain⟨c,J⟩:=e.done q j;exact⟨c,J.sim d.sim⟩⟩;obtain⟨P,F,S,G,D,C,U,Q⟩:=ih (st:=l) (mk:=y) (r:=r+1) o B (λp i=>g p ((T p).1 i)) (by rw[d.sim.len];exact w) oM;refine⟨max z P,F,S,λn x=>?_,D,d.sim.trans C,λh v R=>U h v (d.sim.sat.1 R),λh q t H=>?_⟩
   ·rw[E9,mA oM,s n oM];simp only[zbS,xA,if_false];exact G n oM
   ·by_cases j:q=r
    ·rw[j];exact A
    ·obtain⟨a,I⟩:=Q h q oM H;exact⟨a,I.sim d.sim.symm⟩
theorem zd3{st:SS}(W:st.Wf f):∃d b st',(∀n,d<=n->Ss n st=some (b,st'))/\st'.Wf f/\st.Sim st'/\(b=true->∀v:Nat->Ty,¬st.sat v)/\(b=false->∀q,q<st.shs.length->∃a,Gm st q a):=by
 have M:zbf st (List.replicate st.shs.length 0):=by
  refine⟨sM,λp m c=>?_,λp c=>?_⟩
  ·rw[kD]at c;split at c<;>cases c;exact .inl rfl
  ·rw[kD]at c;split at c<;>cases c
 obtain⟨d,b,st',g,e,S,y,o⟩:=zmm (N:=st.shs.length) st.shs.length W M (r:=0) (λp c=>by
  rw[kD]at c;split at c<;>cases c) rfl oM
 exact⟨d,b,st',g,e,S,y,λh q i=>o h q (yD _) i⟩
def Ty.sub(s:Nat->Ty):Ty->Ty
 |.var n=>s n
 |.int=>.int
 |.bool=>.bool
 |.fn a b=>.fn (a.sub s) (b.sub s)
 |.pair a b=>.pair (a.sub s) (b.sub s)
theorem Gm.val{st:SS}{v:Nat->Ty}(s:st.sat v){a:Ty}(h:Gm st r a):v r=a.sub v:=by
 induction h with
 |var hr hx hs=>exact s.root _ _ hr
 |int hr hx hs=>rw[s.root _ _ hr];exact(s.shape _ _ hx).1 hs
 |bool hr hx hs=>rw[s.root _ _ hr];exact(s.shape _ _ hx).2.1 hs
 |fn hr hx hs _ _ ha hb=>rw[s.root _ _ hr,(s.shape _ _ hx).2.2.1 hs,ha,hb];rfl
 |pair hr hx hs _ _ ha hb=>rw[s.root _ _ hr,(s.shape _ _ hx).2.2.2 hs,ha,hb];rfl
theorem SS.zky(st:SS):Rel st.eqv:=⟨λh=>h.symm,λh k=>h.trans k⟩
theorem ziv{st:SS}(W:st.Wf f)(t:st.Ar=false)(C:st.Ki [])(F:∀q,q<st.shs.length->∃a,Gm st q a)(s:Nat->Ty):∃v,st.sat v/\∀r a,Gm st r a->v r=a.sub s:=by
 classical
 let v:Nat->Ty:=λr=>if h:r<st.shs.length then(Classical.choose (F r h)).sub s else .int;have c:∀r a,Gm st r a->v r=a.sub s:=by
  intro r a h;have b:r<st.shs.length:=by cases h with
   |var b=>exact b.lt.1
   |int b=>exact b.lt.1
   |bool b=>exact b.lt.1
   |fn b=>exact b.lt.1
   |pair b=>exact b.lt.1
  simp only[v,dif_pos b];rw[(Classical.choose_spec (F r b)).unique h]
 refine⟨v,⟨t,λr p b=>?_,λr x j=>?_⟩,c⟩
 ·obtain⟨a,d⟩:=F r b.lt.1;rw[c r a d,c p a (d.move ⟨p,b,b.self⟩)]
 ·have b:=(zlE.1 j).1;obtain⟨p,e⟩:=W.Ra b;obtain⟨y,g,_⟩:=e.root;have k:=W.Yf r p x y j e g;have range:=W.range r x j;refine⟨λh=>?_,λh=>?_,λh=>?_,λh=>?_⟩
  ·rw[c r _ (.int e g (by rw[k oM,h]))];rfl
  ·rw[c r _ (.bool e g (by rw[k oM,h]))];rfl
  ·obtain⟨l,n⟩:=C st.eqv st.zky (λ_ _ h=>h) sM r p x y j e g (.inl h);obtain⟨a,d⟩:=F x.left range.2.1;obtain⟨o,i⟩:=F x.right range.2.2;rw[c r _ (.fn e g (by rw[k oM,h]) (d.move l) (i.move n)),c _ _ d,c _ _ i];rfl
  ·obtain⟨l,n⟩:=C st.eqv st.zky (λ_ _ h=>h) sM r p x y j e g (.inr h);obtain⟨a,d⟩:=F x.left range.2.1;obtain⟨o,i⟩:=F x.right range.2.2;rw[c r _ (.pair e g (by rw[k oM,h]) (d.move l) (i.move n)),c _ _ d,c _ _ i];rfl
def Ws(t:T)(a:Ty):Prop:=∀b,Typ t .nil b↔∃s,b=a.sub s
theorem ziw{t:T}{w:Nat}(E:Ah t .nil=some w)(z:w<=2000):∃i r st,(∀n,i<=n->Be n t .nil ss2=some (r,st)) /\
  ((st.Ar=true/\∀a,¬Typ t .nil a)\/(st.Ar=false/\∃b st',(∀n,i<=n->Ss n st=some (b,st'))/\((b=true/\∀a,¬Typ t .nil a)\/(b=false/\(∃f,st'.Wf f)/\∃a,Gm st' r a/\Ws t a)))):=by
 obtain⟨j,r,st,h,⟨f,W⟩,B,x,C,g,_⟩:=zit E z;cases e:st.Ar with
 |true=>
  refine⟨j,r,st,h,.inl ⟨e,λa d=>?_⟩⟩;obtain⟨v,s,_⟩:=g d;rw[s.Ar]at e;cases e
 |false=>
  obtain⟨F,b,st',q,k,S,I,o⟩:=zd3 W;refine⟨max j F,r,st,λn A=>h n oM,.inr ⟨e,b,st',λn A=>q n oM,?_⟩⟩;cases b with
  |true=>
   refine .inl ⟨rfl,λa d=>?_⟩;obtain⟨v,s,_⟩:=g d;exact I rfl v s
  |false=>
   obtain⟨a,d⟩:=o rfl r B;refine .inr ⟨rfl,⟨f,k⟩,a,d.sim S,λc=>⟨λy=>?_,λ⟨s,D⟩=>?_⟩⟩
   ·obtain⟨v,s,l⟩:=g y;exact⟨v,by rw[<-l];exact d.val s⟩
   ·obtain⟨v,G,H⟩:=ziv W e (x e) (o rfl) s;rw[D,<-H r a d];exact C G
end
end
end Tw
section
open Tw Go.Proofs.Tryz
open Go.RowKit
section
variable{w:World}{e:Tw.WEn}{v:Value}
def WAt(w:World):WEn->Value->Prop
 |.nil,v=>v=.pointer none
 |.cons n k o,v=>∃b a,v=.pointer (some ⟨b,0,none⟩)/\w.heap[b]?=some (.cells #[ug n,.int .i64 k,a] 360 (0,0))/\WAt w o a
theorem WAt.grown{w w':World}(a:zG w w'):∀ {e:WEn} {v:Value},WAt w e v->WAt w' e v
 |.nil,_,h=>h
 |.cons ..,_,⟨b,vo,hv,hb,ho⟩=>⟨b,vo,hv,zbG a hb,WAt.grown a ho⟩
theorem WAt.ptr(h:WAt w e v):∃a,v=.pointer a:=by
 cases e with
 |nil=>exact⟨none,h⟩
 |cons=>obtain⟨c,_,b,_⟩:=h;exact⟨_,b⟩
theorem Ti(b:WAt w e v)(n:zU)(k:Nat):
  Calls prog 164 #[v,ug n,vI k] w λr w'=>∃a,r=.returned (.pointer a)/\zG w w'/\WAt w' (.cons n k e) (.pointer a):=by
 have c:=b;obtain⟨a,rfl⟩:=b.ptr;go_in;go_wp21;go_ret;exact⟨_,rfl,zwA _ _ none,_,_,rfl,Ac w _,c.grown (zwA _ _ none)⟩
theorem zmn(m:WAt w e v)(x:zU){k:Nat}(q:e.look x=some k):
  Calls prog 163 #[v,ug x] w λr w'=>r=.returned (.tuple #[vI k,.bool true])/\w=w':=by
 have g:=m;have h:=q;go_in;go_wp21;go_loopg[0] e.size (λy z wr=>wr=w/\∃b:WEn,y=b.size/\(WAt w b z)/\(b.look x=some k))
 case atStart=>exact⟨rfl,e,rfl,g,h⟩
 case round=>
  obtain⟨t,b,p,HK,c⟩:=hrel;subst t;cases b with
  |nil=>have:=c;simp[WEn.look]at this
  |cons n r o=>
   obtain⟨B,F,s,l,f⟩:=HK;obtain⟨A,rfl⟩:=f.ptr;subst s;obtain⟨C,D,E,_⟩:=Ag l;have i:=f;have a:=c;simp[WEn.look]at a;by_cases d:n=x
   ·rw[mA d]at a;simp[Option.some.injEq]at a;subst a;have j:(n==x)=true:=(by simp[d]);go_wp21
    go_ret2;exact⟨rfl,rfl⟩
   ·rw[jA d]at a;have j:(n==x)=false:=(by simp[d]);have c:=a;go_wp21;go_roundg o.size
    case measure=>simp[WEn.size]at p;omega
    case rel=>exact⟨rfl,o,rfl,i,c⟩
end
end
section
open Go.Proofs.Tryz
open Go.RowKit
section
variable{w:World}{b fr to:Nat}{v1 v2:Value}
def Wp(l:List Value):Array Value:=l.toArray
def El(w:World)(l:List Value)(e:Ending)(w':World):Prop:=w.grownBy w' none /\
 ((l=[]/\e=.returned (.slice none 0 0))\/∃k,e=.returned (.slice (some ⟨k,0,none⟩) l.length l.length)/\w'.heap[k]?=some (.cells (Wp l) 68 (0,0)))
theorem Xh(w:World)(b:Nat):
  Calls prog 162 #[.iface 191 (pT b)] w (El w []):=by
 have a:=Rr;have c:=Yl;have d:=Ym;have e:=Ua;have f:=zcr;have g:=Ng;have h:=Nh;go_in;go_wp21;go_ret;exact⟨Aa _,.inl ⟨rfl,rfl⟩⟩
theorem Sd(w:World)(b:Nat):
  Calls prog 162 #[.iface 195 (pT b)] w (El w []):=by
 have a:=Xb;have c:=zby;have d:=zbz;have e:=Zi;have f:=zfn;have g:=Mn;have h:=Mo;go_in;go_wp21;go_ret;exact⟨Aa _,.inl ⟨rfl,rfl⟩⟩
theorem Uw(w:World)(b:Nat):
  Calls prog 162 #[.iface 199 (pT b)] w (El w []):=by
 have a:=Zj;have c:=zd0;have d:=zd1;have e:=Z1;have f:=zic;have g:=Oo;have h:=Oq;go_in;go_wp21;go_ret;exact⟨Aa _,.inl ⟨rfl,rfl⟩⟩
theorem Pm(c:∃T n,v1=.iface T (pT n))(d:zH w b #[vI fr,vI to,v1] 206):
  Calls prog 162 #[.iface 204 (pT b)] w (El w [v1]):=by
 obtain⟨a,e,rfl⟩:=c;have f:w.cell? (aD b 2)=some (.iface a (pT e)):=zcR d;have g:=Jh;go_in;go_wp21;go_ret;exact⟨zwA _ _ none,.inr ⟨_,rfl,Ac w _⟩⟩
theorem Ux(e:∃T n,v1=.iface T (pT n))(f:∃T n,v2=.iface T (pT n))(a:zH w b #[vI fr,vI to,v1,v2] 229):
  Calls prog 162 #[.iface 207 (pT b)] w (El w [v1,v2]):=by
 obtain⟨c,g,rfl⟩:=e;obtain⟨d,h,rfl⟩:=f;have i:w.cell? (aD b 2)=some (.iface c (pT g)):=zcR a;have j:w.cell? (aD b 3)=some (.iface d (pT h)):=zcR a;have k:=Ma;have l:=Qh;go_in;go_wp21;go_region;go_wp21;go_ret;exact⟨Ad (zwA _ _ none),.inr ⟨_,rfl,Ac w _⟩⟩
theorem Uy(e:∃T n,v1=.iface T (pT n))(f:∃T n,v2=.iface T (pT n))(a:zH w b #[vI fr,vI to,v1,v2] 319):
  Calls prog 162 #[.iface 209 (pT b)] w (El w [v1,v2]):=by
 obtain⟨c,g,rfl⟩:=e;obtain⟨d,h,rfl⟩:=f;have i:w.cell? (aD b 2)=some (.iface c (pT g)):=zcR a;have j:w.cell? (aD b 3)=some (.iface d (pT h)):=zcR a;have k:=Mb;have l:=Qi;have m:=Qj;go_in;go_wp21;go_region;go_wp21;go_ret;exact⟨Ad (zwA _ _ none),.inr ⟨_,rfl,Ac w _⟩⟩
theorem Qm{i:Int}(e:∃T n,v1=.iface T (pT n))(f:∃T n,v2=.iface T (pT n))(a:zH w b #[vI fr,vI to,vI i,v1,v2] 322):
  Calls prog 162 #[.iface 211 (pT b)] w (El w [v1,v2]):=by
 obtain⟨c,g,rfl⟩:=e;obtain⟨d,h,rfl⟩:=f;have j:w.cell? (aD b 3)=some (.iface c (pT g)):=zcR a;have k:w.cell? (aD b 4)=some (.iface d (pT h)):=zcR a;have l:=Jw;have m:=Nk;have o:=Nl;have p:=Kl;go_in;go_wp21;go_region;go_wp21;go_ret;exact⟨Ad (zwA _ _ none),.inr ⟨_,rfl,Ac w _⟩⟩
theorem Z6{v3:Value}(f:∃T n,v1=.iface T (pT n))(g:∃T n,v2=.iface T (pT n))(h:∃T n,v3=.iface T (pT n))(a:zH w b #[vI fr,vI to,v1,v2,v3] 326):
  Calls prog 162 #[.iface 213 (pT b)] w (El w [v1,v2,v3]):=by
 obtain⟨c,i,rfl⟩:=f;obtain⟨d,j,rfl⟩:=g;obtain⟨e,k,rfl⟩:=h;have l:w.cell? (aD b 2)=some (.iface c (pT i)):=zcR a;have m:w.cell? (aD b 3)=some (.iface d (pT j)):=zcR a;have o:w.cell? (aD b 4)=some (.iface e (pT k)):=zcR a;have p:=Ph;have q:=Us;have r:=Ut;have s:=Ql;have t:=Z4;go_in;go_wp21;go_region;go_wp21;go_ret;exact⟨Ad (zwA _ _ none),.inr ⟨_,rfl,Ac w _⟩⟩
end
end
abbrev cE:=@List.take_succ_eq_append_getElem
section
open Go.Proofs.Tryz
open Go.RowKit
def zll(w:World)(k:Nat)(r:Ending)(w':World):Prop:=r=.returned (.int .i64 k)/\w.grownBy w' none
def zlm(w:World)(ev v:Value)(k:Nat):Prop:=∀W:World,w.grownBy W none->Calls prog 87 #[v,ev] W (zll W k)
def Pb(ks:List Nat)(j:Nat):Nat:=(ks.take j).sum
theorem Z7(ks:List Nat)(j:Nat)(h:j<ks.length):Pb ks (j+1)=Pb ks j+ks[j]:=by
 unfold Pb;rw[cE h,List.sum_append];simp
theorem zpd(ks:List Nat)(a:∀k∈ks,k<=2001):∀j,Pb ks j<=j*2001:=by
 intro j
 induction j with
 |zero=>simp[Pb]
 |succ j ih=>
  by_cases h:j<ks.length
  ·rw[Z7 ks j h]
   have:=a ks[j] (List.getElem_mem h);omega
  ·have:Pb ks (j+1)=Pb ks j:=by
    unfold Pb;rw[List.take_of_length_le oM,List.take_of_length_le oM]
   omega
theorem Gz{c:TypeId}{w:World}{b:Nat}{ev:Value}{vs:List Value}{ks:List Nat}
  (Y:Bo c 83)
  (Z:Bo c 215)
  (q2:Bo c 136)
  (F:Calls prog 162 #[.iface c (pT b)] w (El w vs)) (H:∃a,ev=.pointer a)
  (L:vs.length=ks.length) (V:ks.length<=3) (hK:∀j (h:j<vs.length) (i:j<ks.length),(∃T n,vs[j]=.iface T (pT n))/\zlm w ev vs[j] ks[j]) (e:∀k∈ks,k<=2001) :
  Calls prog 87 #[.iface c (pT b),ev] w (zll w (min (1+ks.sum) 2001)):=by
 obtain⟨a,rfl⟩:=H;have p:=zpd ks e;have D:Pb ks ks.length=ks.sum:=by show _=_;unfold Pb;rw[List.take_length]
 generalize s:min (1+ks.sum) 2001=R;go_in;go_wp21;go_call F as g w1 ⟨hg,hcase⟩;have f:=hg;rcases hcase with⟨rfl,rfl⟩|⟨k,rfl,I⟩
 ·have J:ks=[]:=by simpa using L.symm
  subst J;go_wp21;go_loopg[5,18] 0 (λj o m wr=>o=vI 1/\m=vI 0/\wr=w1)
  case atStart=>exact⟨rfl,rfl,rfl⟩
  case round=>
   obtain⟨rfl,rfl,rfl⟩:=hrel;go_wp21
   all_goals
    go_ret;go_light;exact⟨Fu (by have:=s;simp at this;omega),f⟩
 ·have A:=I;obtain⟨N,t⟩:∃N,vs.length=N:=⟨_,rfl⟩;rw[t];have r:N=ks.length:=oM;have P:N<=3:=oM;go_wp21;go_loopg[5,18] N (λj o m wr=>∃q:Nat,j+q=N/\q<=N/\o=vI ((1+Pb ks q:Nat):Int)/\m=vI q/\(zG w1 wr))
  case atStart=>exact⟨0,oM,oM,by simp[Pb],rfl,Aa _⟩
  case round=>
   obtain⟨q,U,W,rfl,rfl,d⟩:=hrel;have Q:=p q;by_cases v:q<N
   ·have h:q<vs.length:=(by rw[t];exact v);have i:q<ks.length:=(by rw[<-r];exact v);have⟨⟨T,O,z⟩,e⟩:=hK q h i;rw[z]at e;have S:wr.cell? (aD k q)=some (.iface T (pT O)):=by
     rw[mB wr k _ _ _ _ (zbG d A)];simp[Wp,h,z]
    have X:(q:Int)<(N:Int):=oM;have E:=e wr (Ab f d);have y:=Z7 ks q i;have G:=p (q+1);rw[y]at G;generalize ks[q]=kq at *;generalize x:Pb ks q=sq at *;go_wp21;go_call E as e2 w2 ⟨rfl,hg⟩;have B:=Ab d hg;go_wp21;go_roundg (gk-1)
    case measure=>omega
    case rel=>exact⟨q+1,oM,oM,Ml (by rw[y];omega),by go_num,B⟩
   ·have M:q=N:=oM;generalize x:Pb ks q=sq at *;have g:=x;rw[M,r,D]at g;have l:=s;rw[g]at l;have C:=l;go_wp21
    all_goals
     go_ret;go_light;refine⟨Fu ?_,Ab f d⟩;have l:=C;omega
end
section
open Tw Go.Proofs.Tryz
open Go.RowKit
section
variable{fr to bat hi k:Nat}{bn:List UInt8}{t:Tw.T}{w:World}{tv:Value}
theorem Eb:∀ {t:Tw.T} {e:WEn} {k:Nat},Ah t e=some k->k<=2001:=by
 intro t e k h;cases t<;>simp[Ah,Option.bind_eq_some_iff,Option.some.injEq]at h
 ·have⟨_,_,h⟩:=h;omega
 ·omega
 ·omega
 ·omega
 ·have⟨_,_,h⟩:=h;omega
 ·have⟨_,_,_,_,h⟩:=h;omega
 ·have⟨_,_,_,_,h⟩:=h;omega
 ·have⟨_,_,_,_,h⟩:=h;omega
 ·have⟨_,_,_,_,_,_,h⟩:=h;omega
 ·have⟨_,_,h⟩:=h;omega
 ·have⟨_,_,_,_,h⟩:=h;omega
def Zb(t:Tw.T):Prop:=∀ {w:World} {hi:Nat} {tv a:Value} {e:WEn} {k:Nat},Rep w 0 hi t tv->WAt w e a->Ah t e=some k->Calls prog 87 #[tv,a] w (zll w k)
theorem zfx(fr to:Nat)(x:zU):Zb (.name fr to x):=by
 intro w hi tv l j k g a b;obtain⟨d,_,_,rfl,e⟩:=g;rw[Ah]at b;have⟨m,f,c⟩:=zbE.1 b;simp[Option.some.injEq]at c;have i:w.cell? (aD d 2)=some (ug x):=zcR e;obtain⟨h,rfl⟩:=a.ptr;have n:=Mm;go_in;go_wp21;go_call zmn a x f as e1 w1 ⟨rfl,rfl⟩;go_wp21
 all_goals
  go_ret;go_light;exact⟨Fu (by have:=c;omega),Aa _⟩
theorem zix{body:Tw.T}(s:Zb body):Zb (.fn fr to bn bat body):=by
  intro w hi tv G F k x g h;obtain⟨P,⟨c,_,_,rfl,b⟩,m⟩:=x;rw[Ah]at h;have⟨L,j,i⟩:=zbE.1 h;simp[Option.some.injEq]at i;have v:=bV (Eb j);obtain⟨q,y,rfl⟩:=m.iface;have⟨_,_,B,_,C⟩:=Ea b;obtain⟨A,rfl⟩:=g.ptr;have M:=Ot;have N:=Km;have J:=uh v;go_in;go_wp21;have d:w.grownBy w.drew none:=Ad (Aa _);go_region_held3 (λW=>W.cell? (aD c 2)=some (ug bn)/\W.cell? (aD c 4)=some (.iface q (pT y))) (go_keep)
    (first
      |(go_at_call 164;refine(Ti (g.grown d) bn 1).mono ?_;rintro r z ⟨O,rfl,a,l⟩;have e:zG w z:=Ab d a;have p:=bV l;have n:=Ea ((Ab d a).block c (zgE.1 b).1 sM|>.trans b);have⟨_,_,D,_,E⟩:=n;clear a l)
      |(go_at_call 87;refine(s (m.grown e (znL _) (znL _)) (uh p) j).mono ?_;rintro r Q ⟨rfl,a⟩;have f:=Ab e a;have o:=Ea (f.block c (zgE.1 b).1 sM|>.trans b);have⟨_,_,H,_,I⟩:=o;clear a))
  go_wp21
  all_goals
    go_ret;go_light;exact⟨Fu (by have:=i;omega),f⟩
theorem ziy{rc:Bool}{d x:Tw.T}(hD:Zb d)(hX:Zb x):Zb (.Am fr to rc bn bat d x):=by
  intro w hi tv ev e k hr he hf;obtain⟨v1,v2,⟨b,_,_,rfl,hb⟩,r1,r2⟩:=hr;rw[Ah]at hf;have⟨m,hm,hf1⟩:=zbE.1 hf;have⟨c,hc,hf2⟩:=zbE.1 hf1;simp only[zsI]at hf2;have hm2:=Eb hm;have hc2:=Eb hc;obtain⟨T0,n0,rfl⟩:=r1.iface;obtain⟨T1,n1,rfl⟩:=r2.iface;have⟨c2,c3,c5,c6⟩:=Ba hb;obtain⟨a,rfl⟩:=he.ptr;have q0:=Ou;have q1:=Kn;have q2:=Ko;cases rc
  · simp only[xA,if_false]at hm
    go_in;go_wp21;go_call hD r1 he hm as e1 w1 ⟨rfl,hg⟩;have G1:Hid (zG w w1):=hg;have⟨_,c3',_,c6'⟩:=Ba (G1.o.block b (zgE.1 hb).1 sM|>.trans hb);have D1:w1.grownBy w1.drew none:=Ad (Aa _);go_wp21;go_region_held3 (λW=>W.cell? (aD b 3)=some (ug bn)/\W.cell? (aD b 6)=some (.iface T1 (pT n1))) (go_keep)
      (first
        |(go_at_call 164;refine(Ti (he.grown (Ab G1.o D1)) bn m).mono ?_;rintro e1 w2 ⟨sa2,rfl,hg,hn⟩;have G2:=Ab (Ab G1.o D1) hg;have N2:=bV hn;have B2:=Ba (G2.block b (zgE.1 hb).1 sM|>.trans hb);have⟨_,d3,_,d6⟩:=B2;clear hg hn)
        |(go_at_call 87;refine(hX (r2.grown G2 (znL _) (znL _)) (uh N2) hc).mono ?_;rintro e1 w3 ⟨rfl,hg⟩;have G3:=Ab G2 hg;have B3:=Ba (G3.block b (zgE.1 hb).1 sM|>.trans hb);have⟨_,g3,_,g6⟩:=B3;clear hg))
    go_wp21
    all_goals
      go_ret;go_light;exact⟨Fu (by have:=hf2;omega),G3⟩
  · simp only[if_true]at hm
    go_in;go_wp21;go_call Ti he bn 1 as e1 w0 ⟨sa,rfl,hg,hn⟩;have G0:=hg;have N0:=bV hn;have⟨_,u3,u5,u6⟩:=Ba (G0.block b (zgE.1 hb).1 sM|>.trans hb);go_wp21;go_call hD (r1.grown G0 (znL _) (znL _)) (uh N0) hm as e1 w1 ⟨rfl,hg⟩;have G1:Hid (zG w w1):=Ab G0 hg;have⟨_,c3',_,c6'⟩:=Ba (G1.o.block b (zgE.1 hb).1 sM|>.trans hb);have D1:w1.grownBy w1.drew none:=Ad (Aa _);go_wp21;go_region_held3 (λW=>W.cell? (aD b 3)=some (ug bn)/\W.cell? (aD b 6)=some (.iface T1 (pT n1))) (go_keep)
      (first
        |(go_at_call 164;refine(Ti (he.grown (Ab G1.o D1)) bn m).mono ?_;rintro e1 w2 ⟨sa2,rfl,hg,hn⟩;have G2:zG w w2:=Ab (Ab G1.o D1) hg;have N2:=bV hn;have B2:=Ba (G2.block b (zgE.1 hb).1 sM|>.trans hb);have⟨_,d3,_,d6⟩:=B2;clear hg hn)
        |(go_at_call 87;refine(hX (r2.grown G2 (znL _) (znL _)) (uh N2) hc).mono ?_;rintro e1 w3 ⟨rfl,hg⟩;have G3:=Ab G2 hg;have B3:=Ba (G3.block b (zgE.1 hb).1 sM|>.trans hb);have⟨_,g3,_,g6⟩:=B3;clear hg))
    go_wp21
    all_goals
      go_ret;go_light;exact⟨Fu (by have:=hf2;omega),G3⟩
theorem kid(h:Zb t){ev:Value}{e:WEn}(b:Rep w 0 hi t tv)(c:WAt w e ev)(d:Ah t e=some k):(∃T n,tv=.iface T (pT n))/\zlm w ev tv k:=
 ⟨b.iface,λ_ a=>h (b.grown a (znL _) (znL _)) (c.grown a) d⟩
theorem Ds:∀t:Tw.T,Zb t
 |.name fr to x=>zfx fr to x
 |.int fr to v=>by
  intro g a e;obtain⟨b,_,_,rfl,n⟩:=g;simp[Ah,Option.some.injEq]at e;subst e;exact Gz On Ng Nh (vs:=[]) (ks:=[]) (Xh _ b) a.ptr rfl sM sM sM
 |.Ak fr to v=>by
  intro g a e;obtain⟨b,_,_,rfl,n⟩:=g;simp[Ah,Option.some.injEq]at e;subst e;exact Gz Li Mn Mo (vs:=[]) (ks:=[]) (Sd _ b) a.ptr rfl sM sM sM
 |.side fr to v=>by
  intro g a e;obtain⟨b,_,_,rfl,n⟩:=g;simp[Ah,Option.some.injEq]at e;subst e;exact Gz Mp Oo Oq (vs:=[]) (ks:=[]) (Uw _ b) a.ptr rfl sM sM sM
 |.bracket fr to i=>by
  intro g a e;obtain⟨A,⟨b,_,_,rfl,n⟩,z⟩:=g;simp[Ah,Option.bind_eq_some_iff,Option.some.injEq]at e;obtain⟨y,j,rfl⟩:=e;have h:=kid (Ds i) z a j
  have:=Gz Jd Ni Nj (vs:=[A]) (ks:=[y]) (Pm h.1 n) a.ptr rfl sM (by
   intro s q E
   match s,q with
   |0,_=>exact h) (by intro k m;simp at m;subst m;exact Eb j)
  simpa using this
 |.fn fr to bn bat b=>zix (Ds b)
 |.Am fr to rc bn bat d b=>ziy (Ds d) (Ds b)
 |.pair fr to l r=>by
  intro g a e;obtain⟨A,D,⟨b,_,_,rfl,n⟩,z,C⟩:=g;simp[Ah,Option.bind_eq_some_iff,Option.some.injEq]at e;obtain⟨y,j,B,p,rfl⟩:=e;have h:=kid (Ds l) z a j;have o:=kid (Ds r) C a p
  have:=Gz Mq Rt Ru (vs:=[A,D]) (ks:=[y,B]) (Ux h.1 o.1 n) a.ptr rfl sM (by
   intro s q E
   match s,q with
   |0,_=>exact h
   |1,_=>exact o) (by intro k m;simp at m;rcases m with rfl|rfl<;>first|exact Eb j|exact Eb p)
  simpa[Nat.add_assoc]using this
 |.call fr to l r=>by
  intro g a e;obtain⟨A,D,⟨b,_,_,rfl,n⟩,z,C⟩:=g;simp[Ah,Option.bind_eq_some_iff,Option.some.injEq]at e;obtain⟨y,j,B,p,rfl⟩:=e;have h:=kid (Ds l) z a j;have o:=kid (Ds r) C a p
  have:=Gz Mr Rv Rw (vs:=[A,D]) (ks:=[y,B]) (Uy h.1 o.1 n) a.ptr rfl sM (by
   intro s q E
   match s,q with
   |0,_=>exact h
   |1,_=>exact o) (by intro k m;simp at m;rcases m with rfl|rfl<;>first|exact Eb j|exact Eb p)
  simpa[Nat.add_assoc]using this
 |.binary fr to sg l r=>by
  intro g a e;obtain⟨A,D,⟨b,_,_,rfl,n⟩,z,C⟩:=g;simp[Ah,Option.bind_eq_some_iff,Option.some.injEq]at e;obtain⟨y,j,B,p,rfl⟩:=e;have h:=kid (Ds l) z a j;have o:=kid (Ds r) C a p
  have:=Gz Jv Pf Pg (vs:=[A,D]) (ks:=[y,B]) (Qm h.1 o.1 n) a.ptr rfl sM (by
   intro s q E
   match s,q with
   |0,_=>exact h
   |1,_=>exact o) (by intro k m;simp at m;rcases m with rfl|rfl<;>first|exact Eb j|exact Eb p)
  simpa[Nat.add_assoc]using this
 |.cond fr to c t f=>by
  intro g a e;obtain⟨A,D,J,⟨b,_,_,rfl,n⟩,z,C,I⟩:=g;simp[Ah,Option.bind_eq_some_iff,Option.some.injEq]at e;obtain⟨y,j,B,p,H,G,rfl⟩:=e;have h:=kid (Ds c) z a j;have o:=kid (Ds t) C a p;have F:=kid (Ds f) I a G
  have:=Gz Qk Xc Xd (vs:=[A,D,J]) (ks:=[y,B,H]) (Z6 h.1 o.1 F.1 n) a.ptr rfl sM (by
   intro s q E
   match s,q with
   |0,_=>exact h
   |1,_=>exact o
   |2,_=>exact F) (by intro k m;simp at m;rcases m with rfl|rfl|rfl<;>first|exact Eb j|exact Eb p|exact Eb G)
  simpa[Nat.add_assoc]using this
theorem ziz(a:Rep w 0 hi t tv)(b:Ah t .nil=some k):Calls prog 49 #[tv] w (zll w k):=by
 obtain⟨c,d,rfl⟩:=a.iface;go_in;go_wp21;go_call Ds t a (show WAt w .nil (.pointer none)from rfl) b as e1 w1 ⟨rfl,hg⟩;go_wp21;go_ret;exact⟨rfl,hg⟩
end
end
namespace Tw
section
open Go
inductive BEn where
 |nil
 |cons (name:List UInt8) (k:Addr) (o:BEn)
def BEn.look:BEn->zU->Option Addr
 |.nil,_=>none
 |.cons n k o,x=>if n=x then some k else o.look x
def BEn.size:BEn->Nat
 |.nil=>0
 |.cons _ _ o=>o.size+1
end
end Tw
section
open Tw Go.Proofs.Tryz
open Go.RowKit
section
variable{w:World}{e:Tw.BEn}{v:Value}
def BAt(w:World):Tw.BEn->Value->Prop
 |.nil,v=>v=.pointer none
 |.cons n k o,v=>∃b a,v=.pointer (some ⟨b,0,none⟩)/\w.heap[b]?=some (.cells #[ug n,.pointer (some k),a] 302 (0,0))/\BAt w o a
theorem BAt.grown{w w':World}(a:zG w w'):∀ {e:Tw.BEn} {v:Value},BAt w e v->BAt w' e v
 |.nil,_,h=>h
 |.cons ..,_,⟨b,vo,hv,hb,ho⟩=>⟨b,vo,hv,zbG a hb,BAt.grown a ho⟩
theorem BAt.ptr(h:BAt w e v):∃a,v=.pointer a:=by
 cases e with
 |nil=>exact⟨none,h⟩
 |cons=>obtain⟨c,_,b,_⟩:=h;exact⟨_,b⟩
theorem zct(b:BAt w e v)(n:zU)(k:Addr):
  Calls prog 161 #[v,ug n,.pointer (some k)] w λr w'=>∃a,r=.returned (.pointer a)/\zG w w'/\BAt w' (.cons n k e) (.pointer a):=by
 have c:=b;obtain⟨a,rfl⟩:=b.ptr;go_in;go_wp21;go_ret;exact⟨_,rfl,zwA _ _ none,_,_,rfl,Ac w _,c.grown (zwA _ _ none)⟩
theorem zmo(m:BAt w e v)(x:zU){k:Addr}(q:e.look x=some k):
  Calls prog 86 #[v,ug x] w λr w'=>r=.returned (.tuple #[.pointer (some k),.bool true])/\w=w':=by
 have g:=m;have h:=q;go_in;go_wp21;go_loopg[0] e.size (λy z wr=>wr=w/\∃b:Tw.BEn,y=b.size/\(BAt w b z)/\(b.look x=some k))
 case atStart=>exact⟨rfl,e,rfl,g,h⟩
 case round=>
  obtain⟨t,b,p,HK,c⟩:=hrel;subst t;cases b with
  |nil=>have:=c;simp[Tw.BEn.look]at this
  |cons n r o=>
   obtain⟨B,F,s,l,f⟩:=HK;obtain⟨A,rfl⟩:=f.ptr;subst s;obtain⟨C,D,E,_⟩:=Ag l;have i:=f;have a:=c;simp[Tw.BEn.look]at a;by_cases d:n=x
   ·rw[mA d]at a;simp[Option.some.injEq]at a;subst a;have j:(n==x)=true:=(by simp[d]);go_wp21
    go_ret2;exact⟨rfl,rfl⟩
   ·rw[jA d]at a;have j:(n==x)=false:=(by simp[d]);have c:=a;go_wp21;go_roundg o.size
    case measure=>simp[Tw.BEn.size]at p;omega
    case rel=>exact⟨rfl,o,rfl,i,c⟩
theorem zi0(l:BAt w e v)(x:zU)(p:e.look x=none):
  Calls prog 86 #[v,ug x] w λr w'=>r=.returned (.tuple #[.pointer none,.bool false])/\w=w':=by
 have h:=l;have i:=p;go_in;go_wp21;go_loopg[0] e.size (λs t wr=>wr=w/\∃a:Tw.BEn,s=a.size/\(BAt w a t)/\(a.look x=none))
 case atStart=>exact⟨rfl,e,rfl,h,i⟩
 case round=>
  obtain⟨q,a,m,HK,c⟩:=hrel;subst q;cases a with
  |nil=>
   have f:=HK;subst f;go_wp21
   go_ret2;exact⟨rfl,rfl⟩
  |cons n r o=>
   obtain⟨z,E,f,k,g⟩:=HK;obtain⟨y,rfl⟩:=g.ptr;subst f;obtain⟨B,C,D,_⟩:=Ag k;have j:=g;have b:=c;simp[Tw.BEn.look]at b;by_cases d:n=x
   ·rw[mA d]at b;cases b
   ·rw[jA d]at b;have A:(n==x)=false:=(by simp[d]);have c:=b;go_wp21;go_roundg o.size
    case measure=>simp[Tw.BEn.size]at m;omega
    case rel=>exact⟨rfl,o,rfl,j,c⟩
end
end
end Go.Proofs.YtckhafpejefbbaaGreatDoor
