import Derived.Test.YtckhafpejefbbaaGreatDoorB26
import Derived.Lib.ItoaLen

set_option maxRecDepth 100000
set_option maxHeartbeats 16000000
namespace Go.Proofs.YtckhafpejefbbaaGreatDoor
namespace Tw.Rf
section
open Go Go.Proofs.YtckhafpejefbbaaGreatDoor.Tw
theorem zlg{r:Nat}:∀ {l:List Nat} {i k:Nat},idxS r l i=some k->i<=k/\k<i+l.length
 |[],i,k,h=>by simp[idxS]at h
 |x::l,i,k,h=>by
  rw[idxS]at h;split at h
  ·cases h;simp
  ·have:=zlg h;simp only[zB];omega
theorem Z9(a:List Nat)(p:Nat):(Oi a p).1<=a.length/\(Oi a p).2.length<=a.length+1:=by
 unfold Oi;cases h:idxS p a 0 with
 |none=>simp
 |some i=>have:=zlg h;simp;omega
theorem My{k:Nat}(a:k<=10000):2<=(Hl k).length/\(Hl k).length<=23:=by
 unfold Hl
 have:=Lib.itoa_length_le ((k / 26:Nat):Int) oM oM
 grind
def off:Ty->Nat
 |.fn .. =>0
 |.pair .. =>5
 |_=>9
def Few(s:Wr):Prop:=s.1.length<=s.2.length
theorem Kw{a:Ty}(h:∀s,Few s->s.2.length<=401->Few (rin a s)/\(rin a s).2.length+off a<=430+12*(402-s.2.length))(br:Bool){s:Wr}(f:Few s):
  Few (C7 br (rin a) s)/\(400<s.2.length->C7 br (rin a) s=s)/\(s.2.length<=400->(C7 br (rin a) s).2.length+(if br then 10 else off a)<=430+12*(402-s.2.length)):=by
 unfold C7;by_cases b:400<s.2.length
 ·grind
 ·rw[jA b];cases br with
  |false=>
   grind
  |true=>
   obtain⟨c,d⟩:=h (app s [40]) (by simp[Few,app]at f ⊢;omega) (by simp[app];omega);refine⟨?_,λe=>absurd e b,λ_=>?_⟩
   ·simp[Few,app]at c ⊢;omega
   ·simp[app]at d ⊢;omega
theorem Pa:∀(a:Ty) (s:Wr),Few s->s.2.length<=401->Few (rin a s)/\(rin a s).2.length+off a<=430+12*(402-s.2.length)
 |.var p,s,h,hl=>by
  obtain⟨q,r⟩:=Z9 s.1 p;unfold Few at h
  have:=My (k:=(Oi s.1 p).1) oM;refine⟨?_,?_⟩
  ·simp[Few,rin];omega
  ·simp[rin,off];omega
 |.int,s,h,hl=>by unfold Few at h;refine⟨?_,?_⟩<;>simp[Few,rin,app,off]<;>omega
 |.bool,s,h,hl=>by unfold Few at h;refine⟨?_,?_⟩<;>simp[Few,rin,app,off]<;>omega
 |.fn a b,s,h,hl=>by
  obtain⟨d,e,f⟩:=Kw (Pa a) (rbr a 1) h;have g:=Kt (br:=rbr a 1) (Fz a) s;obtain⟨x,n⟩:∃x,C7 (rbr a 1) (rin a) s=x:=⟨_,rfl⟩;simp only[rin];rw[n]at d e f g ⊢;have o:x.2.length+5<=430+12*(402-s.2.length):=by
   rcases yB 400 s.2.length with c|c
   ·rw[e c];omega
   ·have:=f c;cases m:rbr a 1
    ·rw[m]at this;have t:5<=off a:=(by cases a<;>simp[rbr,Ty.tsort,off]at m ⊢);simp at this;omega
    ·rw[m]at this;simp at this;omega
  obtain⟨i,j,l⟩:=Kw (Pa b) (rbr b 0) (s:=app x [32,45,62,32]) (by simp[Few,app]at d ⊢;omega);refine⟨i,?_⟩;simp only[off];rcases yB 400 (app x [32,45,62,32]).2.length with c|c
  ·rw[j c];simp[app];omega
  ·have:=l c;simp[app]at this c ⊢;omega
 |.pair a b,s,h,hl=>by
  obtain⟨d,e,f⟩:=Kw (Pa a) (rbr a 2) h;have g:=Kt (br:=rbr a 2) (Fz a) s;obtain⟨x,n⟩:∃x,C7 (rbr a 2) (rin a) s=x:=⟨_,rfl⟩;simp only[rin];rw[n]at d e f g ⊢;have o:x.2.length+8<=430+12*(402-s.2.length):=by
   rcases yB 400 s.2.length with c|c
   ·rw[e c];omega
   ·have:=f c;cases a<;>simp[rbr,Ty.tsort,off]at this<;>omega
  obtain⟨i,j,l⟩:=Kw (Pa b) (rbr b 2) (s:=app x [32,42,32]) (by simp[Few,app]at d ⊢;omega);refine⟨i,?_⟩;simp only[off];rcases yB 400 (app x [32,42,32]).2.length with c|c
  ·rw[j c];simp[app];omega
  ·have:=l c;have v:5<=(if rbr b 2=true then 10 else off b):=(by cases b<;>simp[rbr,Ty.tsort,off]);simp only[app,eA,zB,zD]at this c ⊢;omega
end
end Tw.Rf
end Go.Proofs.YtckhafpejefbbaaGreatDoor
