import Derived.Test.YtckhafpejefbbaaGreatDoorB04
import Derived.Lib.ItoaNum

set_option maxRecDepth 100000
set_option maxHeartbeats 4000000
namespace Go.Proofs.YtckhafpejefbbaaGreatDoor
namespace Tw
section
open Go Go.RowKit
abbrev Cr:=List (zU×Nat)
inductive Val where
 |num (n:Int)
 |Ak (b:Bool)
 |side (second:Bool)
 |pair (l r:Val)
 |clo (fr to:Nat) (bn:List UInt8) (bat:Nat) (body:T) (env:Cr)
 deriving DecidableEq
structure RS where
 Al:List (Option Val)
 steps:Nat
 fin:Int
 deriving DecidableEq
def Gw:Cr->zU->Option Nat
 |[],_=>none
 |(n,k)::o,x=>if n=x then some k else Gw o x
def Um:Val->Int
 |.num n=>n
 |_=>0
def Dj(c:Int)(a b:Int)(st:RS):Option Val×RS:=
 if c=19 then(some (.num (wrap64 (a+b))),st)
 else if c=20 then(some (.num (wrap64 (a-b))),st)
 else if c=21 then(some (.num (wrap64 (a*b))),st)
 else if c=23 then(some (.Ak (decide (a<b))),st)
 else if c=15 then(some (.Ak (decide (a=b))),st)
 else if b=0 then(none,{st with fin:=1})
 else(some (.num (wrap64 (a.tdiv b))),st)
def zbg(v:Val)(a:Bool):Option Val:=
 match v with
 |.pair l r=>some (if a then r else l)
 |_=>none
def A9(g:Nat):Nat->T->Cr->RS->Option (Option Val×RS)
 |0,_,_,_=>none
 |_+1,.name _ _ x,e,st=>(Gw e x).bind λi=>match st.Al[i]? with
  |none=>none
  |some none=>some (none,{st with fin:=1})
  |some (some v)=>some (some v,st)
 |_+1,.int _ _ v,_,st=>if -9223372036854775808<=v/\v<=9223372036854775807 then some (some (.num v),st)else none
 |_+1,.Ak _ _ b,_,st=>some (some (.Ak b),st)
 |_+1,.side _ _ b,_,st=>some (some (.side b),st)
 |n+1,.bracket _ _ i,e,st=>A9 g n i e st
 |n+1,.pair _ _ l r,e,st=>(A9 g n l e st).bind λa=>match a.1 with
  |none=>some (none,a.2)
  |some x=>(A9 g n r e a.2).bind λb=>match b.1 with
   |none=>some (none,b.2)
   |some y=>some (some (.pair x y),b.2)
 |n+1,.call _ _ l r,e,st=>(A9 g n l e st).bind λa=>match a.1 with
  |none=>some (none,a.2)
  |some x=>(A9 g n r e a.2).bind λb=>match b.1 with
   |none=>some (none,b.2)
   |some y=>match x with
    |.clo _ _ bn _ body env=>if b.2.steps=g then some (none,{b.2 with fin:=2})
     else A9 g n body ((bn,b.2.Al.length)::env) {b.2 with Al:=b.2.Al++[some y],steps:=b.2.steps+1}
    |.side sec=>some (zbg y sec,b.2)
    |_=>some (none,b.2)
 |n+1,.binary _ _ sg l r,e,st=>(A9 g n l e st).bind λa=>match a.1 with
  |none=>some (none,a.2)
  |some x=>(A9 g n r e a.2).bind λb=>match b.1 with
   |none=>some (none,b.2)
   |some y=>some (Dj sg (Um x) (Um y) b.2)
 |n+1,.cond _ _ c t f,e,st=>(A9 g n c e st).bind λa=>match a.1 with
  |none=>some (none,a.2)
  |some x=>if x=.Ak true then A9 g n t e a.2 else A9 g n f e a.2
 |_+1,.fn fr to bn bat b,e,st=>some (some (.clo fr to bn bat b e),st)
 |n+1,.Am _ _ rc bn _ d b,e,st=>
  (A9 g n d (if rc then(bn,st.Al.length)::e else e) {st with Al:=st.Al++[none]}).bind λa=>match a.1 with
   |none=>some (none,a.2)
   |some x=>A9 g n b ((bn,st.Al.length)::e) {a.2 with Al:=a.2.Al.set st.Al.length (some x)}
def Lw(c n:Nat)(l r:T)(e:Cr)(st:RS):Option (Option (Val×Val)×RS):=
 (A9 c n l e st).bind λa=>match a.1 with
  |none=>some (none,a.2)
  |some x=>(A9 c n r e a.2).bind λb=>match b.1 with
   |none=>some (none,b.2)
   |some y=>some (some (x,y),b.2)
def St(a n:Nat)(x y:Val)(st:RS):Option (Option Val×RS):=
 match x with
 |.clo _ _ bn _ body env=>if st.steps=a then some (none,{st with fin:=2})
  else A9 a n body ((bn,st.Al.length)::env) {st with Al:=st.Al++[some y],steps:=st.steps+1}
 |.side sec=>some (zbg y sec,st)
 |_=>some (none,st)
theorem Np(d n fr to:Nat)(l r:T)(e:Cr)(st:RS):A9 d (n+1) (.pair fr to l r) e st=(Lw d n l r e st).bind λc=>match c.1 with
  |none=>some (none,c.2)
  |some (x,y)=>some (some (.pair x y),c.2):=by
 rw[A9,Lw];cases A9 d n l e st with
 |none=>rfl
 |some a=>
  obtain⟨f,g⟩:=a;cases f with
  |none=>rfl
  |some x=>
   simp only[zbS];cases A9 d n r e g with
   |none=>rfl
   |some b=>
    obtain⟨h,i⟩:=b;cases h<;>rfl
theorem Gg(d n fr to:Nat)(l r:T)(e:Cr)(st:RS):A9 d (n+1) (.call fr to l r) e st=(Lw d n l r e st).bind λc=>match c.1 with
  |none=>some (none,c.2)
  |some (x,y)=>St d n x y c.2:=by
 rw[A9,Lw];cases A9 d n l e st with
 |none=>rfl
 |some a=>
  obtain⟨f,g⟩:=a;cases f with
  |none=>rfl
  |some x=>
   simp only[zbS];cases A9 d n r e g with
   |none=>rfl
   |some b=>
    obtain⟨h,i⟩:=b;cases h with
    |none=>rfl
    |some y=>cases x<;>rfl
theorem Jy(d n fr to:Nat)(f:Int)(l r:T)(e:Cr)(st:RS):A9 d (n+1) (.binary fr to f l r) e st=(Lw d n l r e st).bind λc=>match c.1 with
  |none=>some (none,c.2)
  |some (x,y)=>some (Dj f (Um x) (Um y) c.2):=by
 rw[A9,Lw];cases A9 d n l e st with
 |none=>rfl
 |some a=>
  obtain⟨g,h⟩:=a;cases g with
  |none=>rfl
  |some x=>
   simp only[zbS];cases A9 d n r e h with
   |none=>rfl
   |some b=>
    obtain⟨i,j⟩:=b;cases i<;>rfl
def Ei(b:Nat)(a s:zU):zU:=if b<a.length then a else a++s
def La(b:Bool):zU:=if b then[116,114,117,101]else[102,97,108,115,101]
def Gk:Val->zU->zU
 |.num n,acc=>if 400<acc.length then acc else Ei 400 acc (Lib.itoa n)
 |.Ak b,acc=>if 400<acc.length then acc else Ei 400 acc (La b)
 |.side _,acc=>if 400<acc.length then acc else Ei 400 acc [102,117,110]
 |.clo _ _ _ _ _ _,acc=>if 400<acc.length then acc else Ei 400 acc [102,117,110]
 |.pair l r,acc=>if 400<acc.length then acc else Ei 400 (Gk r (Ei 400 (Gk l (Ei 400 acc [40])) [44,32])) [41]
def Lx(b:Nat)(a:zU):zU:=if b<a.length then[46,46,46]else a
def zfc(fuel:Nat)(t:T)(b:Nat):Option (Int×Nat×zU):=
 (A9 b fuel t [] ⟨[],0,0⟩).bind λa=>match a.1 with
  |none=>some (a.2.fin,a.2.steps,[])
  |some v=>some (0,a.2.steps,Lx 400 (Gk v []))
end
end Tw
end Go.Proofs.YtckhafpejefbbaaGreatDoor
