import Derived.Test.YtckhafpejefbbaaGreatDoorB03
import Derived.Lib.ParseIntB

set_option maxRecDepth 100000
set_option maxHeartbeats 4000000
namespace Go.Proofs.YtckhafpejefbbaaGreatDoor.Tw
section
open Go
structure PS where
 next:Nat
 depth:Nat
 stuck:Bool
 fault:Nat
 deriving DecidableEq
inductive T where
 |name (fr to:Nat) (text:List UInt8)
 |int (fr to:Nat) (v:Int)
 |truth (fr to:Nat) (b:Bool)
 |side (fr to:Nat) (second:Bool)
 |bracket (fr to:Nat) (inner:T)
 |pair (fr to:Nat) (l r:T)
 |call (fr to:Nat) (f a:T)
 |binary (fr to:Nat) (sign:Int) (l r:T)
 |cond (fr to:Nat) (c t e:T)
 |fn (fr to:Nat) (bn:List UInt8) (bat:Nat) (body:T)
 |lett (fr to:Nat) (rc:Bool) (bn:List UInt8) (bat:Nat) (d b:T)
 deriving DecidableEq
def T.fr:T->Nat
 |.name f _ _|.int f _ _|.truth f _ _|.side f _ _|.bracket f _ _|.pair f _ _ _|.call f _ _ _|.binary f _ _ _ _|.cond f _ _ _ _|.fn f _ _ _ _|.lett f _ _ _ _ _ _=>f
def T.to:T->Nat
 |.name _ t _|.int _ t _|.truth _ t _|.side _ t _|.bracket _ t _|.pair _ t _ _|.call _ t _ _|.binary _ t _ _ _|.cond _ t _ _ _|.fn _ t _ _ _|.lett _ t _ _ _ _ _=>t
def tokS(ts:List Tok)(st:PS):Option Tok:=if st.stuck then ts[ts.length-1]? else ts[st.next]?
def Fb(ts:List Tok)(st:PS):Option PS:=
 if st.stuck then some st else(tokS ts st).bind λt=>some {st with stuck:=true,fault:=t.fr}
def Au(ts:List Tok)(a:Int)(st:PS):Option (Tok×PS):=
 (tokS ts st).bind λt=>
  if t.sort=a then(if a=0 then some (t,st)else if st.next<=300 then some (t,{st with next:=st.next+1})else none)
  else(Fb ts st).bind λb=>some (t,b)
def Ar(ts:List Tok):List Int->PS->Option (Int×PS)
 |[],st=>some (0,st)
 |s::l,st=>(tokS ts st).bind λt=>if t.sort=s then(Au ts s st).bind λr=>some (r.1.sort,r.2)else Ar ts l st
def Cv(ts:List Tok)(b:Int)(st:PS):Option (Nat×PS):=
 (if st.depth=40 then Fb ts st else some st).bind λa=>
  if a.depth<=300 then(Au ts b {a with depth:=a.depth+1}).bind λr=>some (r.1.fr,r.2)else none
def endS(st:PS):Option PS:=if st.depth=0 then none else some {st with depth:=st.depth-1}
def Bf(l:List UInt8)(a b:Nat):List UInt8:=(l.drop a).take (b-a)
def Ci(l:List UInt8)(ts:List Tok)(st:PS):Option ((List UInt8×Nat)×PS):=
 (Au ts 1 st).bind λr=>if r.1.fr<=r.1.to/\r.1.to<=l.length then some ((Bf l r.1.fr r.1.to,r.1.fr),r.2)else none
def Aj(s:Int):Bool:=decide (s=1\/s=2\/s=10\/s=11\/s=12\/s=13\/s=16)
def Lw(l:List UInt8):Option Int:=match Lib.parseIntB 64 l with|.ok v=>some v|_=>none
def Ks(l:List UInt8)(t:Tok):Option T:=
 if t.sort=2 then(if t.fr<=t.to/\t.to<=l.length then(Lw (Bf l t.fr t.to)).bind λv=>some (.int t.fr t.to v)else none)
 else if t.sort=10\/t.sort=11 then some (.truth t.fr t.to (t.sort==10))
 else if t.sort=12\/t.sort=13 then some (.side t.fr t.to (t.sort==13))
 else if t.fr<=t.to/\t.to<=l.length then some (.name t.fr t.to (Bf l t.fr t.to))else none
inductive Part where
 |term
 |call
section
variable (l:List UInt8)(ts:List Tok)
mutual
def A8:Nat->PS->Option (T×PS)
 |0,_=>none
 |n+1,st=>(tokS ts st).bind λt=>
  if t.sort=3 then letS n st else if t.sort=6 then funS n st else if t.sort=7 then Ee n st else cmpS n st
def letS:Nat->PS->Option (T×PS)
 |0,_=>none
 |n+1,st=>
  (Cv ts 3 st).bind λb=>(Ar ts [4] b.2).bind λrc=>(Ci l ts rc.2).bind λa=>
  (Au ts 15 a.2).bind λe=>(A8 n e.2).bind λd=>(Au ts 5 d.2).bind λi=>(A8 n i.2).bind λx=>
  (endS x.2).bind λst'=>some (.lett b.1 x.1.to (rc.1==4) a.1.1 a.1.2 d.1 x.1,st')
def funS:Nat->PS->Option (T×PS)
 |0,_=>none
 |n+1,st=>
  (Cv ts 6 st).bind λb=>(Ci l ts b.2).bind λc=>(Au ts 14 c.2).bind λa=>(A8 n a.2).bind λx=>
  (endS x.2).bind λst'=>some (.fn b.1 x.1.to c.1.1 c.1.2 x.1,st')
def Ee:Nat->PS->Option (T×PS)
 |0,_=>none
 |n+1,st=>
  (Cv ts 7 st).bind λb=>(A8 n b.2).bind λc=>(Au ts 8 c.2).bind λt=>(A8 n t.2).bind λx=>
  (Au ts 9 x.2).bind λe=>(A8 n e.2).bind λy=>(endS y.2).bind λst'=>some (.cond b.1 y.1.to c.1 x.1 y.1,st')
def cmpS:Nat->PS->Option (T×PS)
 |0,_=>none
 |n+1,st=>(sumS n st).bind λa=>(Ar ts [23,15] a.2).bind λc=>
  if c.1=0 then some (a.1,c.2)else(sumS n c.2).bind λb=>some (.binary a.1.fr b.1.to c.1 a.1 b.1,b.2)
def sumS:Nat->PS->Option (T×PS)
 |0,_=>none
 |n+1,st=>Bs n .term [19,20] st
def Dp:Nat->PS->Option (T×PS)
 |0,_=>none
 |n+1,st=>Bs n .call [21,22] st
def B6:Nat->Part->PS->Option (T×PS)
 |0,_,_=>none
 |n+1,.term,st=>Dp n st
 |n+1,.call,st=>Dj n st
def Bs:Nat->Part->List Int->PS->Option (T×PS)
 |0,_,_,_=>none
 |n+1,p,signs,st=>(B6 n p st).bind λa=>Am n p signs a.1 a.2
def Am:Nat->Part->List Int->T->PS->Option (T×PS)
 |0,_,_,_,_=>none
 |n+1,p,signs,left,st=>(Ar ts signs st).bind λa=>
  if a.1=0 then some (left,a.2)else(B6 n p a.2).bind λb=>Am n p signs (.binary left.fr b.1.to a.1 left b.1) b.2
def Dj:Nat->PS->Option (T×PS)
 |0,_=>none
 |n+1,st=>(Cs n st).bind λa=>Aq n a.1 a.2
def Aq:Nat->T->PS->Option (T×PS)
 |0,_,_=>none
 |n+1,left,st=>(tokS ts st).bind λt=>
  if Aj t.sort then(Cs n st).bind λb=>Aq n (.call left.fr b.1.to left b.1) b.2 else some (left,st)
def Cs:Nat->PS->Option (T×PS)
 |0,_=>none
 |n+1,st=>(tokS ts st).bind λt=>
  if t.sort=16 then Ba n st
  else if Aj t.sort then(Au ts t.sort st).bind λr=>(Ks l t).bind λx=>some (x,r.2)
  else(Fb ts st).bind λst'=>some (.name 0 0 [],st')
def Ba:Nat->PS->Option (T×PS)
 |0,_=>none
 |n+1,st=>(Cv ts 16 st).bind λb=>(A8 n b.2).bind λx=>(Ar ts [18] x.2).bind λc=>
  if c.1=18 then(A8 n c.2).bind λy=>(Au ts 17 y.2).bind λr=>(endS r.2).bind λst'=>some (.pair b.1 r.1.to x.1 y.1,st')
  else(Au ts 17 c.2).bind λr=>(endS r.2).bind λst'=>some (.bracket b.1 r.1.to x.1,st')
end
end
def Fk(l:List UInt8)(ts:List Tok)(fuel:Nat):Option (Except Nat T):=
 (A8 l ts fuel ⟨0,0,false,0⟩).bind λx=>(Au ts 0 x.2).bind λr=>
  some (if r.2.stuck then .error r.2.fault else .ok x.1)
end
end Go.Proofs.YtckhafpejefbbaaGreatDoor.Tw
