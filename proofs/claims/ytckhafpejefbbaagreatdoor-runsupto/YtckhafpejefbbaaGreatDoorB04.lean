import Derived.Test.YtckhafpejefbbaaGreatDoorB03
import Derived.Lib.ParseIntB

set_option maxRecDepth 100000
set_option maxHeartbeats 4000000
namespace Go.Proofs.YtckhafpejefbbaaGreatDoor
namespace Tw
section
open Go
section
structure PS where
 next:Nat
 depth:Nat
 stuck:Bool
 fault:Nat
 deriving DecidableEq
inductive T where
 |name (fr to:Nat) (text:List UInt8)
 |int (fr to:Nat) (v:Int)
 |Ak (fr to:Nat) (b:Bool)
 |side (fr to:Nat) (second:Bool)
 |bracket (fr to:Nat) (inner:T)
 |pair (fr to:Nat) (l r:T)
 |call (fr to:Nat) (f a:T)
 |binary (fr to:Nat) (sign:Int) (l r:T)
 |cond (fr to:Nat) (c t e:T)
 |fn (fr to:Nat) (bn:List UInt8) (bat:Nat) (body:T)
 |Am (fr to:Nat) (rc:Bool) (bn:List UInt8) (bat:Nat) (d b:T)
 deriving DecidableEq
def T.fr:T->Nat
 |.name f _ _|.int f _ _|.Ak f _ _|.side f _ _|.bracket f _ _|.pair f _ _ _|.call f _ _ _|.binary f _ _ _ _|.cond f _ _ _ _|.fn f _ _ _ _|.Am f _ _ _ _ _ _=>f
def T.to:T->Nat
 |.name _ t _|.int _ t _|.Ak _ t _|.side _ t _|.bracket _ t _|.pair _ t _ _|.call _ t _ _|.binary _ t _ _ _|.cond _ t _ _ _|.fn _ t _ _ _|.Am _ t _ _ _ _ _=>t
def Ej(ts:List Tok)(st:PS):Option Tok:=if st.stuck then ts[ts.length-1]? else ts[st.next]?
def Hj(ts:List Tok)(st:PS):Option PS:=
 if st.stuck then some st else(Ej ts st).bind λt=>some {st with stuck:=true,fault:=t.fr}
def Bg(ts:List Tok)(a:Int)(st:PS):Option (Tok×PS):=
 (Ej ts st).bind λt=>
  if t.sort=a then(if a=0 then some (t,st)else if st.next<=300 then some (t,{st with next:=st.next+1})else none)
  else(Hj ts st).bind λb=>some (t,b)
def Bn(ts:List Tok):List Int->PS->Option (Int×PS)
 |[],st=>some (0,st)
 |s::l,st=>(Ej ts st).bind λt=>if t.sort=s then(Bg ts s st).bind λr=>some (r.1.sort,r.2)else Bn ts l st
def Fg(ts:List Tok)(b:Int)(st:PS):Option (Nat×PS):=
 (if st.depth=40 then Hj ts st else some st).bind λa=>
  if a.depth<=300 then(Bg ts b {a with depth:=a.depth+1}).bind λr=>some (r.1.fr,r.2)else none
def endS(st:PS):Option PS:=if st.depth=0 then none else some {st with depth:=st.depth-1}
def Bv(l:zU)(a b:Nat):zU:=(l.drop a).take (b-a)
def Dv(l:zU)(ts:List Tok)(st:PS):Option ((zU×Nat)×PS):=
 (Bg ts 1 st).bind λr=>if r.1.fr<=r.1.to/\r.1.to<=l.length then some ((Bv l r.1.fr r.1.to,r.1.fr),r.2)else none
def Ap(s:Int):Bool:=decide (s=1\/s=2\/s=10\/s=11\/s=12\/s=13\/s=16)
def Me(l:zU):Option Int:=match Lib.parseIntB 64 l with|.ok v=>some v|_=>none
def Lv(l:zU)(t:Tok):Option T:=
 if t.sort=2 then(if t.fr<=t.to/\t.to<=l.length then(Me (Bv l t.fr t.to)).bind λv=>some (.int t.fr t.to v)else none)
 else if t.sort=10\/t.sort=11 then some (.Ak t.fr t.to (t.sort==10))
 else if t.sort=12\/t.sort=13 then some (.side t.fr t.to (t.sort==13))
 else if t.fr<=t.to/\t.to<=l.length then some (.name t.fr t.to (Bv l t.fr t.to))else none
inductive Part where
 |term
 |call
section
variable (l:List UInt8)(ts:List Tok)
mutual
def Cg:Nat->PS->Option (T×PS)
 |0,_=>none
 |n+1,st=>(Ej ts st).bind λt=>
  if t.sort=3 then Oh n st else if t.sort=6 then Oj n st else if t.sort=7 then Ie n st else Kk n st
def Oh:Nat->PS->Option (T×PS)
 |0,_=>none
 |n+1,st=>
  (Fg ts 3 st).bind λb=>(Bn ts [4] b.2).bind λrc=>(Dv l ts rc.2).bind λa=>
  (Bg ts 15 a.2).bind λe=>(Cg n e.2).bind λd=>(Bg ts 5 d.2).bind λi=>(Cg n i.2).bind λx=>
  (endS x.2).bind λst'=>some (.Am b.1 x.1.to (rc.1==4) a.1.1 a.1.2 d.1 x.1,st')
def Oj:Nat->PS->Option (T×PS)
 |0,_=>none
 |n+1,st=>
  (Fg ts 6 st).bind λb=>(Dv l ts b.2).bind λc=>(Bg ts 14 c.2).bind λa=>(Cg n a.2).bind λx=>
  (endS x.2).bind λst'=>some (.fn b.1 x.1.to c.1.1 c.1.2 x.1,st')
def Ie:Nat->PS->Option (T×PS)
 |0,_=>none
 |n+1,st=>
  (Fg ts 7 st).bind λb=>(Cg n b.2).bind λc=>(Bg ts 8 c.2).bind λt=>(Cg n t.2).bind λx=>
  (Bg ts 9 x.2).bind λe=>(Cg n e.2).bind λy=>(endS y.2).bind λst'=>some (.cond b.1 y.1.to c.1 x.1 y.1,st')
def Kk:Nat->PS->Option (T×PS)
 |0,_=>none
 |n+1,st=>(Kj n st).bind λa=>(Bn ts [23,15] a.2).bind λc=>
  if c.1=0 then some (a.1,c.2)else(Kj n c.2).bind λb=>some (.binary a.1.fr b.1.to c.1 a.1 b.1,b.2)
def Kj:Nat->PS->Option (T×PS)
 |0,_=>none
 |n+1,st=>Ed n .term [19,20] st
def Ha:Nat->PS->Option (T×PS)
 |0,_=>none
 |n+1,st=>Ed n .call [21,22] st
def Dw:Nat->Part->PS->Option (T×PS)
 |0,_,_=>none
 |n+1,.term,st=>Ha n st
 |n+1,.call,st=>Gv n st
def Ed:Nat->Part->List Int->PS->Option (T×PS)
 |0,_,_,_=>none
 |n+1,p,signs,st=>(Dw n p st).bind λa=>Bd n p signs a.1 a.2
def Bd:Nat->Part->List Int->T->PS->Option (T×PS)
 |0,_,_,_,_=>none
 |n+1,p,signs,left,st=>(Bn ts signs st).bind λa=>
  if a.1=0 then some (left,a.2)else(Dw n p a.2).bind λb=>Bd n p signs (.binary left.fr b.1.to a.1 left b.1) b.2
def Gv:Nat->PS->Option (T×PS)
 |0,_=>none
 |n+1,st=>(Ev n st).bind λa=>Bh n a.1 a.2
def Bh:Nat->T->PS->Option (T×PS)
 |0,_,_=>none
 |n+1,left,st=>(Ej ts st).bind λt=>
  if Ap t.sort then(Ev n st).bind λb=>Bh n (.call left.fr b.1.to left b.1) b.2 else some (left,st)
def Ev:Nat->PS->Option (T×PS)
 |0,_=>none
 |n+1,st=>(Ej ts st).bind λt=>
  if t.sort=16 then Cd n st
  else if Ap t.sort then(Bg ts t.sort st).bind λr=>(Lv l t).bind λx=>some (x,r.2)
  else(Hj ts st).bind λst'=>some (.name 0 0 [],st')
def Cd:Nat->PS->Option (T×PS)
 |0,_=>none
 |n+1,st=>(Fg ts 16 st).bind λb=>(Cg n b.2).bind λx=>(Bn ts [18] x.2).bind λc=>
  if c.1=18 then(Cg n c.2).bind λy=>(Bg ts 17 y.2).bind λr=>(endS r.2).bind λst'=>some (.pair b.1 r.1.to x.1 y.1,st')
  else(Bg ts 17 c.2).bind λr=>(endS r.2).bind λst'=>some (.bracket b.1 r.1.to x.1,st')
end
end
end
def Gj(l:zU)(ts:List Tok)(fuel:Nat):Option (Except Nat T):=
 (Cg l ts fuel ⟨0,0,false,0⟩).bind λx=>(Bg ts 0 x.2).bind λr=>
  some (if r.2.stuck then .error r.2.fault else .ok x.1)
end
end Tw
end Go.Proofs.YtckhafpejefbbaaGreatDoor
