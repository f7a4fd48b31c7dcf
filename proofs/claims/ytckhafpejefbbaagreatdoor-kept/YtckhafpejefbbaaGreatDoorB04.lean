/- Texts of the proof, put together: ParseTw. -/
import Derived.Test.YtckhafpejefbbaaGreatDoorB03
import Derived.Lib.ParseIntB

set_option maxRecDepth 100000
set_option maxHeartbeats 4000000
namespace Go.Proofs.YtckhafpejefbbaaGreatDoor.Tw
open Go
structure PS where
 next:Nat
 depth:Nat
 stuck:Bool
 fault:Nat
 deriving DecidableEq
inductive T where
 | name (fr to:Nat) (text:List UInt8)
 | int (fr to:Nat) (v:Int)
 | truth (fr to:Nat) (b:Bool)
 | side (fr to:Nat) (second:Bool)
 | bracket (fr to:Nat) (inner:T)
 | pair (fr to:Nat) (l r:T)
 | call (fr to:Nat) (f a:T)
 | binary (fr to:Nat) (sign:Int) (l r:T)
 | cond (fr to:Nat) (c t e:T)
 | fn (fr to:Nat) (bn:List UInt8) (bat:Nat) (body:T)
 | lett (fr to:Nat) (rc:Bool) (bn:List UInt8) (bat:Nat) (d b:T)
 deriving DecidableEq
def T.fr:T->Nat
 | .name f _ _ | .int f _ _ | .truth f _ _ | .side f _ _ | .bracket f _ _ | .pair f _ _ _ | .call f _ _ _ | .binary f _ _ _ _ | .cond f _ _ _ _ | .fn f _ _ _ _ | .lett f _ _ _ _ _ _=>f
def T.to:T->Nat
 | .name _ t _ | .int _ t _ | .truth _ t _ | .side _ t _ | .bracket _ t _ | .pair _ t _ _ | .call _ t _ _ | .binary _ t _ _ _ | .cond _ t _ _ _ | .fn _ t _ _ _ | .lett _ t _ _ _ _ _=>t
def tokS (ts:List Tok) (st:PS):Option Tok:=if st.stuck then ts[ts.length-1]? else ts[st.next]?
def zh6 (ts:List Tok) (st:PS):Option PS :=
 if st.stuck then some st else (tokS ts st).bind fun t=>some {st with stuck:=true,fault:=t.fr}
def zbe (ts:List Tok) (sort:Int) (st:PS):Option (Tok×PS) :=
 (tokS ts st).bind fun t =>
  if t.sort=sort then (if sort=0 then some (t,st) else if st.next<=300 then some (t,{st with next:=st.next+1}) else none)
  else (zh6 ts st).bind fun st'=>some (t,st')
def zao (ts:List Tok):List Int->PS->Option (Int×PS)
 | [],st=>some (0,st)
 | s::l,st=>(tokS ts st).bind fun t=>if t.sort=s then (zbe ts s st).bind fun r=>some (r.1.sort,r.2) else zao ts l st
def zce (ts:List Tok) (sort:Int) (st:PS):Option (Nat×PS) :=
 (if st.depth=40 then zh6 ts st else some st).bind fun st1 =>
  if st1.depth<=300 then (zbe ts sort {st1 with depth:=st1.depth+1}).bind fun r=>some (r.1.fr,r.2) else none
def endS (st:PS):Option PS:=if st.depth=0 then none else some {st with depth:=st.depth-1}
def zaw (l:List UInt8) (a b:Nat):List UInt8:=(l.drop a).take (b-a)
def zct (l:List UInt8) (ts:List Tok) (st:PS):Option ((List UInt8×Nat)×PS) :=
 (zbe ts 1 st).bind fun r=>if r.1.fr<=r.1.to/\r.1.to<=l.length then some ((zaw l r.1.fr r.1.to,r.1.fr),r.2) else none
def zal (s:Int):Bool:=decide (s=1\/s=2\/s=10\/s=11\/s=12\/s=13\/s=16)
def zfs (l:List UInt8):Option Int:=match Lib.parseIntB 64 l with | .ok v=>some v | _=>none
def zeq (l:List UInt8) (t:Tok):Option T :=
 if t.sort=2 then (if t.fr<=t.to/\t.to<=l.length then (zfs (zaw l t.fr t.to)).bind fun v=>some (.int t.fr t.to v) else none)
 else if t.sort=10\/t.sort=11 then some (.truth t.fr t.to (t.sort==10))
 else if t.sort=12\/t.sort=13 then some (.side t.fr t.to (t.sort==13))
 else if t.fr<=t.to/\t.to<=l.length then some (.name t.fr t.to (zaw l t.fr t.to)) else none
inductive Part where
 | term
 | call
section
variable (l : List UInt8) (ts : List Tok)
mutual
def za6:Nat->PS->Option (T×PS)
 | 0,_=>none
 | n+1,st=>(tokS ts st).bind fun t =>
  if t.sort=3 then letS n st else if t.sort=6 then funS n st else if t.sort=7 then zco n st else cmpS n st
def letS:Nat->PS->Option (T×PS)
 | 0,_=>none
 | n+1,st =>
  (zce ts 3 st).bind fun b=>(zao ts [4] b.2).bind fun rc=>(zct l ts rc.2).bind fun bd =>
  (zbe ts 15 bd.2).bind fun e=>(za6 n e.2).bind fun d=>(zbe ts 5 d.2).bind fun i=>(za6 n i.2).bind fun x =>
  (endS x.2).bind fun st'=>some (.lett b.1 x.1.to (rc.1==4) bd.1.1 bd.1.2 d.1 x.1,st')
def funS:Nat->PS->Option (T×PS)
 | 0,_=>none
 | n+1,st =>
  (zce ts 6 st).bind fun b=>(zct l ts b.2).bind fun bd=>(zbe ts 14 bd.2).bind fun a=>(za6 n a.2).bind fun x =>
  (endS x.2).bind fun st'=>some (.fn b.1 x.1.to bd.1.1 bd.1.2 x.1,st')
def zco:Nat->PS->Option (T×PS)
 | 0,_=>none
 | n+1,st =>
  (zce ts 7 st).bind fun b=>(za6 n b.2).bind fun c=>(zbe ts 8 c.2).bind fun t=>(za6 n t.2).bind fun x =>
  (zbe ts 9 x.2).bind fun e=>(za6 n e.2).bind fun y=>(endS y.2).bind fun st'=>some (.cond b.1 y.1.to c.1 x.1 y.1,st')
def cmpS:Nat->PS->Option (T×PS)
 | 0,_=>none
 | n+1,st=>(sumS n st).bind fun a=>(zao ts [23,15] a.2).bind fun sg =>
  if sg.1=0 then some (a.1,sg.2) else (sumS n sg.2).bind fun b=>some (.binary a.1.fr b.1.to sg.1 a.1 b.1,b.2)
def sumS:Nat->PS->Option (T×PS)
 | 0,_=>none
 | n+1,st=>zbf n .term [19,20] st
def zci:Nat->PS->Option (T×PS)
 | 0,_=>none
 | n+1,st=>zbf n .call [21,22] st
def zbc:Nat->Part->PS->Option (T×PS)
 | 0,_,_=>none
 | n+1,.term,st=>zci n st
 | n+1,.call,st=>zcc n st
def zbf:Nat->Part->List Int->PS->Option (T×PS)
 | 0,_,_,_=>none
 | n+1,p,signs,st=>(zbc n p st).bind fun a=>zan n p signs a.1 a.2
def zan:Nat->Part->List Int->T->PS->Option (T×PS)
 | 0,_,_,_,_=>none
 | n+1,p,signs,left,st=>(zao ts signs st).bind fun sg =>
  if sg.1=0 then some (left,sg.2) else (zbc n p sg.2).bind fun b=>zan n p signs (.binary left.fr b.1.to sg.1 left b.1) b.2
def zcc:Nat->PS->Option (T×PS)
 | 0,_=>none
 | n+1,st=>(zbv n st).bind fun a=>zar n a.1 a.2
def zar:Nat->T->PS->Option (T×PS)
 | 0,_,_=>none
 | n+1,left,st=>(tokS ts st).bind fun t =>
  if zal t.sort then (zbv n st).bind fun b=>zar n (.call left.fr b.1.to left b.1) b.2 else some (left,st)
def zbv:Nat->PS->Option (T×PS)
 | 0,_=>none
 | n+1,st=>(tokS ts st).bind fun t =>
  if t.sort=16 then za0 n st
  else if zal t.sort then (zbe ts t.sort st).bind fun r=>(zeq l t).bind fun x=>some (x,r.2)
  else (zh6 ts st).bind fun st'=>some (.name 0 0 [],st')
def za0:Nat->PS->Option (T×PS)
 | 0,_=>none
 | n+1,st=>(zce ts 16 st).bind fun b=>(za6 n b.2).bind fun x=>(zao ts [18] x.2).bind fun c =>
  if c.1=18 then (za6 n c.2).bind fun y=>(zbe ts 17 y.2).bind fun r=>(endS r.2).bind fun st'=>some (.pair b.1 r.1.to x.1 y.1,st')
  else (zbe ts 17 c.2).bind fun r=>(endS r.2).bind fun st'=>some (.bracket b.1 r.1.to x.1,st')
end
end
def zb9 (l:List UInt8) (ts:List Tok) (fuel:Nat):Option (Except Nat T) :=
 (za6 l ts fuel ⟨0,0,false,0⟩).bind fun x=>(zbe ts 0 x.2).bind fun r =>
  some (if r.2.stuck then .error r.2.fault else .ok x.1)
end Go.Proofs.YtckhafpejefbbaaGreatDoor.Tw
