/- Texts of the proof, put together: RunTw. -/
import Derived.Test.YtckhafpejefbbaaGreatDoorB04
import Derived.RowKit
import Derived.Lib.ItoaNum

set_option maxRecDepth 100000
set_option maxHeartbeats 4000000
namespace Go.Proofs.YtckhafpejefbbaaGreatDoor.Tw
open Go Go.RowKit
abbrev VEnv:=List (List UInt8×Nat)
inductive Val where
 | num (n:Int)
 | truth (b:Bool)
 | side (second:Bool)
 | pair (l r:Val)
 | clo (fr to:Nat) (bn:List UInt8) (bat:Nat) (body:T) (env:VEnv)
 deriving DecidableEq
structure RS where
 slots:List (Option Val)
 steps:Nat
 fin:Int
 deriving DecidableEq
def zd6:VEnv->List UInt8->Option Nat
 | [],_=>none
 | (n,k)::o,x=>if n=x then some k else zd6 o x
def asNum:Val->Int
 | .num n=>n
 | _=>0
def zck (sg:Int) (a b:Int) (st:RS):Option Val×RS :=
 if sg=19 then (some (.num (wrap64 (a+b))),st)
 else if sg=20 then (some (.num (wrap64 (a-b))),st)
 else if sg=21 then (some (.num (wrap64 (a * b))),st)
 else if sg=23 then (some (.truth (decide (a<b))),st)
 else if sg=15 then (some (.truth (decide (a=b))),st)
 else if b=0 then (none,{st with fin:=1})
 else (some (.num (wrap64 (a.tdiv b))),st)
def znw (v:Val) (sec:Bool):Option Val :=
 match v with
 | .pair l r=>some (if sec then r else l)
 | _=>none
def zap (bud:Nat):Nat->T->VEnv->RS->Option (Option Val×RS)
 | 0,_,_,_=>none
 | _+1,.name _ _ x,e,st=>(zd6 e x).bind fun i=>match st.slots[i]? with
  | none=>none
  | some none=>some (none,{st with fin:=1})
  | some (some v)=>some (some v,st)
 | _+1,.int _ _ v,_,st=>if -9223372036854775808<=v/\v<=9223372036854775807 then some (some (.num v),st) else none
 | _+1,.truth _ _ b,_,st=>some (some (.truth b),st)
 | _+1,.side _ _ b,_,st=>some (some (.side b),st)
 | n+1,.bracket _ _ i,e,st=>zap bud n i e st
 | n+1,.pair _ _ l r,e,st=>(zap bud n l e st).bind fun a=>match a.1 with
  | none=>some (none,a.2)
  | some x=>(zap bud n r e a.2).bind fun b=>match b.1 with
   | none=>some (none,b.2)
   | some y=>some (some (.pair x y),b.2)
 | n+1,.call _ _ l r,e,st=>(zap bud n l e st).bind fun a=>match a.1 with
  | none=>some (none,a.2)
  | some x=>(zap bud n r e a.2).bind fun b=>match b.1 with
   | none=>some (none,b.2)
   | some y=>match x with
    | .clo _ _ bn _ body env=>if b.2.steps=bud then some (none,{b.2 with fin:=2})
     else zap bud n body ((bn,b.2.slots.length)::env) {b.2 with slots:=b.2.slots ++ [some y],steps:=b.2.steps+1}
    | .side sec=>some (znw y sec,b.2)
    | _=>some (none,b.2)
 | n+1,.binary _ _ sg l r,e,st=>(zap bud n l e st).bind fun a=>match a.1 with
  | none=>some (none,a.2)
  | some x=>(zap bud n r e a.2).bind fun b=>match b.1 with
   | none=>some (none,b.2)
   | some y=>some (zck sg (asNum x) (asNum y) b.2)
 | n+1,.cond _ _ c t f,e,st=>(zap bud n c e st).bind fun a=>match a.1 with
  | none=>some (none,a.2)
  | some x=>if x = .truth true then zap bud n t e a.2 else zap bud n f e a.2
 | _+1,.fn fr to bn bat b,e,st=>some (some (.clo fr to bn bat b e),st)
 | n+1,.lett _ _ rc bn _ d b,e,st =>
  (zap bud n d (if rc then (bn,st.slots.length)::e else e) {st with slots:=st.slots ++ [none]}).bind fun a=>match a.1 with
   | none=>some (none,a.2)
   | some x=>zap bud n b ((bn,st.slots.length)::e) {a.2 with slots:=a.2.slots.set st.slots.length (some x)}
def zdl (bud n:Nat) (l r:T) (e:VEnv) (st:RS):Option (Option (Val×Val)×RS) :=
 (zap bud n l e st).bind fun a=>match a.1 with
  | none=>some (none,a.2)
  | some x=>(zap bud n r e a.2).bind fun b=>match b.1 with
   | none=>some (none,b.2)
   | some y=>some (some (x,y),b.2)
def zft (bud n:Nat) (x y:Val) (st:RS):Option (Option Val×RS) :=
 match x with
 | .clo _ _ bn _ body env=>if st.steps=bud then some (none,{st with fin:=2})
  else zap bud n body ((bn,st.slots.length)::env) {st with slots:=st.slots ++ [some y],steps:=st.steps+1}
 | .side sec=>some (znw y sec,st)
 | _=>some (none,st)
theorem zdy (bud n fr to:Nat) (l r:T) (e:VEnv) (st:RS):zap bud (n+1) (.pair fr to l r) e st=(zdl bud n l r e st).bind fun c=>match c.1 with
  | none=>some (none,c.2)
  | some (x,y)=>some (some (.pair x y),c.2):=by
 rw [zap,zdl]
 cases zap bud n l e st with
 | none=>rfl
 | some a =>
  obtain ⟨a1,a2⟩:=a
  cases a1 with
  | none=>rfl
  | some x =>
   simp only [zbS]
   cases zap bud n r e a2 with
   | none=>rfl
   | some b =>
    obtain ⟨b1,b2⟩:=b
    cases b1 <;> rfl
theorem zb7 (bud n fr to:Nat) (l r:T) (e:VEnv) (st:RS):zap bud (n+1) (.call fr to l r) e st=(zdl bud n l r e st).bind fun c=>match c.1 with
  | none=>some (none,c.2)
  | some (x,y)=>zft bud n x y c.2:=by
 rw [zap,zdl]
 cases zap bud n l e st with
 | none=>rfl
 | some a =>
  obtain ⟨a1,a2⟩:=a
  cases a1 with
  | none=>rfl
  | some x =>
   simp only [zbS]
   cases zap bud n r e a2 with
   | none=>rfl
   | some b =>
    obtain ⟨b1,b2⟩:=b
    cases b1 with
    | none=>rfl
    | some y=>cases x <;> rfl
theorem zcy (bud n fr to:Nat) (sg:Int) (l r:T) (e:VEnv) (st:RS):zap bud (n+1) (.binary fr to sg l r) e st=(zdl bud n l r e st).bind fun c=>match c.1 with
  | none=>some (none,c.2)
  | some (x,y)=>some (zck sg (asNum x) (asNum y) c.2):=by
 rw [zap,zdl]
 cases zap bud n l e st with
 | none=>rfl
 | some a =>
  obtain ⟨a1,a2⟩:=a
  cases a1 with
  | none=>rfl
  | some x =>
   simp only [zbS]
   cases zap bud n r e a2 with
   | none=>rfl
   | some b =>
    obtain ⟨b1,b2⟩:=b
    cases b1 <;> rfl
def putS (lim:Nat) (acc s:List UInt8):List UInt8:=if lim<acc.length then acc else acc++s
def zhc (b:Bool):List UInt8:=if b then [116,114,117,101] else [102,97,108,115,101]
def zdd:Val->List UInt8->List UInt8
 | .num n,acc=>if 400<acc.length then acc else putS 400 acc (Lib.itoa n)
 | .truth b,acc=>if 400<acc.length then acc else putS 400 acc (zhc b)
 | .side _,acc=>if 400<acc.length then acc else putS 400 acc [102,117,110]
 | .clo _ _ _ _ _ _,acc=>if 400<acc.length then acc else putS 400 acc [102,117,110]
 | .pair l r,acc=>if 400<acc.length then acc else putS 400 (zdd r (putS 400 (zdd l (putS 400 acc [40])) [44,32])) [41]
def zju (lim:Nat) (acc:List UInt8):List UInt8:=if lim<acc.length then [46,46,46] else acc
def runS (fuel:Nat) (t:T) (bud:Nat):Option (Int×Nat×List UInt8) :=
 (zap bud fuel t [] ⟨[],0,0⟩).bind fun a=>match a.1 with
  | none=>some (a.2.fin,a.2.steps,[])
  | some v=>some (0,a.2.steps,zju 400 (zdd v []))
end Go.Proofs.YtckhafpejefbbaaGreatDoor.Tw
