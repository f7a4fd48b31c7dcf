/- Texts of the proof, put together: ParseTw. -/
import Derived.Test.YtckhafpejefbbaaGreatDoorB03
import Derived.Lib.ParseIntB

/- Package parse as plain functions: the parser's state, the trees. -/
namespace Go.Proofs.YtckhafpejefbbaaGreatDoor.Tw
open Go

structure PS where
  next : Nat
  depth : Nat
  stuck : Bool
  fault : Nat
  deriving DecidableEq

inductive T where
  | name (fr to : Nat) (text : List UInt8)
  | int (fr to : Nat) (v : Int)
  | truth (fr to : Nat) (b : Bool)
  | side (fr to : Nat) (second : Bool)
  | bracket (fr to : Nat) (inner : T)
  | pair (fr to : Nat) (l r : T)
  | call (fr to : Nat) (f a : T)
  | binary (fr to : Nat) (sign : Int) (l r : T)
  | cond (fr to : Nat) (c t e : T)
  | fn (fr to : Nat) (bn : List UInt8) (bat : Nat) (body : T)
  | lett (fr to : Nat) (rc : Bool) (bn : List UInt8) (bat : Nat) (d b : T)
  deriving DecidableEq

def T.fr : T → Nat
  | .name f _ _ | .int f _ _ | .truth f _ _ | .side f _ _ | .bracket f _ _ | .pair f _ _ _ | .call f _ _ _ | .binary f _ _ _ _ | .cond f _ _ _ _ | .fn f _ _ _ _ | .lett f _ _ _ _ _ _ => f
def T.to : T → Nat
  | .name _ t _ | .int _ t _ | .truth _ t _ | .side _ t _ | .bracket _ t _ | .pair _ t _ _ | .call _ t _ _ | .binary _ t _ _ _ | .cond _ t _ _ _ | .fn _ t _ _ _ | .lett _ t _ _ _ _ _ => t

def tokS (ts : List Tok) (st : PS) : Option Tok := if st.stuck then ts[ts.length - 1]? else ts[st.next]?

def failS (ts : List Tok) (st : PS) : Option PS :=
  if st.stuck then some st else (tokS ts st).bind fun t => some { st with stuck := true, fault := t.fr }

def takeS (ts : List Tok) (sort : Int) (st : PS) : Option (Tok × PS) :=
  (tokS ts st).bind fun t =>
    if t.sort = sort then (if sort = 0 then some (t, st) else if st.next ≤ 300 then some (t, { st with next := st.next + 1 }) else none)
    else (failS ts st).bind fun st' => some (t, st')

def takeAnyS (ts : List Tok) : List Int → PS → Option (Int × PS)
  | [], st => some (0, st)
  | s :: l, st => (tokS ts st).bind fun t => if t.sort = s then (takeS ts s st).bind fun r => some (r.1.sort, r.2) else takeAnyS ts l st

def beginS (ts : List Tok) (sort : Int) (st : PS) : Option (Nat × PS) :=
  (if st.depth = 40 then failS ts st else some st).bind fun st1 =>
    if st1.depth ≤ 300 then (takeS ts sort { st1 with depth := st1.depth + 1 }).bind fun r => some (r.1.fr, r.2) else none

def endS (st : PS) : Option PS := if st.depth = 0 then none else some { st with depth := st.depth - 1 }

def piece (l : List UInt8) (a b : Nat) : List UInt8 := (l.drop a).take (b - a)

def binderS (l : List UInt8) (ts : List Tok) (st : PS) : Option ((List UInt8 × Nat) × PS) :=
  (takeS ts 1 st).bind fun r => if r.1.fr ≤ r.1.to ∧ r.1.to ≤ l.length then some ((piece l r.1.fr r.1.to, r.1.fr), r.2) else none

def beginsAtom (s : Int) : Bool := decide (s = 1 ∨ s = 2 ∨ s = 10 ∨ s = 11 ∨ s = 12 ∨ s = 13 ∨ s = 16)

def valueS (l : List UInt8) : Option Int := match Lib.parseIntB 64 l with | .ok v => some v | _ => none

def leafS (l : List UInt8) (t : Tok) : Option T :=
  if t.sort = 2 then (if t.fr ≤ t.to ∧ t.to ≤ l.length then (valueS (piece l t.fr t.to)).bind fun v => some (.int t.fr t.to v) else none)
  else if t.sort = 10 ∨ t.sort = 11 then some (.truth t.fr t.to (t.sort == 10))
  else if t.sort = 12 ∨ t.sort = 13 then some (.side t.fr t.to (t.sort == 13))
  else if t.fr ≤ t.to ∧ t.to ≤ l.length then some (.name t.fr t.to (piece l t.fr t.to)) else none

inductive Part where
  | term
  | call

section
variable (l : List UInt8) (ts : List Tok)

mutual
def exprS : Nat → PS → Option (T × PS)
  | 0, _ => none
  | n + 1, st => (tokS ts st).bind fun t =>
    if t.sort = 3 then letS n st else if t.sort = 6 then funS n st else if t.sort = 7 then condS n st else cmpS n st
def letS : Nat → PS → Option (T × PS)
  | 0, _ => none
  | n + 1, st =>
    (beginS ts 3 st).bind fun b => (takeAnyS ts [4] b.2).bind fun rc => (binderS l ts rc.2).bind fun bd =>
    (takeS ts 15 bd.2).bind fun e => (exprS n e.2).bind fun d => (takeS ts 5 d.2).bind fun i => (exprS n i.2).bind fun x =>
    (endS x.2).bind fun st' => some (.lett b.1 x.1.to (rc.1 == 4) bd.1.1 bd.1.2 d.1 x.1, st')
def funS : Nat → PS → Option (T × PS)
  | 0, _ => none
  | n + 1, st =>
    (beginS ts 6 st).bind fun b => (binderS l ts b.2).bind fun bd => (takeS ts 14 bd.2).bind fun a => (exprS n a.2).bind fun x =>
    (endS x.2).bind fun st' => some (.fn b.1 x.1.to bd.1.1 bd.1.2 x.1, st')
def condS : Nat → PS → Option (T × PS)
  | 0, _ => none
  | n + 1, st =>
    (beginS ts 7 st).bind fun b => (exprS n b.2).bind fun c => (takeS ts 8 c.2).bind fun t => (exprS n t.2).bind fun x =>
    (takeS ts 9 x.2).bind fun e => (exprS n e.2).bind fun y => (endS y.2).bind fun st' => some (.cond b.1 y.1.to c.1 x.1 y.1, st')
def cmpS : Nat → PS → Option (T × PS)
  | 0, _ => none
  | n + 1, st => (sumS n st).bind fun a => (takeAnyS ts [23, 15] a.2).bind fun sg =>
    if sg.1 = 0 then some (a.1, sg.2) else (sumS n sg.2).bind fun b => some (.binary a.1.fr b.1.to sg.1 a.1 b.1, b.2)
def sumS : Nat → PS → Option (T × PS)
  | 0, _ => none
  | n + 1, st => chainS n .term [19, 20] st
def termS : Nat → PS → Option (T × PS)
  | 0, _ => none
  | n + 1, st => chainS n .call [21, 22] st
def partS : Nat → Part → PS → Option (T × PS)
  | 0, _, _ => none
  | n + 1, .term, st => termS n st
  | n + 1, .call, st => callS n st
def chainS : Nat → Part → List Int → PS → Option (T × PS)
  | 0, _, _, _ => none
  | n + 1, p, signs, st => (partS n p st).bind fun a => chainFromS n p signs a.1 a.2
def chainFromS : Nat → Part → List Int → T → PS → Option (T × PS)
  | 0, _, _, _, _ => none
  | n + 1, p, signs, left, st => (takeAnyS ts signs st).bind fun sg =>
    if sg.1 = 0 then some (left, sg.2) else (partS n p sg.2).bind fun b => chainFromS n p signs (.binary left.fr b.1.to sg.1 left b.1) b.2
def callS : Nat → PS → Option (T × PS)
  | 0, _ => none
  | n + 1, st => (atomS n st).bind fun a => callFromS n a.1 a.2
def callFromS : Nat → T → PS → Option (T × PS)
  | 0, _, _ => none
  | n + 1, left, st => (tokS ts st).bind fun t =>
    if beginsAtom t.sort then (atomS n st).bind fun b => callFromS n (.call left.fr b.1.to left b.1) b.2 else some (left, st)
def atomS : Nat → PS → Option (T × PS)
  | 0, _ => none
  | n + 1, st => (tokS ts st).bind fun t =>
    if t.sort = 16 then bracketS n st
    else if beginsAtom t.sort then (takeS ts t.sort st).bind fun r => (leafS l t).bind fun x => some (x, r.2)
    else (failS ts st).bind fun st' => some (.name 0 0 [], st')
def bracketS : Nat → PS → Option (T × PS)
  | 0, _ => none
  | n + 1, st => (beginS ts 16 st).bind fun b => (exprS n b.2).bind fun x => (takeAnyS ts [18] x.2).bind fun c =>
    if c.1 = 18 then (exprS n c.2).bind fun y => (takeS ts 17 y.2).bind fun r => (endS r.2).bind fun st' => some (.pair b.1 r.1.to x.1 y.1, st')
    else (takeS ts 17 c.2).bind fun r => (endS r.2).bind fun st' => some (.bracket b.1 r.1.to x.1, st')
end

end

def parseS (l : List UInt8) (ts : List Tok) (fuel : Nat) : Option (Except Nat T) :=
  (exprS l ts fuel ⟨0, 0, false, 0⟩).bind fun x => (takeS ts 0 x.2).bind fun r =>
    some (if r.2.stuck then .error r.2.fault else .ok x.1)

end Go.Proofs.YtckhafpejefbbaaGreatDoor.Tw
