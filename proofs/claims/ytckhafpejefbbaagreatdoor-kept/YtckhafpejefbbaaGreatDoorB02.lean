/- Texts of the proof, put together: WordsTw. -/
import Derived.WalkKit
import Derived.Lib.Bytealg

set_option maxRecDepth 100000
set_option maxHeartbeats 4000000
namespace Go.Proofs.YtckhafpejefbbaaGreatDoor
theorem zgE {α:Type _} {xs:Array α} {i:Nat} {a:α} : xs[i]?=some a ↔ ∃h:i<xs.size,xs[i]=a:=Array.getElem?_eq_some_iff
theorem zbE {α β:Type _} {b:β} {o:Option α} {f:α->Option β} : o.bind f=some b ↔ ∃a,o=some a/\f a=some b:=Option.bind_eq_some_iff
theorem zsA {α:Type _} {l:List α} {i:Nat} {a:α} : l.toArray.setIfInBounds i a=(l.set i a).toArray:=List.setIfInBounds_toArray ..
theorem zsZ {α:Type _} {a:α} {l:List α} {b:α} : (a::l).set 0 b=b::l:=rfl
theorem zsS {α:Type _} {a:α} {l:List α} {i:Nat} {b:α} : (a::l).set (i+1) b=a::l.set i b:=rfl
theorem zsI {α:Type _} (a b:α) : (some a=some b)=(a=b):=Option.some.injEq a b
theorem zbS {α β:Type _} (a:α) (f:α->Option β) : (some a).bind f=f a:=rfl
theorem znL (n:Nat) : n<=n:=Nat.le_refl n
theorem zpI {α β:Type _} (a:α) (b:β) (c:α) (d:β) : ((a,b)=(c,d))=(a=c/\b=d):=Prod.mk.injEq a b c d
theorem zcR {w:World} {b j:Nat} {c:Array Value} {t:TypeId} {m:Nat×Nat} {v:Value} (h:w.heap[b]?=some (.cells c t m)) (e:c[j]?=some v:=by rfl) : w.cell? ⟨b,j,none⟩=some v:=by simp [World.cell?,h,e]
theorem zwA (w:World) (o:Obj) (b:Option Nat) : w.grownBy (w.alloc o) b:=World.grownBy_alloc w o b
theorem zmA {α:Type _} {a:α} {s t:List α} : a∈s ++ t ↔ a∈s\/a∈t:=List.mem_append
theorem zmC {α:Type _} {a b:α} {l:List α} : a∈b::l ↔ a=b\/a∈l:=List.mem_cons
theorem zlE {α:Type _} {xs:List α} {i:Nat} {a:α} : xs[i]?=some a ↔ ∃h:i<xs.length,xs[i]=a:=List.getElem?_eq_some_iff
theorem zbG {w w':World} {k:Nat} {o:Obj} (h:w.grownBy w' none) (hb:w.heap[k]?=some o) : w'.heap[k]?=some o:=(h.block k (Array.getElem?_eq_some_iff.1 hb).1 (by simp)).trans hb
end Go.Proofs.YtckhafpejefbbaaGreatDoor
namespace Go.Proofs.YtckhafpejefbbaaGreatDoor.Tw
open Go
def zbh (c:Int):Bool:=decide (97<=c/\c<=122)
def zas (c:Int):Bool:=decide (48<=c/\c<=57)
def zbg (c:Int):Bool:=decide ((97<=c/\c<=122)\/(48<=c/\c<=57))
def zfw (c:Int):Int×Int :=
 if c=61 then (15,1) else if c=40 then (16,1) else if c=41 then (17,1) else if c=44 then (18,1)
 else if c=43 then (19,1) else if c=45 then (20,1) else if c=42 then (21,1) else if c=47 then (22,1)
 else if c=60 then (23,1) else (0,0)
def zf6 (l:List UInt8):Int :=
 if l=[108,101,116] then 3 else if l=[114,101,99] then 4 else if l=[105,110] then 5 else if l=[102,117,110] then 6
 else if l=[105,102] then 7 else if l=[116,104,101,110] then 8 else if l=[101,108,115,101] then 9
 else if l=[116,114,117,101] then 10 else if l=[102,97,108,115,101] then 11 else if l=[102,115,116] then 12
 else if l=[115,110,100] then 13 else 1
def zh5 (l:List UInt8):Int×Int:=if l.length>6 then (0,0) else (zf6 l,l.length)
def zdm (l:List UInt8):Int×Int:=if l.length>9 then (0,0) else (2,l.length)
def zam (l:List UInt8):Int:=match l with | [] => -1 | c::_=>c.toNat
def gapL (l:List UInt8):Int :=
 if zam l=32\/zam l=9\/zam l=10 then 1
 else if zam l=123 then Lib.indexByte l 125+1 else 0
def runL (p:Int->Bool) (l:List UInt8):List UInt8:=l.takeWhile fun c=>p c.toNat
def zah (l:List UInt8):Int×Int :=
 if zbh (zam l) then zh5 (runL zbg l)
 else if zas (zam l) then zdm (runL zas l)
 else if l.take 2=[45,62] then (14,2)
 else zfw (zam l)
theorem zk1 (s:ByteArray) (h:0<s.size):zam s.data.toList=s[0].toNat:=by
 obtain ⟨a⟩:=s
 obtain ⟨l⟩:=a
 cases l with
 | nil=>simp [ByteArray.size] at h
 | cons c l=>rfl
theorem zmo (l:List UInt8) (c:UInt8):Lib.indexByte l c<l.length /\ -1<=Lib.indexByte l c:=by
 refine ⟨?_,Lib.indexByte_ge l c⟩
 induction l with
 | nil=>simp [Lib.indexByte]
 | cons b l ih =>
  simp only [Lib.indexByte,List.length_cons]
  split
  ·omega
  ·split <;> omega
end Go.Proofs.YtckhafpejefbbaaGreatDoor.Tw
