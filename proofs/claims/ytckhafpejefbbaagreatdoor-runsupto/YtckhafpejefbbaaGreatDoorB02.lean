import Derived.WalkKit
import Derived.Lib.Bytealg

set_option maxRecDepth 100000
set_option maxHeartbeats 4000000
namespace Go.Proofs.YtckhafpejefbbaaGreatDoor
abbrev zU:=List UInt8
abbrev zG(a b:World):Prop:=a.grownBy b none
abbrev aD(b j:Nat):Addr:=⟨b,j,none⟩
theorem sM{p:Prop}(h:p:=by simp):p:=h
abbrev zB:=@List.length_cons
abbrev kE:=@World.grownBy_alloc
section
variable{i:Nat}{w:World}
theorem zgE{c:Type _}{b:Array c}{a:c}:b[i]?=some a ↔ ∃h:i<b.size,b[i]=a:=Array.getElem?_eq_some_iff
theorem zbE{c β:Type _}{b:β}{o:Option c}{f:c->Option β}:o.bind f=some b ↔ ∃a,o=some a/\f a=some b:=Option.bind_eq_some_iff
theorem zsA{b:Type _}{l:List b}{a:b}:l.toArray.setIfInBounds i a=(l.set i a).toArray:=List.setIfInBounds_toArray ..
theorem zsZ{c:Type _}{a:c}{l:List c}{b:c}:(a::l).set 0 b=b::l:=rfl
theorem zsS{c:Type _}{a:c}{l:List c}{b:c}:(a::l).set (i+1) b=a::l.set i b:=rfl
theorem zsI{c:Type _}(a b:c):(some a=some b)=(a=b):=Option.some.injEq a b
theorem zbS{b β:Type _}(a:b)(f:b->Option β):(some a).bind f=f a:=rfl
theorem znL(n:Nat):n<=n:=Nat.le_refl n
theorem zpI{e β:Type _}(a:e)(b:β)(c:e)(d:β):((a,b)=(c,d))=(a=c/\b=d):=Prod.mk.injEq a b c d
theorem zcR{b j:Nat}{c:Array Value}{t:TypeId}{m:Nat×Nat}{v:Value}(h:w.heap[b]?=some (.cells c t m))(e:c[j]?=some v:=by rfl):w.cell? (aD b j)=some v:=by simp[World.cell?,h,e]
theorem zwA(w:World)(o:Obj)(b:Option Nat):w.grownBy (w.alloc o) b:=kE w o b
theorem zmA{b:Type _}{a:b}{s t:List b}:a∈s++t ↔ a∈s\/a∈t:=List.mem_append
theorem zmC{c:Type _}{a b:c}{l:List c}:a∈b::l ↔ a=b\/a∈l:=List.mem_cons
theorem zlE{c:Type _}{b:List c}{a:c}:b[i]?=some a ↔ ∃h:i<b.length,b[i]=a:=List.getElem?_eq_some_iff
theorem zbG{w':World}{k:Nat}{o:Obj}(h:zG w w')(a:w.heap[k]?=some o):w'.heap[k]?=some o:=(h.block k (Array.getElem?_eq_some_iff.1 a).1 sM).trans a
end
namespace Tw
section
open Go
def Et(c:Int):Bool:=decide (97<=c/\c<=122)
def B6(c:Int):Bool:=decide (48<=c/\c<=57)
def Ef(c:Int):Bool:=decide ((97<=c/\c<=122)\/(48<=c/\c<=57))
def Id(c:Int):Int×Int:=
 if c=61 then(15,1)else if c=40 then(16,1)else if c=41 then(17,1)else if c=44 then(18,1)
 else if c=43 then(19,1)else if c=45 then(20,1)else if c=42 then(21,1)else if c=47 then(22,1)
 else if c=60 then(23,1)else(0,0)
def Cw(l:zU):Int:=
 if l=[108,101,116]then 3 else if l=[114,101,99]then 4 else if l=[105,110]then 5 else if l=[102,117,110]then 6
 else if l=[105,102]then 7 else if l=[116,104,101,110]then 8 else if l=[101,108,115,101]then 9
 else if l=[116,114,117,101]then 10 else if l=[102,97,108,115,101]then 11 else if l=[102,115,116]then 12
 else if l=[115,110,100]then 13 else 1
def Jq(l:zU):Int×Int:=if l.length>6 then(0,0)else(Cw l,l.length)
def Ge(l:zU):Int×Int:=if l.length>9 then(0,0)else(2,l.length)
def D7(l:zU):Int:=match l with|[]=>-1|c::_=>c.toNat
def Mf(l:zU):Int:=
 if D7 l=32\/D7 l=9\/D7 l=10 then 1
 else if D7 l=123 then Lib.indexByte l 125+1 else 0
def Gy(p:Int->Bool)(l:zU):zU:=l.takeWhile λc=>p c.toNat
def Au(l:zU):Int×Int:=
 if Et (D7 l)then Jq (Gy Ef l)
 else if B6 (D7 l)then Ge (Gy B6 l)
 else if l.take 2=[45,62]then(14,2)
 else Id (D7 l)
theorem Te(s:ByteArray)(h:0<s.size):D7 s.data.toList=s[0].toNat:=by
 obtain⟨a⟩:=s;obtain⟨l⟩:=a;cases l with
 |nil=>simp[ByteArray.size]at h
 |cons c l=>rfl
theorem Vi(l:zU)(c:UInt8):Lib.indexByte l c<l.length /\ -1<=Lib.indexByte l c:=by
 refine⟨?_,Lib.indexByte_ge l c⟩
 induction l with
 |nil=>simp[Lib.indexByte]
 |cons b l ih=>
  simp only[Lib.indexByte,zB];split
  ·omega
  ·split<;>omega
end
end Tw
end Go.Proofs.YtckhafpejefbbaaGreatDoor
