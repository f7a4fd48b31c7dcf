import Derived.Test.YtckhafpejefbbaaGreatDoorB21

set_option maxRecDepth 100000
set_option maxHeartbeats 4000000
namespace Go.Proofs.YtckhafpejefbbaaGreatDoor
section
open Tw
open Go.RowKit Go.Shelf
section
attribute [local go_sem] zk5 zgi zk6 zp4 zgj zgk zgl
def Tw.T.bat:Tw.T->Nat
 |.fn _ _ _ k _=>k
 |.Am _ _ _ _ k _ _=>k
 |_=>0
theorem zk7{x:TN}{A:Addr}(h:x.bind=some A){w:World}{hi:Nat}(e:Rep w 0 hi x.t x.v):∃k o c t,A=(aD k o)/\zH w k c t/\Su.contains t=true/\c[o]?=some (ug x.t.bname)/\c[o+1]?=some (vI x.t.bat):=by
 obtain⟨t,v⟩:=x;cases t with
 |fn fr to bn bat b=>
  obtain⟨f,⟨k,_,_,rfl,a⟩,_⟩:=e;simp only[TN.bind,zsI]at h;subst h;exact⟨k,2,_,_,rfl,a,dZ,rfl,rfl⟩
 |Am fr to rc bn bat d b=>
  obtain⟨f,g,⟨k,_,_,rfl,a⟩,_⟩:=e;simp only[TN.bind,zsI]at h;subst h;exact⟨k,3,_,_,rfl,a,dZ,rfl,rfl⟩
 |_=>simp[TN.bind]at h
theorem zud(w:World)(o a:Obj):((w.alloc o).alloc a).heap[w.heap.size+1]?=some a/\((w.alloc o).alloc a).heap[w.heap.size]?=some o:=by
 have h:=Ac (w.alloc o) a;rw[World.size_alloc]at h;exact⟨h,(Below.heap_alloc _ _ _ sM).trans (Ac w o)⟩
end
end
end Go.Proofs.YtckhafpejefbbaaGreatDoor
