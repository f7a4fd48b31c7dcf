import Derived.Test.YtckhafpejefbbaaGreatDoorB15

set_option maxRecDepth 100000
set_option maxHeartbeats 4000000
namespace Go.Proofs.YtckhafpejefbbaaGreatDoor
section
open Go Go.RowKit
section
variable {P:Program}{n:Nat}
def zlp(l:List Oper):Bool:=l.all λo=>match o.op with|.defer _=>false|_=>true
theorem zem{l:List Oper}(h:zlp l=true):∀(i:Nat) (o:Oper),l.toArray[i]?=some o->∀c,o.op ≠ .defer c:=by
 intro i o d c a;have b:o∈l:=by
  have:=Array.mem_of_getElem? d;simpa using this
 have:=List.all_eq_true.1 h o b;rw[a]at this;simp at this
theorem Cc(w:World)(k:Nat):w.grownBy (w.drewN k) none:=⟨rfl,rfl,rfl,znL _,λ_ _ _=>rfl⟩
end
end
end Go.Proofs.YtckhafpejefbbaaGreatDoor
