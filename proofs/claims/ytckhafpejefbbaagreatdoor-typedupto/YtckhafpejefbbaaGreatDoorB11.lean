import Derived.Test.YtckhafpejefbbaaGreatDoorB04
import Derived.RowKit
import Derived.Lib.ItoaNum

set_option maxRecDepth 100000
set_option maxHeartbeats 4000000
namespace Go.Proofs.YtckhafpejefbbaaGreatDoor.Tw
section
open Go Go.RowKit
def putS(b:Nat)(a s:List UInt8):List UInt8:=if b<a.length then a else a++s
def Xd(b:Nat)(a:List UInt8):List UInt8:=if b<a.length then[46,46,46]else a
end
end Go.Proofs.YtckhafpejefbbaaGreatDoor.Tw
