import Derived.Lib.Builder
import Derived.Lib.UnsafeStr
import Derived.Lib.OthersKept
import Derived.Laws.Externs
import Derived.OwnWalk
import Derived.Test.YtckhafpejefbbaaGreatDoorB19

set_option maxRecDepth 100000
set_option maxHeartbeats 4000000
