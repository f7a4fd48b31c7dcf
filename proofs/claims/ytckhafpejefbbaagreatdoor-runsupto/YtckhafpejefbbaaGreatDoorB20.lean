import Derived.Test.YtckhafpejefbbaaGreatDoorB19

set_option maxRecDepth 100000
set_option maxHeartbeats 4000000

