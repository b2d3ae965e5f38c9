import Derived.Test.YtdohpenfkdckiaaGreatDoorJ30
set_option linter.all false
set_option maxRecDepth 100000
set_option maxHeartbeats 20000000
namespace Go.Proofs.YtdohpenfkdckiaaGreatDoor
open Go.Proofs.Tryz
open Go.RowKit
theorem kA9:qR3 3 3:=zA3
theorem kB0:qR3 4 4:=zA3
end Go.Proofs.YtdohpenfkdckiaaGreatDoor
