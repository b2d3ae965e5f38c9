import Derived.Test.YtdohpenfkdckiaaGreatDoorJ30
set_option linter.all false
set_option maxRecDepth 100000
set_option maxHeartbeats 20000000
namespace Go.Proofs.YtdohpenfkdckiaaGreatDoor
open Go.Proofs.Tryz
open Go.RowKit
theorem kA7:qR3 1 1:=zA3
theorem kA8:qR3 2 2:=zA3
end Go.Proofs.YtdohpenfkdckiaaGreatDoor
