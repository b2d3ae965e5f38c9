import Derived.Test.YtdohpenfkdckiaaGreatDoorJ13
set_option linter.all false
set_option maxRecDepth 100000
set_option maxHeartbeats 0
namespace Go.Proofs.YtdohpenfkdckiaaGreatDoor
open Go.Proofs.Tryz Go.RowKit
def Yq:Fz 3 3:=IB
def Yr:Fz 4 4:=IB
