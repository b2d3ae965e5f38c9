import Derived.Test.YtdohpenfkdckiaaGreatDoorJ13
set_option linter.all false
set_option maxRecDepth 100000
set_option maxHeartbeats 0
namespace Go.Proofs.YtdohpenfkdckiaaGreatDoor
open Go.Proofs.Tryz Go.RowKit
def Yo:Fz 1 1:=IB
def Yp:Fz 2 2:=IB
