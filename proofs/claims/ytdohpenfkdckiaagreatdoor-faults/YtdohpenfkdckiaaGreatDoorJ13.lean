import Derived.Test.YtdohpenfkdckiaaGreatDoorJ12
set_option linter.all false
set_option maxRecDepth 100000
set_option maxHeartbeats 0
namespace Go.Proofs.YtdohpenfkdckiaaGreatDoor
open Go.Proofs.Tryz Go.RowKit
def Yo:DU 1 1:=Gh
def Yp:DU 2 2:=Gh
end Go.Proofs.YtdohpenfkdckiaaGreatDoor
