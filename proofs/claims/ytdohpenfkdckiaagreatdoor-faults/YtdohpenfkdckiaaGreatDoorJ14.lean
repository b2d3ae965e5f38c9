import Derived.Test.YtdohpenfkdckiaaGreatDoorJ12
set_option linter.all false
set_option maxRecDepth 100000
set_option maxHeartbeats 0
namespace Go.Proofs.YtdohpenfkdckiaaGreatDoor
open Go.Proofs.Tryz Go.RowKit
def Yq:DU 3 3:=Gh
def Yr:DU 4 4:=Gh
end Go.Proofs.YtdohpenfkdckiaaGreatDoor
