import Derived.Test.YtdohpenfkdckiaaGreatDoorJ09
import Derived.SevenTiedAt
set_option linter.all false
set_option maxRecDepth 100000
set_option maxHeartbeats 0
namespace Go.Proofs.YtdohpenfkdckiaaGreatDoor
open Go.Proofs.Tryz Go.RowKit
namespace Gw
open Go Go.ChangeShapes Go.WideShapes Go.RowKit Go.Deep
def TJ:false=Rows.faultsRow.goesBy prog:=by kernel_rfl
end Gw
end Go.Proofs.YtdohpenfkdckiaaGreatDoor
