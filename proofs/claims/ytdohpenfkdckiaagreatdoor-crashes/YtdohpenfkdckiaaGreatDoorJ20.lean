import Derived.Test.YtdohpenfkdckiaaGreatDoorJ09
set_option linter.all false
set_option maxRecDepth 100000
set_option maxHeartbeats 0
namespace Go.Proofs.YtdohpenfkdckiaaGreatDoor
open Go.Proofs.Tryz Go.RowKit
namespace Gw
open Go Go.ChangeShapes Go.WideShapes Go.RowKit Go.Deep
def Ur:(Rows.crashesRow.named == prog.varsNamed 7)=true:=by kernel_rfl
end Gw
end Go.Proofs.YtdohpenfkdckiaaGreatDoor
