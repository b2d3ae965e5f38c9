import Derived.Test.YtdohpenfkdckiaaGreatDoorD20
set_option linter.all false
set_option maxRecDepth 100000
set_option maxHeartbeats 20000000
namespace Go.Proofs.YtdohpenfkdckiaaGreatDoor
open Go.Proofs.Tryz
open Go Go.ChangeShapes Go.WideShapes Go.RowKit Go.Deep
theorem xY8:(Rows.durableRow.inPlace == prog.inPlace 14)=true:=by kernel_rfl
end Go.Proofs.YtdohpenfkdckiaaGreatDoor
