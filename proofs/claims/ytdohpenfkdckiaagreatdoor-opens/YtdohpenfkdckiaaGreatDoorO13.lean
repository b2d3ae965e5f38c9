import Derived.Test.YtdohpenfkdckiaaGreatDoorO10
set_option linter.all false
set_option maxRecDepth 100000
set_option maxHeartbeats 20000000
namespace Go.Proofs.YtdohpenfkdckiaaGreatDoor
open Go.Proofs.Tryz
open Go Go.ChangeShapes Go.WideShapes Go.RowKit Go.Deep
theorem zL3:(Rows.opensRow.recurses == prog.recurses 3)=true:=by kernel_rfl
end Go.Proofs.YtdohpenfkdckiaaGreatDoor
