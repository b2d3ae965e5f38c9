import Derived.Test.YtdohpenfkdckiaaGreatDoorM14
set_option linter.all false
set_option maxRecDepth 100000
set_option maxHeartbeats 20000000
namespace Go.Proofs.YtdohpenfkdckiaaGreatDoor.Gw
open Go.Proofs.Tryz
open Go Go.ChangeShapes Go.WideShapes Go.RowKit Go.Deep
theorem xU4:(Rows.movesRow.inPlace == prog.inPlace 5)=true:=by kernel_rfl
end Go.Proofs.YtdohpenfkdckiaaGreatDoor.Gw
