import Derived.Test.YtdohpenfkdckiaaGreatDoorJ14
namespace Go.Proofs.YtdohpenfkdckiaaGreatDoor.Gw
set_option linter.unusedSimpArgs false
set_option linter.unusedVariables false
set_option maxRecDepth 100000
set_option maxHeartbeats 20000000
open Go Go.ChangeShapes Go.WideShapes Go.RowKit Go.Deep
theorem tx_rec:(Rows.txnsRow.recurses == Tryz.prog.recurses 4)=true:=by kernel_rfl
end Go.Proofs.YtdohpenfkdckiaaGreatDoor.Gw
