import Derived.Test.YtdohpenfkdckiabGreatDoorF08
import Derived.SevenTiedAt
set_option linter.all false
set_option maxRecDepth 100000
set_option maxHeartbeats 20000000
namespace Go.Proofs.YtdohpenfkdckiabGreatDoor
open Go.Proofs.Tryz
open Go Go.ChangeShapes Go.WideShapes Go.RowKit Go.Deep
theorem xB1:false=Rows.flippedRow.goesBy prog:=by kernel_rfl
end Go.Proofs.YtdohpenfkdckiabGreatDoor
