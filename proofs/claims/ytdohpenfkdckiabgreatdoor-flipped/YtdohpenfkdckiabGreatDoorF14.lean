import Derived.Test.YtdohpenfkdckiabGreatDoorF08
import Derived.SevenTiedAt
set_option linter.all false
set_option maxRecDepth 100000
set_option maxHeartbeats 20000000
namespace Go.Proofs.YtdohpenfkdckiabGreatDoor
open Go.Proofs.Tryz
open Go Go.ChangeShapes Go.WideShapes Go.RowKit Go.Deep
theorem xE5:Rows.flippedRow.wfByText (OpenSpec.ofChange Rows.flippedSpec)=true:=by kernel_rfl
theorem xC3:prog.mainIs=some (true,("6e517f5928bf3c87a01427508babdcd35d5f63ba92bbd0c0c9238805cb3383da":String).toList):=by kernel_rfl
theorem xC1:true=prog.looks []:=by kernel_rfl
theorem xE2:prog.wantsStandIn 3=false:=by kernel_rfl
end Go.Proofs.YtdohpenfkdckiabGreatDoor
