import Derived.Test.YtdohpenfkdckiabGreatDoorP23
import Derived.SevenTiedAt
set_option linter.all false
set_option maxRecDepth 100000
set_option maxHeartbeats 20000000
namespace Go.Proofs.YtdohpenfkdckiabGreatDoor
open Go.Proofs.Tryz
open Go Go.ChangeShapes Go.WideShapes Go.RowKit Go.Deep
theorem jN8:Rows.poisonedRow.wfByText (OpenSpec.ofChange Rows.poisonedSpec)=true:=by kernel_rfl
theorem jL6:prog.mainIs=some (true,("6e517f5928bf3c87a01427508babdcd35d5f63ba92bbd0c0c9238805cb3383da":String).toList):=by kernel_rfl
theorem jL4:true=prog.looks []:=by kernel_rfl
theorem zC1:prog.wantsStandIn 3=false:=by kernel_rfl
theorem jN5:prog.wantsStandIn 22=false:=by kernel_rfl
end Go.Proofs.YtdohpenfkdckiabGreatDoor
