import Derived.Test.YtdohpenfkdckiabGreatDoorE21
import Derived.SevenTiedAt
set_option linter.all false
set_option maxRecDepth 100000
set_option maxHeartbeats 20000000
namespace Go.Proofs.YtdohpenfkdckiabGreatDoor
open Go.Proofs.Tryz
open Go Go.ChangeShapes Go.WideShapes Go.RowKit Go.Deep
theorem jJ2:Rows.eitherRow.wfByText (OpenSpec.ofChange Rows.eitherSpec)=true:=by kernel_rfl
theorem jH0:prog.mainIs=some (true,("6e517f5928bf3c87a01427508babdcd35d5f63ba92bbd0c0c9238805cb3383da":String).toList):=by kernel_rfl
theorem jG8:true=prog.looks []:=by kernel_rfl
theorem zB7:prog.wantsStandIn 3=false:=by kernel_rfl
theorem jI9:prog.wantsStandIn 22=false:=by kernel_rfl
end Go.Proofs.YtdohpenfkdckiabGreatDoor
