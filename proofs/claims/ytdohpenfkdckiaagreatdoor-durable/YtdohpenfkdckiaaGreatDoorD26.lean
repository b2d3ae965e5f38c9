import Derived.Test.YtdohpenfkdckiaaGreatDoorD20
import Derived.SevenTiedAt
set_option linter.all false
set_option maxRecDepth 100000
set_option maxHeartbeats 20000000
namespace Go.Proofs.YtdohpenfkdckiaaGreatDoor
open Go.Proofs.Tryz
open Go Go.ChangeShapes Go.WideShapes Go.RowKit Go.Deep
theorem jC0:Rows.durableRow.wfByText (OpenSpec.ofChange Rows.durableSpec)=true:=by kernel_rfl
theorem xZ8:prog.mainIs=some (true,("1e848ab4c43448b03b361a7cb93ee5b0076e0cbf2284902afc8d3cea765f0133":String).toList):=by kernel_rfl
theorem xZ6:true=prog.looks []:=by kernel_rfl
theorem zV2:prog.wantsStandIn 3=false:=by kernel_rfl
theorem jB7:prog.wantsStandIn 24=false:=by kernel_rfl
end Go.Proofs.YtdohpenfkdckiaaGreatDoor
