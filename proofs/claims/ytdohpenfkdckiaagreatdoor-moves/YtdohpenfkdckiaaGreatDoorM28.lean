import Derived.Test.YtdohpenfkdckiaaGreatDoorM14
import Derived.SevenTiedAt
set_option linter.all false
set_option maxRecDepth 100000
set_option maxHeartbeats 20000000
namespace Go.Proofs.YtdohpenfkdckiaaGreatDoor.Gw
open Go.Proofs.Tryz
open Go Go.ChangeShapes Go.WideShapes Go.RowKit Go.Deep
theorem xX8:Rows.movesRow.wfByText (OpenSpec.ofChange Rows.movesSpec)=true:=by kernel_rfl
theorem xV4:prog.mainIs=some (true,("1e848ab4c43448b03b361a7cb93ee5b0076e0cbf2284902afc8d3cea765f0133":String).toList):=by kernel_rfl
theorem xV2:true=prog.looks []:=by kernel_rfl
theorem xX5:prog.wantsStandIn 22=false:=by kernel_rfl
end Go.Proofs.YtdohpenfkdckiaaGreatDoor.Gw
