import Derived.Test.YtdohpenfkdckiaaGreatDoorT14
import Derived.SevenTiedAt
set_option linter.all false
set_option maxRecDepth 100000
set_option maxHeartbeats 20000000
namespace Go.Proofs.YtdohpenfkdckiaaGreatDoor.Gw
open Go.Proofs.Tryz
open Go Go.ChangeShapes Go.WideShapes Go.RowKit Go.Deep
theorem xY6:Rows.txnsRow.wfByText (OpenSpec.ofChange Rows.txnsSpec)=true:=by kernel_rfl
theorem xW2:prog.mainIs=some (true,("1e848ab4c43448b03b361a7cb93ee5b0076e0cbf2284902afc8d3cea765f0133":String).toList):=by kernel_rfl
theorem xW0:true=prog.looks []:=by kernel_rfl
theorem xY3:prog.wantsStandIn 22=false:=by kernel_rfl
end Go.Proofs.YtdohpenfkdckiaaGreatDoor.Gw
