import Derived.Test.YtdohpenfkdckiaaGreatDoorJ14
import Derived.SevenTiedAt
namespace Go.Proofs.YtdohpenfkdckiaaGreatDoor.Gw
set_option linter.unusedSimpArgs false
set_option linter.unusedVariables false
set_option maxRecDepth 100000
set_option maxHeartbeats 20000000
open Go Go.ChangeShapes Go.WideShapes Go.RowKit Go.Deep
theorem tx_wt:Rows.txnsRow.wfByText (OpenSpec.ofChange Rows.txnsSpec)=true:=by kernel_rfl
theorem tx_main:Tryz.prog.mainIs=some (true,("1e848ab4c43448b03b361a7cb93ee5b0076e0cbf2284902afc8d3cea765f0133":String).toList):=by kernel_rfl
theorem tx_look:true=Tryz.prog.looks []:=by kernel_rfl
theorem tx_want:Tryz.prog.wantsStandIn 22=false:=by kernel_rfl
end Go.Proofs.YtdohpenfkdckiaaGreatDoor.Gw
