import Derived.Test.YtdohpenfkdckiaaGreatDoorJ24
import Derived.SevenTiedAt
set_option linter.all false
set_option maxRecDepth 100000
set_option maxHeartbeats 20000000
namespace Go.Proofs.YtdohpenfkdckiaaGreatDoor.Gw
open Go.Proofs.Tryz
open Go Go.ChangeShapes Go.WideShapes Go.RowKit Go.Deep
theorem kJ3:Rows.spoilsRow.wfByText (OpenSpec.ofChange Rows.spoilsSpec)=true:=kR
theorem kH1:prog.mainIs=some (true,("1e848ab4c43448b03b361a7cb93ee5b0076e0cbf2284902afc8d3cea765f0133":String).toList):=kR
theorem kG9:true=prog.looks []:=kR
theorem kJ0:prog.wantsStandIn 22=false:=kR
end Go.Proofs.YtdohpenfkdckiaaGreatDoor.Gw
