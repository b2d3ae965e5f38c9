import Derived.Test.YtdohpenfkdckiaaGreatDoorJ09
import Derived.SevenTiedAt
set_option linter.all false
set_option maxRecDepth 100000
set_option maxHeartbeats 0
namespace Go.Proofs.YtdohpenfkdckiaaGreatDoor
open Go.Proofs.Tryz Go.RowKit
namespace Gw
open Go Go.ChangeShapes Go.WideShapes Go.RowKit Go.Deep
def UB:Rows.faultsRow.wfByText (OpenSpec.ofChange Rows.faultsSpec)=true:=by kernel_rfl
def TZ:prog.mainIs=some (true,("1e848ab4c43448b03b361a7cb93ee5b0076e0cbf2284902afc8d3cea765f0133":String).toList):=by kernel_rfl
def TX:true=prog.looks []:=by kernel_rfl
def Ux:prog.wantsStandIn 22=false:=by kernel_rfl
end Gw
end Go.Proofs.YtdohpenfkdckiaaGreatDoor
