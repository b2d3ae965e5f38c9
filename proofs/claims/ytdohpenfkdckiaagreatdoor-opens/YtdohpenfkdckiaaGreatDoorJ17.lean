import Derived.Test.YtdohpenfkdckiaaGreatDoorJ11
import Derived.SevenTiedAt
namespace Go.Proofs.YtdohpenfkdckiaaGreatDoor
set_option linter.unusedSimpArgs false
set_option linter.unusedVariables false
open Go Go.ChangeShapes Go.WideShapes Go.RowKit Go.Deep

theorem op_wt : Rows.opensRow.wfByText (OpenSpec.ofChange Rows.opensSpec) = true := by kernel_rfl
theorem op_main : Tryz.prog.mainIs = some (true, ("1e848ab4c43448b03b361a7cb93ee5b0076e0cbf2284902afc8d3cea765f0133" : String).toList) := by kernel_rfl
theorem op_look : true = Tryz.prog.looks [] := by kernel_rfl
theorem op_want : Tryz.prog.wantsStandIn 22 = false := by kernel_rfl
end Go.Proofs.YtdohpenfkdckiaaGreatDoor

