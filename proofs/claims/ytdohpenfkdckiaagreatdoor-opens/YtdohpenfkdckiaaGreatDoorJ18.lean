import Derived.Test.YtdohpenfkdckiaaGreatDoorJ11
import Derived.SevenTiedAt
namespace Go.Proofs.YtdohpenfkdckiaaGreatDoor
set_option linter.unusedSimpArgs false
set_option linter.unusedVariables false
open Go Go.ChangeShapes Go.WideShapes Go.RowKit Go.Deep

theorem op_goes : false = Rows.opensRow.goesBy Tryz.prog := by kernel_rfl
end Go.Proofs.YtdohpenfkdckiaaGreatDoor

