import Derived.Test.YtdohpenfkdckiaaGreatDoorJ11
namespace Go.Proofs.YtdohpenfkdckiaaGreatDoor
set_option linter.unusedSimpArgs false
set_option linter.unusedVariables false
open Go Go.ChangeShapes Go.WideShapes Go.RowKit Go.Deep

theorem op_rec : (Rows.opensRow.recurses == Tryz.prog.recurses 3) = true := by kernel_rfl
end Go.Proofs.YtdohpenfkdckiaaGreatDoor

