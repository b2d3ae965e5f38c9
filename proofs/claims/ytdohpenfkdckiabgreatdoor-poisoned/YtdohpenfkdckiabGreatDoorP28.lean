import Derived.Test.YtdohpenfkdckiabGreatDoorP23
set_option linter.all false
set_option maxRecDepth 100000
set_option maxHeartbeats 20000000
namespace Go.Proofs.YtdohpenfkdckiabGreatDoor
open Go.Proofs.Tryz
open Go Go.ChangeShapes Go.WideShapes Go.RowKit Go.Deep
theorem jN6:Rows.poisonedRow.wf (OpenSpec.ofChange Rows.poisonedSpec)=true:=by kernel_rfl
theorem jL7:mapsRowed prog=true:=by kernel_rfl
theorem jM1:f4.params.all (prog.readableRec ·)=true:=by kernel_rfl
theorem jM9:namedTie prog Rows.poisonedRow.named Rows.poisonedSpec.vars=true:=by kernel_rfl
theorem jM8:(prog.stops == [])=true:=by kernel_rfl
theorem jL0:(prog.stopKnobs == [])=true:=by kernel_rfl
theorem jL5:(Rows.poisonedRow.maps == (f4.params.toList++Rows.poisonedSpec.plain.varTypes prog).any (prog.mapsRec ·))=true:=by kernel_rfl
theorem jK5:(Rows.poisonedRow.ifaces == (f4.params.toList++Rows.poisonedSpec.plain.varTypes prog).any (prog.ifacesRec ·))=true:=by kernel_rfl
theorem jM0:(Rows.poisonedRow.mapsOut == prog.mapsAmong f4.resultTypes.toList)=true:=by kernel_rfl
theorem jL2:(Rows.poisonedRow.loops == (f4.params.toList++Rows.poisonedSpec.plain.varTypes prog).any (prog.loopsFrom ·))=true:=by kernel_rfl
theorem jN7:(Rows.poisonedRow.wideKeys == (f4.params.toList++Rows.poisonedSpec.plain.varTypes prog++f4.resultTypes.toList).any (prog.wideKeysFrom ·))=true:=by kernel_rfl
theorem jN4:Rows.poisonedSpec.vars.all (prog.varReadable ·)=true:=by kernel_rfl
theorem jM5:f4.resultTypes.all (fun t=>prog.readableRec t && decide (t<prog.types.size))=true:=by kernel_rfl
theorem jK7:(Rows.poisonedRow.ifacesOut == f4.resultTypes.toList.any (prog.ifacesRec ·))=true:=by kernel_rfl
theorem jL3:(Rows.poisonedRow.loopsOut == f4.resultTypes.toList.any (prog.loopsFrom ·))=true:=by kernel_rfl
theorem jM3:(Rows.poisonedRow.plainKeys == prog.plainKeys)=true:=by kernel_rfl
theorem jM6:prog.stopsHeard=true:=by kernel_rfl
theorem jL8:prog.mayEnter=true:=by kernel_rfl
theorem jL1:(Rows.poisonedRow.lifted == prog.liftsFinal)=true:=by kernel_rfl
theorem jL9:(prog.make == some Rows.poisonedRow.make)=true:=by kernel_rfl
theorem jK3:Rows.poisonedRow.domain.isEmpty=true:=by kernel_rfl
theorem jK9:(Rows.poisonedRow.kinds == [])=true:=by kernel_rfl
theorem jM2:(Rows.poisonedRow.pinned == Rows.poisonedRow.pinnedBy)=true:=by kernel_rfl
theorem jN2:(Rows.poisonedRow.veiled == (f4.params.toList++Rows.poisonedSpec.plain.varTypes prog++f4.resultTypes.toList).any (prog.veiledRec ·))=true:=by kernel_rfl
theorem jN3:Rows.poisonedRow.veiledFits prog f4.params.toList (f4.params.toList++Rows.poisonedSpec.plain.varTypes prog++f4.resultTypes.toList)=true:=by kernel_rfl
theorem jK2:(Rows.poisonedRow.stops == [])=true:=by kernel_rfl
theorem jK1:(Rows.poisonedRow.knobs == [])=true:=by kernel_rfl
theorem jM7:Rows.poisonedRow.shortTexts.isNone=true:=by kernel_rfl
theorem xD3:prog.funcNamed "shadow/shadowkeep.Poisoned"=some 4:=by kernel_rfl
end Go.Proofs.YtdohpenfkdckiabGreatDoor
