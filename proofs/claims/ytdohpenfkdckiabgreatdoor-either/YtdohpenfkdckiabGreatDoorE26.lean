import Derived.Test.YtdohpenfkdckiabGreatDoorE21
set_option linter.all false
set_option maxRecDepth 100000
set_option maxHeartbeats 20000000
namespace Go.Proofs.YtdohpenfkdckiabGreatDoor
open Go.Proofs.Tryz
open Go Go.ChangeShapes Go.WideShapes Go.RowKit Go.Deep
theorem jJ0:Rows.eitherRow.wf (OpenSpec.ofChange Rows.eitherSpec)=true:=by kernel_rfl
theorem jH1:mapsRowed prog=true:=by kernel_rfl
theorem jH5:f3.params.all (prog.readableRec ·)=true:=by kernel_rfl
theorem jI3:namedTie prog Rows.eitherRow.named Rows.eitherSpec.vars=true:=by kernel_rfl
theorem jI2:(prog.stops == [])=true:=by kernel_rfl
theorem jG4:(prog.stopKnobs == [])=true:=by kernel_rfl
theorem jG9:(Rows.eitherRow.maps == (f3.params.toList++Rows.eitherSpec.plain.varTypes prog).any (prog.mapsRec ·))=true:=by kernel_rfl
theorem jF9:(Rows.eitherRow.ifaces == (f3.params.toList++Rows.eitherSpec.plain.varTypes prog).any (prog.ifacesRec ·))=true:=by kernel_rfl
theorem jH4:(Rows.eitherRow.mapsOut == prog.mapsAmong f3.resultTypes.toList)=true:=by kernel_rfl
theorem jG6:(Rows.eitherRow.loops == (f3.params.toList++Rows.eitherSpec.plain.varTypes prog).any (prog.loopsFrom ·))=true:=by kernel_rfl
theorem jJ1:(Rows.eitherRow.wideKeys == (f3.params.toList++Rows.eitherSpec.plain.varTypes prog++f3.resultTypes.toList).any (prog.wideKeysFrom ·))=true:=by kernel_rfl
theorem jI8:Rows.eitherSpec.vars.all (prog.varReadable ·)=true:=by kernel_rfl
theorem jH9:f3.resultTypes.all (fun t=>prog.readableRec t && decide (t<prog.types.size))=true:=by kernel_rfl
theorem jG1:(Rows.eitherRow.ifacesOut == f3.resultTypes.toList.any (prog.ifacesRec ·))=true:=by kernel_rfl
theorem jG7:(Rows.eitherRow.loopsOut == f3.resultTypes.toList.any (prog.loopsFrom ·))=true:=by kernel_rfl
theorem jH7:(Rows.eitherRow.plainKeys == prog.plainKeys)=true:=by kernel_rfl
theorem jI0:prog.stopsHeard=true:=by kernel_rfl
theorem jH2:prog.mayEnter=true:=by kernel_rfl
theorem jG5:(Rows.eitherRow.lifted == prog.liftsFinal)=true:=by kernel_rfl
theorem jH3:(prog.make == some Rows.eitherRow.make)=true:=by kernel_rfl
theorem jF7:Rows.eitherRow.domain.isEmpty=true:=by kernel_rfl
theorem jG3:(Rows.eitherRow.kinds == [])=true:=by kernel_rfl
theorem jH6:(Rows.eitherRow.pinned == Rows.eitherRow.pinnedBy)=true:=by kernel_rfl
theorem jI6:(Rows.eitherRow.veiled == (f3.params.toList++Rows.eitherSpec.plain.varTypes prog++f3.resultTypes.toList).any (prog.veiledRec ·))=true:=by kernel_rfl
theorem jI7:Rows.eitherRow.veiledFits prog f3.params.toList (f3.params.toList++Rows.eitherSpec.plain.varTypes prog++f3.resultTypes.toList)=true:=by kernel_rfl
theorem jF6:(Rows.eitherRow.stops == [])=true:=by kernel_rfl
theorem jF5:(Rows.eitherRow.knobs == [])=true:=by kernel_rfl
theorem jI1:Rows.eitherRow.shortTexts.isNone=true:=by kernel_rfl
theorem xA7:prog.funcNamed "shadow/shadowkeep.Either"=some 3:=by kernel_rfl
end Go.Proofs.YtdohpenfkdckiabGreatDoor
