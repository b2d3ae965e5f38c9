import Derived.Test.YtdohpenfkdckiabGreatDoorF22
set_option linter.all false
set_option maxRecDepth 100000
set_option maxHeartbeats 20000000
namespace Go.Proofs.YtdohpenfkdckiabGreatDoor
open Go.Proofs.Tryz
open Go Go.ChangeShapes Go.WideShapes Go.RowKit Go.Deep
theorem jK2:Rows.flippedRow.wf (OpenSpec.ofChange Rows.flippedSpec)=true:=by kernel_rfl
theorem jI3:mapsRowed prog=true:=by kernel_rfl
theorem jI7:f7.params.all (prog.readableRec ·)=true:=by kernel_rfl
theorem jJ5:namedTie prog Rows.flippedRow.named Rows.flippedSpec.vars=true:=by kernel_rfl
theorem jJ4:(prog.stops == [])=true:=by kernel_rfl
theorem jH6:(prog.stopKnobs == [])=true:=by kernel_rfl
theorem jI1:(Rows.flippedRow.maps == (f7.params.toList++Rows.flippedSpec.plain.varTypes prog).any (prog.mapsRec ·))=true:=by kernel_rfl
theorem jH1:(Rows.flippedRow.ifaces == (f7.params.toList++Rows.flippedSpec.plain.varTypes prog).any (prog.ifacesRec ·))=true:=by kernel_rfl
theorem jI6:(Rows.flippedRow.mapsOut == prog.mapsAmong f7.resultTypes.toList)=true:=by kernel_rfl
theorem jH8:(Rows.flippedRow.loops == (f7.params.toList++Rows.flippedSpec.plain.varTypes prog).any (prog.loopsFrom ·))=true:=by kernel_rfl
theorem jK3:(Rows.flippedRow.wideKeys == (f7.params.toList++Rows.flippedSpec.plain.varTypes prog++f7.resultTypes.toList).any (prog.wideKeysFrom ·))=true:=by kernel_rfl
theorem jK0:Rows.flippedSpec.vars.all (prog.varReadable ·)=true:=by kernel_rfl
theorem jJ1:f7.resultTypes.all (fun t=>prog.readableRec t && decide (t<prog.types.size))=true:=by kernel_rfl
theorem jH3:(Rows.flippedRow.ifacesOut == f7.resultTypes.toList.any (prog.ifacesRec ·))=true:=by kernel_rfl
theorem jH9:(Rows.flippedRow.loopsOut == f7.resultTypes.toList.any (prog.loopsFrom ·))=true:=by kernel_rfl
theorem jI9:(Rows.flippedRow.plainKeys == prog.plainKeys)=true:=by kernel_rfl
theorem jJ2:prog.stopsHeard=true:=by kernel_rfl
theorem jI4:prog.mayEnter=true:=by kernel_rfl
theorem jH7:(Rows.flippedRow.lifted == prog.liftsFinal)=true:=by kernel_rfl
theorem jI5:(prog.make == some Rows.flippedRow.make)=true:=by kernel_rfl
theorem jG9:Rows.flippedRow.domain.isEmpty=true:=by kernel_rfl
theorem jH5:(Rows.flippedRow.kinds == [])=true:=by kernel_rfl
theorem jI8:(Rows.flippedRow.pinned == Rows.flippedRow.pinnedBy)=true:=by kernel_rfl
theorem jJ8:(Rows.flippedRow.veiled == (f7.params.toList++Rows.flippedSpec.plain.varTypes prog++f7.resultTypes.toList).any (prog.veiledRec ·))=true:=by kernel_rfl
theorem jJ9:Rows.flippedRow.veiledFits prog f7.params.toList (f7.params.toList++Rows.flippedSpec.plain.varTypes prog++f7.resultTypes.toList)=true:=by kernel_rfl
theorem jG8:(Rows.flippedRow.stops == [])=true:=by kernel_rfl
theorem jG7:(Rows.flippedRow.knobs == [])=true:=by kernel_rfl
theorem jJ3:Rows.flippedRow.shortTexts.isNone=true:=by kernel_rfl
theorem zZ3:prog.funcNamed "shadow/shadowkeep.Flipped"=some 7:=by kernel_rfl
end Go.Proofs.YtdohpenfkdckiabGreatDoor
