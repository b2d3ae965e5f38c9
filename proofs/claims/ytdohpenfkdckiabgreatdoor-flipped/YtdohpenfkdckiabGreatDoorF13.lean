import Derived.Test.YtdohpenfkdckiabGreatDoorF08
set_option linter.all false
set_option maxRecDepth 100000
set_option maxHeartbeats 20000000
namespace Go.Proofs.YtdohpenfkdckiabGreatDoor
open Go.Proofs.Tryz
open Go Go.ChangeShapes Go.WideShapes Go.RowKit Go.Deep
theorem xE3:Rows.flippedRow.wf (OpenSpec.ofChange Rows.flippedSpec)=true:=by kernel_rfl
theorem xC4:mapsRowed prog=true:=by kernel_rfl
theorem xC8:f7.params.all (prog.readableRec ·)=true:=by kernel_rfl
theorem xD6:namedTie prog Rows.flippedRow.named Rows.flippedSpec.vars=true:=by kernel_rfl
theorem xD5:(prog.stops == [])=true:=by kernel_rfl
theorem xB7:(prog.stopKnobs == [])=true:=by kernel_rfl
theorem xC2:(Rows.flippedRow.maps == (f7.params.toList++Rows.flippedSpec.plain.varTypes prog).any (prog.mapsRec ·))=true:=by kernel_rfl
theorem xB2:(Rows.flippedRow.ifaces == (f7.params.toList++Rows.flippedSpec.plain.varTypes prog).any (prog.ifacesRec ·))=true:=by kernel_rfl
theorem xC7:(Rows.flippedRow.mapsOut == prog.mapsAmong f7.resultTypes.toList)=true:=by kernel_rfl
theorem xB9:(Rows.flippedRow.loops == (f7.params.toList++Rows.flippedSpec.plain.varTypes prog).any (prog.loopsFrom ·))=true:=by kernel_rfl
theorem xE4:(Rows.flippedRow.wideKeys == (f7.params.toList++Rows.flippedSpec.plain.varTypes prog++f7.resultTypes.toList).any (prog.wideKeysFrom ·))=true:=by kernel_rfl
theorem xE1:Rows.flippedSpec.vars.all (prog.varReadable ·)=true:=by kernel_rfl
theorem xD2:f7.resultTypes.all (fun t=>prog.readableRec t && decide (t<prog.types.size))=true:=by kernel_rfl
theorem xB4:(Rows.flippedRow.ifacesOut == f7.resultTypes.toList.any (prog.ifacesRec ·))=true:=by kernel_rfl
theorem xC0:(Rows.flippedRow.loopsOut == f7.resultTypes.toList.any (prog.loopsFrom ·))=true:=by kernel_rfl
theorem xD0:(Rows.flippedRow.plainKeys == prog.plainKeys)=true:=by kernel_rfl
theorem xD3:prog.stopsHeard=true:=by kernel_rfl
theorem xC5:prog.mayEnter=true:=by kernel_rfl
theorem xB8:(Rows.flippedRow.lifted == prog.liftsFinal)=true:=by kernel_rfl
theorem xC6:(prog.make == some Rows.flippedRow.make)=true:=by kernel_rfl
theorem xB0:Rows.flippedRow.domain.isEmpty=true:=by kernel_rfl
theorem xB6:(Rows.flippedRow.kinds == [])=true:=by kernel_rfl
theorem xC9:(Rows.flippedRow.pinned == Rows.flippedRow.pinnedBy)=true:=by kernel_rfl
theorem xD9:(Rows.flippedRow.veiled == (f7.params.toList++Rows.flippedSpec.plain.varTypes prog++f7.resultTypes.toList).any (prog.veiledRec ·))=true:=by kernel_rfl
theorem xE0:Rows.flippedRow.veiledFits prog f7.params.toList (f7.params.toList++Rows.flippedSpec.plain.varTypes prog++f7.resultTypes.toList)=true:=by kernel_rfl
theorem xA9:(Rows.flippedRow.stops == [])=true:=by kernel_rfl
theorem xA8:(Rows.flippedRow.knobs == [])=true:=by kernel_rfl
theorem xD4:Rows.flippedRow.shortTexts.isNone=true:=by kernel_rfl
theorem zF5:prog.funcNamed "shadow/shadowkeep.Flipped"=some 7:=by kernel_rfl
end Go.Proofs.YtdohpenfkdckiabGreatDoor
