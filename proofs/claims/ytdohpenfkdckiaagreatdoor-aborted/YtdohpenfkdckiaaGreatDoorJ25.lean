import Derived.Test.YtdohpenfkdckiaaGreatDoorJ20
set_option linter.all false
set_option maxRecDepth 100000
set_option maxHeartbeats 20000000
namespace Go.Proofs.YtdohpenfkdckiaaGreatDoor
open Go.Proofs.Tryz
open Go Go.ChangeShapes Go.WideShapes Go.RowKit Go.Deep
theorem xJ8:Rows.abortedRow.wf (OpenSpec.ofChange Rows.abortedSpec)=true:=by kernel_rfl
theorem xG5:mapsRowed prog=true:=by kernel_rfl
theorem jI7:f13.params.all (prog.readableRec ·)=true:=by kernel_rfl
theorem jH1:namedTie prog Rows.abortedRow.named Rows.abortedSpec.vars=true:=by kernel_rfl
theorem jD7:(prog.stops == [])=true:=by kernel_rfl
theorem jK0:(prog.stopKnobs == [])=true:=by kernel_rfl
theorem jD0:(Rows.abortedRow.maps == (f13.params.toList++Rows.abortedSpec.plain.varTypes prog).any (prog.mapsRec ·))=true:=by kernel_rfl
theorem xY5:(Rows.abortedRow.ifaces == (f13.params.toList++Rows.abortedSpec.plain.varTypes prog).any (prog.ifacesRec ·))=true:=by kernel_rfl
theorem xJ9:(Rows.abortedRow.mapsOut == prog.mapsAmong f13.resultTypes.toList)=true:=by kernel_rfl
theorem jD1:(Rows.abortedRow.loops == (f13.params.toList++Rows.abortedSpec.plain.varTypes prog).any (prog.loopsFrom ·))=true:=by kernel_rfl
theorem xG7:(Rows.abortedRow.wideKeys == (f13.params.toList++Rows.abortedSpec.plain.varTypes prog++f13.resultTypes.toList).any (prog.wideKeysFrom ·))=true:=by kernel_rfl
theorem xX6:Rows.abortedSpec.vars.all (prog.varReadable ·)=true:=by kernel_rfl
theorem xV4:f13.resultTypes.all (fun t=>prog.readableRec t && decide (t<prog.types.size))=true:=by kernel_rfl
theorem xM3:(Rows.abortedRow.ifacesOut == f13.resultTypes.toList.any (prog.ifacesRec ·))=true:=by kernel_rfl
theorem xK9:(Rows.abortedRow.loopsOut == f13.resultTypes.toList.any (prog.loopsFrom ·))=true:=by kernel_rfl
theorem zW1:(Rows.abortedRow.plainKeys == prog.plainKeys)=true:=by kernel_rfl
theorem xA7:prog.stopsHeard=true:=by kernel_rfl
theorem zZ3:prog.mayEnter=true:=by kernel_rfl
theorem jJ9:(Rows.abortedRow.lifted == prog.liftsFinal)=true:=by kernel_rfl
theorem xG9:(prog.make == some Rows.abortedRow.make)=true:=by kernel_rfl
theorem zZ5:Rows.abortedRow.domain.isEmpty=true:=by kernel_rfl
theorem xT8:(Rows.abortedRow.kinds == [])=true:=by kernel_rfl
theorem xL4:(Rows.abortedRow.pinned == Rows.abortedRow.pinnedBy)=true:=by kernel_rfl
theorem zZ2:(Rows.abortedRow.veiled == (f13.params.toList++Rows.abortedSpec.plain.varTypes prog++f13.resultTypes.toList).any (prog.veiledRec ·))=true:=by kernel_rfl
theorem jB2:Rows.abortedRow.veiledFits prog f13.params.toList (f13.params.toList++Rows.abortedSpec.plain.varTypes prog++f13.resultTypes.toList)=true:=by kernel_rfl
theorem xX2:(Rows.abortedRow.stops == [])=true:=by kernel_rfl
theorem xF0:(Rows.abortedRow.knobs == [])=true:=by kernel_rfl
theorem xO7:Rows.abortedRow.shortTexts.isNone=true:=by kernel_rfl
theorem zQ4:prog.funcNamed "shadow/shadowkeep.Aborted"=some 13:=by kernel_rfl
end Go.Proofs.YtdohpenfkdckiaaGreatDoor
