import Derived.Test.YtdohpenfkdckiaaGreatDoorA01
set_option linter.all false
set_option maxRecDepth 100000
set_option maxHeartbeats 20000000
namespace Go.Proofs.YtdohpenfkdckiaaGreatDoor
open Go.Proofs.Tryz
open Go Go.ChangeShapes Go.WideShapes Go.RowKit Go.Deep
theorem zK9:Rows.abortedRow.wf (OpenSpec.ofChange Rows.abortedSpec)=true:=by kernel_rfl
theorem zJ0:mapsRowed prog=true:=by kernel_rfl
theorem zJ4:f13.params.all (prog.readableRec ·)=true:=by kernel_rfl
theorem zK2:namedTie prog Rows.abortedRow.named Rows.abortedSpec.vars=true:=by kernel_rfl
theorem zK1:(prog.stops == [])=true:=by kernel_rfl
theorem zF6:(prog.stopKnobs == [])=true:=by kernel_rfl
theorem zI8:(Rows.abortedRow.maps == (f13.params.toList++Rows.abortedSpec.plain.varTypes prog).any (prog.mapsRec ·))=true:=by kernel_rfl
theorem zB0:(Rows.abortedRow.ifaces == (f13.params.toList++Rows.abortedSpec.plain.varTypes prog).any (prog.ifacesRec ·))=true:=by kernel_rfl
theorem zJ3:(Rows.abortedRow.mapsOut == prog.mapsAmong f13.resultTypes.toList)=true:=by kernel_rfl
theorem zG3:(Rows.abortedRow.loops == (f13.params.toList++Rows.abortedSpec.plain.varTypes prog).any (prog.loopsFrom ·))=true:=by kernel_rfl
theorem zL0:(Rows.abortedRow.wideKeys == (f13.params.toList++Rows.abortedSpec.plain.varTypes prog++f13.resultTypes.toList).any (prog.wideKeysFrom ·))=true:=by kernel_rfl
theorem zK7:Rows.abortedSpec.vars.all (prog.varReadable ·)=true:=by kernel_rfl
theorem zJ8:f13.resultTypes.all (fun t=>prog.readableRec t && decide (t<prog.types.size))=true:=by kernel_rfl
theorem zC7:(Rows.abortedRow.ifacesOut == f13.resultTypes.toList.any (prog.ifacesRec ·))=true:=by kernel_rfl
theorem zI3:(Rows.abortedRow.loopsOut == f13.resultTypes.toList.any (prog.loopsFrom ·))=true:=by kernel_rfl
theorem zJ6:(Rows.abortedRow.plainKeys == prog.plainKeys)=true:=by kernel_rfl
theorem zJ9:prog.stopsHeard=true:=by kernel_rfl
theorem zJ1:prog.mayEnter=true:=by kernel_rfl
theorem zF9:(Rows.abortedRow.lifted == prog.liftsFinal)=true:=by kernel_rfl
theorem zJ2:(prog.make == some Rows.abortedRow.make)=true:=by kernel_rfl
theorem qW8:Rows.abortedRow.domain.isEmpty=true:=by kernel_rfl
theorem zF3:(Rows.abortedRow.kinds == [])=true:=by kernel_rfl
theorem zJ5:(Rows.abortedRow.pinned == Rows.abortedRow.pinnedBy)=true:=by kernel_rfl
theorem zK5:(Rows.abortedRow.veiled == (f13.params.toList++Rows.abortedSpec.plain.varTypes prog++f13.resultTypes.toList).any (prog.veiledRec ·))=true:=by kernel_rfl
theorem zK6:Rows.abortedRow.veiledFits prog f13.params.toList (f13.params.toList++Rows.abortedSpec.plain.varTypes prog++f13.resultTypes.toList)=true:=by kernel_rfl
theorem qW4:(Rows.abortedRow.stops == [])=true:=by kernel_rfl
theorem qV8:(Rows.abortedRow.knobs == [])=true:=by kernel_rfl
theorem zK0:Rows.abortedRow.shortTexts.isNone=true:=by kernel_rfl
theorem qB6:prog.funcNamed "shadow/shadowkeep.Aborted"=some 13:=by kernel_rfl
end Go.Proofs.YtdohpenfkdckiaaGreatDoor
