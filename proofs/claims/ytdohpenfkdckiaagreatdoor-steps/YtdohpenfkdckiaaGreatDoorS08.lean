import Derived.Test.YtdohpenfkdckiaaGreatDoorS03
set_option linter.all false
set_option maxRecDepth 100000
set_option maxHeartbeats 20000000
namespace Go.Proofs.YtdohpenfkdckiaaGreatDoor
open Go.Proofs.Tryz
open Go Go.ChangeShapes Go.WideShapes Go.RowKit Go.Deep
theorem zM2:Rows.stepsRow.wf (OpenSpec.ofChange Rows.stepsSpec)=true:=by kernel_rfl
theorem zK3:mapsRowed prog=true:=by kernel_rfl
theorem zK7:f11.params.all (prog.readableRec ·)=true:=by kernel_rfl
theorem zL5:namedTie prog Rows.stepsRow.named Rows.stepsSpec.vars=true:=by kernel_rfl
theorem zL4:(prog.stops == [])=true:=by kernel_rfl
theorem zJ6:(prog.stopKnobs == [])=true:=by kernel_rfl
theorem zK1:(Rows.stepsRow.maps == (f11.params.toList++Rows.stepsSpec.plain.varTypes prog).any (prog.mapsRec ·))=true:=by kernel_rfl
theorem zJ1:(Rows.stepsRow.ifaces == (f11.params.toList++Rows.stepsSpec.plain.varTypes prog).any (prog.ifacesRec ·))=true:=by kernel_rfl
theorem zK6:(Rows.stepsRow.mapsOut == prog.mapsAmong f11.resultTypes.toList)=true:=by kernel_rfl
theorem zJ8:(Rows.stepsRow.loops == (f11.params.toList++Rows.stepsSpec.plain.varTypes prog).any (prog.loopsFrom ·))=true:=by kernel_rfl
theorem zM3:(Rows.stepsRow.wideKeys == (f11.params.toList++Rows.stepsSpec.plain.varTypes prog++f11.resultTypes.toList).any (prog.wideKeysFrom ·))=true:=by kernel_rfl
theorem zM0:Rows.stepsSpec.vars.all (prog.varReadable ·)=true:=by kernel_rfl
theorem zL1:f11.resultTypes.all (fun t=>prog.readableRec t && decide (t<prog.types.size))=true:=by kernel_rfl
theorem zJ3:(Rows.stepsRow.ifacesOut == f11.resultTypes.toList.any (prog.ifacesRec ·))=true:=by kernel_rfl
theorem zJ9:(Rows.stepsRow.loopsOut == f11.resultTypes.toList.any (prog.loopsFrom ·))=true:=by kernel_rfl
theorem zK9:(Rows.stepsRow.plainKeys == prog.plainKeys)=true:=by kernel_rfl
theorem zL2:prog.stopsHeard=true:=by kernel_rfl
theorem zK4:prog.mayEnter=true:=by kernel_rfl
theorem zJ7:(Rows.stepsRow.lifted == prog.liftsFinal)=true:=by kernel_rfl
theorem zK5:(prog.make == some Rows.stepsRow.make)=true:=by kernel_rfl
theorem zI9:Rows.stepsRow.domain.isEmpty=true:=by kernel_rfl
theorem zJ5:(Rows.stepsRow.kinds == [])=true:=by kernel_rfl
theorem zK8:(Rows.stepsRow.pinned == Rows.stepsRow.pinnedBy)=true:=by kernel_rfl
theorem zL8:(Rows.stepsRow.veiled == (f11.params.toList++Rows.stepsSpec.plain.varTypes prog++f11.resultTypes.toList).any (prog.veiledRec ·))=true:=by kernel_rfl
theorem zL9:Rows.stepsRow.veiledFits prog f11.params.toList (f11.params.toList++Rows.stepsSpec.plain.varTypes prog++f11.resultTypes.toList)=true:=by kernel_rfl
theorem zI8:(Rows.stepsRow.stops == [])=true:=by kernel_rfl
theorem zI7:(Rows.stepsRow.knobs == [])=true:=by kernel_rfl
theorem zL3:Rows.stepsRow.shortTexts.isNone=true:=by kernel_rfl
theorem qW4:prog.funcNamed "shadow/shadowkeep.Steps"=some 11:=by kernel_rfl
end Go.Proofs.YtdohpenfkdckiaaGreatDoor
