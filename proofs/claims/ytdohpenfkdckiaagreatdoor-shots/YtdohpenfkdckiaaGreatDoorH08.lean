import Derived.Test.YtdohpenfkdckiaaGreatDoorH03
set_option linter.all false
set_option maxRecDepth 100000
set_option maxHeartbeats 20000000
namespace Go.Proofs.YtdohpenfkdckiaaGreatDoor
open Go.Proofs.Tryz
open Go Go.ChangeShapes Go.WideShapes Go.RowKit Go.Deep
theorem zM4:Rows.shotsRow.wf (OpenSpec.ofChange Rows.shotsSpec)=true:=by kernel_rfl
theorem zK5:mapsRowed prog=true:=by kernel_rfl
theorem zK9:f12.params.all (prog.readableRec ·)=true:=by kernel_rfl
theorem zL7:namedTie prog Rows.shotsRow.named Rows.shotsSpec.vars=true:=by kernel_rfl
theorem zL6:(prog.stops == [])=true:=by kernel_rfl
theorem zJ8:(prog.stopKnobs == [])=true:=by kernel_rfl
theorem zK3:(Rows.shotsRow.maps == (f12.params.toList++Rows.shotsSpec.plain.varTypes prog).any (prog.mapsRec ·))=true:=by kernel_rfl
theorem zJ3:(Rows.shotsRow.ifaces == (f12.params.toList++Rows.shotsSpec.plain.varTypes prog).any (prog.ifacesRec ·))=true:=by kernel_rfl
theorem zK8:(Rows.shotsRow.mapsOut == prog.mapsAmong f12.resultTypes.toList)=true:=by kernel_rfl
theorem zK0:(Rows.shotsRow.loops == (f12.params.toList++Rows.shotsSpec.plain.varTypes prog).any (prog.loopsFrom ·))=true:=by kernel_rfl
theorem zN2:(Rows.shotsRow.wideKeys == (f12.params.toList++Rows.shotsSpec.plain.varTypes prog++f12.resultTypes.toList).any (prog.wideKeysFrom ·))=true:=by kernel_rfl
theorem zM2:Rows.shotsSpec.vars.all (prog.varReadable ·)=true:=by kernel_rfl
theorem zL3:f12.resultTypes.all (fun t=>prog.readableRec t && decide (t<prog.types.size))=true:=by kernel_rfl
theorem zJ5:(Rows.shotsRow.ifacesOut == f12.resultTypes.toList.any (prog.ifacesRec ·))=true:=by kernel_rfl
theorem zK1:(Rows.shotsRow.loopsOut == f12.resultTypes.toList.any (prog.loopsFrom ·))=true:=by kernel_rfl
theorem zL1:(Rows.shotsRow.plainKeys == prog.plainKeys)=true:=by kernel_rfl
theorem zL4:prog.stopsHeard=true:=by kernel_rfl
theorem zK6:prog.mayEnter=true:=by kernel_rfl
theorem zJ9:(Rows.shotsRow.lifted == prog.liftsFinal)=true:=by kernel_rfl
theorem zK7:(prog.make == some Rows.shotsRow.make)=true:=by kernel_rfl
theorem zJ1:Rows.shotsRow.domain.isEmpty=true:=by kernel_rfl
theorem zJ7:(Rows.shotsRow.kinds == [])=true:=by kernel_rfl
theorem zL0:(Rows.shotsRow.pinned == Rows.shotsRow.pinnedBy)=true:=by kernel_rfl
theorem zM0:(Rows.shotsRow.veiled == (f12.params.toList++Rows.shotsSpec.plain.varTypes prog++f12.resultTypes.toList).any (prog.veiledRec ·))=true:=by kernel_rfl
theorem zM1:Rows.shotsRow.veiledFits prog f12.params.toList (f12.params.toList++Rows.shotsSpec.plain.varTypes prog++f12.resultTypes.toList)=true:=by kernel_rfl
theorem zJ0:(Rows.shotsRow.stops == [])=true:=by kernel_rfl
theorem zI9:(Rows.shotsRow.knobs == [])=true:=by kernel_rfl
theorem zL5:Rows.shotsRow.shortTexts.isNone=true:=by kernel_rfl
theorem qT3:prog.funcNamed "shadow/shadowkeep.Shots"=some 12:=by kernel_rfl
end Go.Proofs.YtdohpenfkdckiaaGreatDoor
