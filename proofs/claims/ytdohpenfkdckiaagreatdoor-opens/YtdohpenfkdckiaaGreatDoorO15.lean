import Derived.Test.YtdohpenfkdckiaaGreatDoorO10
set_option linter.all false
set_option maxRecDepth 100000
set_option maxHeartbeats 20000000
namespace Go.Proofs.YtdohpenfkdckiaaGreatDoor
open Go.Proofs.Tryz
open Go Go.ChangeShapes Go.WideShapes Go.RowKit Go.Deep
theorem zM5:Rows.opensRow.wf (OpenSpec.ofChange Rows.opensSpec)=true:=by kernel_rfl
theorem zK6:mapsRowed prog=true:=by kernel_rfl
theorem zL0:f3.params.all (prog.readableRec ·)=true:=by kernel_rfl
theorem zL8:namedTie prog Rows.opensRow.named Rows.opensSpec.vars=true:=by kernel_rfl
theorem zL7:(prog.stops == [])=true:=by kernel_rfl
theorem zJ9:(prog.stopKnobs == [])=true:=by kernel_rfl
theorem zK4:(Rows.opensRow.maps == (f3.params.toList++Rows.opensSpec.plain.varTypes prog).any (prog.mapsRec ·))=true:=by kernel_rfl
theorem zJ4:(Rows.opensRow.ifaces == (f3.params.toList++Rows.opensSpec.plain.varTypes prog).any (prog.ifacesRec ·))=true:=by kernel_rfl
theorem zK9:(Rows.opensRow.mapsOut == prog.mapsAmong f3.resultTypes.toList)=true:=by kernel_rfl
theorem zK1:(Rows.opensRow.loops == (f3.params.toList++Rows.opensSpec.plain.varTypes prog).any (prog.loopsFrom ·))=true:=by kernel_rfl
theorem zM6:(Rows.opensRow.wideKeys == (f3.params.toList++Rows.opensSpec.plain.varTypes prog++f3.resultTypes.toList).any (prog.wideKeysFrom ·))=true:=by kernel_rfl
theorem zM3:Rows.opensSpec.vars.all (prog.varReadable ·)=true:=by kernel_rfl
theorem zL4:f3.resultTypes.all (fun t=>prog.readableRec t && decide (t<prog.types.size))=true:=by kernel_rfl
theorem zJ6:(Rows.opensRow.ifacesOut == f3.resultTypes.toList.any (prog.ifacesRec ·))=true:=by kernel_rfl
theorem zK2:(Rows.opensRow.loopsOut == f3.resultTypes.toList.any (prog.loopsFrom ·))=true:=by kernel_rfl
theorem zL2:(Rows.opensRow.plainKeys == prog.plainKeys)=true:=by kernel_rfl
theorem zL5:prog.stopsHeard=true:=by kernel_rfl
theorem zK7:prog.mayEnter=true:=by kernel_rfl
theorem zK0:(Rows.opensRow.lifted == prog.liftsFinal)=true:=by kernel_rfl
theorem zK8:(prog.make == some Rows.opensRow.make)=true:=by kernel_rfl
theorem zJ2:Rows.opensRow.domain.isEmpty=true:=by kernel_rfl
theorem zJ8:(Rows.opensRow.kinds == [])=true:=by kernel_rfl
theorem zL1:(Rows.opensRow.pinned == Rows.opensRow.pinnedBy)=true:=by kernel_rfl
theorem zM1:(Rows.opensRow.veiled == (f3.params.toList++Rows.opensSpec.plain.varTypes prog++f3.resultTypes.toList).any (prog.veiledRec ·))=true:=by kernel_rfl
theorem zM2:Rows.opensRow.veiledFits prog f3.params.toList (f3.params.toList++Rows.opensSpec.plain.varTypes prog++f3.resultTypes.toList)=true:=by kernel_rfl
theorem zJ1:(Rows.opensRow.stops == [])=true:=by kernel_rfl
theorem zJ0:(Rows.opensRow.knobs == [])=true:=by kernel_rfl
theorem zL6:Rows.opensRow.shortTexts.isNone=true:=by kernel_rfl
theorem qR7:prog.funcNamed "shadow/shadowlaw.Opens"=some 3:=by kernel_rfl
end Go.Proofs.YtdohpenfkdckiaaGreatDoor
