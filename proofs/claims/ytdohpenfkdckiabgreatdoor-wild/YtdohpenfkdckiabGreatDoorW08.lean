import Derived.Test.YtdohpenfkdckiabGreatDoorW03
set_option linter.all false
set_option maxRecDepth 100000
set_option maxHeartbeats 20000000
namespace Go.Proofs.YtdohpenfkdckiabGreatDoor
open Go.Proofs.Tryz
open Go Go.ChangeShapes Go.WideShapes Go.RowKit Go.Deep
theorem qZ9:Rows.wildRow.wf (OpenSpec.ofChange Rows.wildSpec)=true:=by kernel_rfl
theorem qQ8:mapsRowed prog=true:=by kernel_rfl
theorem qT9:f8.params.all (prog.readableRec ·)=true:=by kernel_rfl
theorem qW4:namedTie prog Rows.wildRow.named Rows.wildSpec.vars=true:=by kernel_rfl
theorem qW3:(prog.stops == [])=true:=by kernel_rfl
theorem qO5:(prog.stopKnobs == [])=true:=by kernel_rfl
theorem qQ0:(Rows.wildRow.maps == (f8.params.toList++Rows.wildSpec.plain.varTypes prog).any (prog.mapsRec ·))=true:=by kernel_rfl
theorem qM8:(Rows.wildRow.ifaces == (f8.params.toList++Rows.wildSpec.plain.varTypes prog).any (prog.ifacesRec ·))=true:=by kernel_rfl
theorem qS8:(Rows.wildRow.mapsOut == prog.mapsAmong f8.resultTypes.toList)=true:=by kernel_rfl
theorem qP4:(Rows.wildRow.loops == (f8.params.toList++Rows.wildSpec.plain.varTypes prog).any (prog.loopsFrom ·))=true:=by kernel_rfl
theorem zA0:(Rows.wildRow.wideKeys == (f8.params.toList++Rows.wildSpec.plain.varTypes prog++f8.resultTypes.toList).any (prog.wideKeysFrom ·))=true:=by kernel_rfl
theorem qX9:Rows.wildSpec.vars.all (prog.varReadable ·)=true:=by kernel_rfl
theorem qU9:f8.resultTypes.all (fun t=>prog.readableRec t && decide (t<prog.types.size))=true:=by kernel_rfl
theorem qN3:(Rows.wildRow.ifacesOut == f8.resultTypes.toList.any (prog.ifacesRec ·))=true:=by kernel_rfl
theorem qP6:(Rows.wildRow.loopsOut == f8.resultTypes.toList.any (prog.loopsFrom ·))=true:=by kernel_rfl
theorem qU3:(Rows.wildRow.plainKeys == prog.plainKeys)=true:=by kernel_rfl
theorem qV3:prog.stopsHeard=true:=by kernel_rfl
theorem qQ9:prog.mayEnter=true:=by kernel_rfl
theorem qP3:(Rows.wildRow.lifted == prog.liftsFinal)=true:=by kernel_rfl
theorem qS5:(prog.make == some Rows.wildRow.make)=true:=by kernel_rfl
theorem qL7:Rows.wildRow.domain.isEmpty=true:=by kernel_rfl
theorem qO4:(Rows.wildRow.kinds == [])=true:=by kernel_rfl
theorem qU2:(Rows.wildRow.pinned == Rows.wildRow.pinnedBy)=true:=by kernel_rfl
theorem qW8:(Rows.wildRow.veiled == (f8.params.toList++Rows.wildSpec.plain.varTypes prog++f8.resultTypes.toList).any (prog.veiledRec ·))=true:=by kernel_rfl
theorem qX5:Rows.wildRow.veiledFits prog f8.params.toList (f8.params.toList++Rows.wildSpec.plain.varTypes prog++f8.resultTypes.toList)=true:=by kernel_rfl
theorem qL3:(Rows.wildRow.stops == [])=true:=by kernel_rfl
theorem qL2:(Rows.wildRow.knobs == [])=true:=by kernel_rfl
theorem qV5:Rows.wildRow.shortTexts.isNone=true:=by kernel_rfl
theorem qC7:prog.funcNamed "shadow/shadowkeep.Wild"=some 8:=by kernel_rfl
end Go.Proofs.YtdohpenfkdckiabGreatDoor
