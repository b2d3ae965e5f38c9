import Derived.Test.YtdohpenfkdckiaaGreatDoorD20
set_option linter.all false
set_option maxRecDepth 100000
set_option maxHeartbeats 20000000
namespace Go.Proofs.YtdohpenfkdckiaaGreatDoor
open Go.Proofs.Tryz
open Go Go.ChangeShapes Go.WideShapes Go.RowKit Go.Deep
theorem jB8:Rows.durableRow.wf (OpenSpec.ofChange Rows.durableSpec)=true:=by kernel_rfl
theorem xZ9:mapsRowed prog=true:=by kernel_rfl
theorem jA3:f14.params.all (prog.readableRec ·)=true:=by kernel_rfl
theorem jB1:namedTie prog Rows.durableRow.named Rows.durableSpec.vars=true:=by kernel_rfl
theorem jB0:(prog.stops == [])=true:=by kernel_rfl
theorem xZ2:(prog.stopKnobs == [])=true:=by kernel_rfl
theorem xZ7:(Rows.durableRow.maps == (f14.params.toList++Rows.durableSpec.plain.varTypes prog).any (prog.mapsRec ·))=true:=by kernel_rfl
theorem xY7:(Rows.durableRow.ifaces == (f14.params.toList++Rows.durableSpec.plain.varTypes prog).any (prog.ifacesRec ·))=true:=by kernel_rfl
theorem jA2:(Rows.durableRow.mapsOut == prog.mapsAmong f14.resultTypes.toList)=true:=by kernel_rfl
theorem xZ4:(Rows.durableRow.loops == (f14.params.toList++Rows.durableSpec.plain.varTypes prog).any (prog.loopsFrom ·))=true:=by kernel_rfl
theorem jB9:(Rows.durableRow.wideKeys == (f14.params.toList++Rows.durableSpec.plain.varTypes prog++f14.resultTypes.toList).any (prog.wideKeysFrom ·))=true:=by kernel_rfl
theorem jB6:Rows.durableSpec.vars.all (prog.varReadable ·)=true:=by kernel_rfl
theorem jA7:f14.resultTypes.all (fun t=>prog.readableRec t && decide (t<prog.types.size))=true:=by kernel_rfl
theorem xY9:(Rows.durableRow.ifacesOut == f14.resultTypes.toList.any (prog.ifacesRec ·))=true:=by kernel_rfl
theorem xZ5:(Rows.durableRow.loopsOut == f14.resultTypes.toList.any (prog.loopsFrom ·))=true:=by kernel_rfl
theorem jA5:(Rows.durableRow.plainKeys == prog.plainKeys)=true:=by kernel_rfl
theorem jA8:prog.stopsHeard=true:=by kernel_rfl
theorem jA0:prog.mayEnter=true:=by kernel_rfl
theorem xZ3:(Rows.durableRow.lifted == prog.liftsFinal)=true:=by kernel_rfl
theorem jA1:(prog.make == some Rows.durableRow.make)=true:=by kernel_rfl
theorem xY5:Rows.durableRow.domain.isEmpty=true:=by kernel_rfl
theorem xZ1:(Rows.durableRow.kinds == [])=true:=by kernel_rfl
theorem jA4:(Rows.durableRow.pinned == Rows.durableRow.pinnedBy)=true:=by kernel_rfl
theorem jB4:(Rows.durableRow.veiled == (f14.params.toList++Rows.durableSpec.plain.varTypes prog++f14.resultTypes.toList).any (prog.veiledRec ·))=true:=by kernel_rfl
theorem jB5:Rows.durableRow.veiledFits prog f14.params.toList (f14.params.toList++Rows.durableSpec.plain.varTypes prog++f14.resultTypes.toList)=true:=by kernel_rfl
theorem xY4:(Rows.durableRow.stops == [])=true:=by kernel_rfl
theorem xY3:(Rows.durableRow.knobs == [])=true:=by kernel_rfl
theorem jA9:Rows.durableRow.shortTexts.isNone=true:=by kernel_rfl
theorem zV1:prog.funcNamed "shadow/shadowkeep.Durable"=some 14:=by kernel_rfl
end Go.Proofs.YtdohpenfkdckiaaGreatDoor
