import Derived.Test.YtdohpenfkdckiaaGreatDoorJ21
set_option linter.all false
set_option maxRecDepth 100000
set_option maxHeartbeats 20000000
namespace Go.Proofs.YtdohpenfkdckiaaGreatDoor
open Go.Proofs.Tryz
open Go Go.ChangeShapes Go.WideShapes Go.RowKit Go.Deep
theorem xJ5:Rows.shotsRow.wf (OpenSpec.ofChange Rows.shotsSpec)=true:=by kernel_rfl
theorem xB4:mapsRowed prog=true:=by kernel_rfl
theorem xU5:f12.params.all (prog.readableRec ·)=true:=by kernel_rfl
theorem jH4:namedTie prog Rows.shotsRow.named Rows.shotsSpec.vars=true:=by kernel_rfl
theorem xS4:(prog.stops == [])=true:=by kernel_rfl
theorem xP4:(prog.stopKnobs == [])=true:=by kernel_rfl
theorem xD1:(Rows.shotsRow.maps == (f12.params.toList++Rows.shotsSpec.plain.varTypes prog).any (prog.mapsRec ·))=true:=by kernel_rfl
theorem xV6:(Rows.shotsRow.ifaces == (f12.params.toList++Rows.shotsSpec.plain.varTypes prog).any (prog.ifacesRec ·))=true:=by kernel_rfl
theorem xX0:(Rows.shotsRow.mapsOut == prog.mapsAmong f12.resultTypes.toList)=true:=by kernel_rfl
theorem jE9:(Rows.shotsRow.loops == (f12.params.toList++Rows.shotsSpec.plain.varTypes prog).any (prog.loopsFrom ·))=true:=by kernel_rfl
theorem xO1:(Rows.shotsRow.wideKeys == (f12.params.toList++Rows.shotsSpec.plain.varTypes prog++f12.resultTypes.toList).any (prog.wideKeysFrom ·))=true:=by kernel_rfl
theorem jC2:Rows.shotsSpec.vars.all (prog.varReadable ·)=true:=by kernel_rfl
theorem xD5:f12.resultTypes.all (fun t=>prog.readableRec t && decide (t<prog.types.size))=true:=by kernel_rfl
theorem xF6:(Rows.shotsRow.ifacesOut == f12.resultTypes.toList.any (prog.ifacesRec ·))=true:=by kernel_rfl
theorem xL2:(Rows.shotsRow.loopsOut == f12.resultTypes.toList.any (prog.loopsFrom ·))=true:=by kernel_rfl
theorem xI0:(Rows.shotsRow.plainKeys == prog.plainKeys)=true:=by kernel_rfl
theorem zY6:prog.stopsHeard=true:=by kernel_rfl
theorem zZ8:prog.mayEnter=true:=by kernel_rfl
theorem jA8:(Rows.shotsRow.lifted == prog.liftsFinal)=true:=by kernel_rfl
theorem jK5:(prog.make == some Rows.shotsRow.make)=true:=by kernel_rfl
theorem xC9:Rows.shotsRow.domain.isEmpty=true:=by kernel_rfl
theorem xK2:(Rows.shotsRow.kinds == [])=true:=by kernel_rfl
theorem xJ8:(Rows.shotsRow.pinned == Rows.shotsRow.pinnedBy)=true:=by kernel_rfl
theorem xP0:(Rows.shotsRow.veiled == (f12.params.toList++Rows.shotsSpec.plain.varTypes prog++f12.resultTypes.toList).any (prog.veiledRec ·))=true:=by kernel_rfl
theorem jL8:Rows.shotsRow.veiledFits prog f12.params.toList (f12.params.toList++Rows.shotsSpec.plain.varTypes prog++f12.resultTypes.toList)=true:=by kernel_rfl
theorem jA2:(Rows.shotsRow.stops == [])=true:=by kernel_rfl
theorem xF5:(Rows.shotsRow.knobs == [])=true:=by kernel_rfl
theorem xO2:Rows.shotsRow.shortTexts.isNone=true:=by kernel_rfl
theorem zO8:prog.funcNamed "shadow/shadowkeep.Shots"=some 12:=by kernel_rfl
end Go.Proofs.YtdohpenfkdckiaaGreatDoor
