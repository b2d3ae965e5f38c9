import Derived.Test.YtdohpenfkdckiaaGreatDoorM14
set_option linter.all false
set_option maxRecDepth 100000
set_option maxHeartbeats 20000000
namespace Go.Proofs.YtdohpenfkdckiaaGreatDoor.Gw
open Go.Proofs.Tryz
open Go Go.ChangeShapes Go.WideShapes Go.RowKit Go.Deep
theorem xX6:Rows.movesRow.wf (OpenSpec.ofChange Rows.movesSpec)=true:=by kernel_rfl
theorem xV5:mapsRowed prog=true:=by kernel_rfl
theorem xW0:f5.params.all (prog.readableRec ·)=true:=by kernel_rfl
theorem xW9:namedTie prog Rows.movesRow.named Rows.movesSpec.vars=true:=by kernel_rfl
theorem xW7:(prog.stops == [])=true:=by kernel_rfl
theorem xU8:(prog.stopKnobs == [])=true:=by kernel_rfl
theorem xV3:(Rows.movesRow.maps == (f5.params.toList++Rows.movesSpec.plain.varTypes prog).any (prog.mapsRec ·))=true:=by kernel_rfl
theorem xU3:(Rows.movesRow.ifaces == (f5.params.toList++Rows.movesSpec.plain.varTypes prog).any (prog.ifacesRec ·))=true:=by kernel_rfl
theorem xV8:(Rows.movesRow.mapsOut == prog.mapsAmong f5.resultTypes.toList)=true:=by kernel_rfl
theorem xV0:(Rows.movesRow.loops == (f5.params.toList++Rows.movesSpec.plain.varTypes prog).any (prog.loopsFrom ·))=true:=by kernel_rfl
theorem xX7:(Rows.movesRow.wideKeys == (f5.params.toList++Rows.movesSpec.plain.varTypes prog++f5.resultTypes.toList).any (prog.wideKeysFrom ·))=true:=by kernel_rfl
theorem xX4:Rows.movesSpec.vars.all (prog.varReadable ·)=true:=by kernel_rfl
theorem xW4:f5.resultTypes.all (fun t=>prog.readableRec t && decide (t<prog.types.size))=true:=by kernel_rfl
theorem xU5:(Rows.movesRow.ifacesOut == f5.resultTypes.toList.any (prog.ifacesRec ·))=true:=by kernel_rfl
theorem xV1:(Rows.movesRow.loopsOut == f5.resultTypes.toList.any (prog.loopsFrom ·))=true:=by kernel_rfl
theorem xW2:(Rows.movesRow.plainKeys == prog.plainKeys)=true:=by kernel_rfl
theorem xW5:prog.stopsHeard=true:=by kernel_rfl
theorem xV6:prog.mayEnter=true:=by kernel_rfl
theorem xU9:(Rows.movesRow.lifted == prog.liftsFinal)=true:=by kernel_rfl
theorem xV7:(prog.make == some Rows.movesRow.make)=true:=by kernel_rfl
theorem xU1:Rows.movesRow.domain.isEmpty=true:=by kernel_rfl
theorem xU7:(Rows.movesRow.kinds == [])=true:=by kernel_rfl
theorem xW1:(Rows.movesRow.pinned == Rows.movesRow.pinnedBy)=true:=by kernel_rfl
theorem xX2:(Rows.movesRow.veiled == (f5.params.toList++Rows.movesSpec.plain.varTypes prog++f5.resultTypes.toList).any (prog.veiledRec ·))=true:=by kernel_rfl
theorem xX3:Rows.movesRow.veiledFits prog f5.params.toList (f5.params.toList++Rows.movesSpec.plain.varTypes prog++f5.resultTypes.toList)=true:=by kernel_rfl
theorem xU0:(Rows.movesRow.stops == [])=true:=by kernel_rfl
theorem xT9:(Rows.movesRow.knobs == [])=true:=by kernel_rfl
theorem xW6:Rows.movesRow.shortTexts.isNone=true:=by kernel_rfl
theorem zP9:prog.funcNamed "shadow/shadowlaw.Moves"=some 5:=by kernel_rfl
end Go.Proofs.YtdohpenfkdckiaaGreatDoor.Gw
