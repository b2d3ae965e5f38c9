import Derived.Test.YtdohpenfkdckiaaGreatDoorJ14
set_option linter.all false
set_option maxRecDepth 100000
set_option maxHeartbeats 20000000
namespace Go.Proofs.YtdohpenfkdckiaaGreatDoor.Gw
open Go.Proofs.Tryz
open Go Go.ChangeShapes Go.WideShapes Go.RowKit Go.Deep
theorem jH1:Rows.movesRow.wf (OpenSpec.ofChange Rows.movesSpec)=true:=by kernel_rfl
theorem xK1:mapsRowed prog=true:=by kernel_rfl
theorem jG2:f5.params.all (prog.readableRec ·)=true:=by kernel_rfl
theorem xJ4:namedTie prog Rows.movesRow.named Rows.movesSpec.vars=true:=by kernel_rfl
theorem xH9:(prog.stops == [])=true:=by kernel_rfl
theorem xN6:(prog.stopKnobs == [])=true:=by kernel_rfl
theorem xQ4:(Rows.movesRow.maps == (f5.params.toList++Rows.movesSpec.plain.varTypes prog).any (prog.mapsRec ·))=true:=by kernel_rfl
theorem zX4:(Rows.movesRow.ifaces == (f5.params.toList++Rows.movesSpec.plain.varTypes prog).any (prog.ifacesRec ·))=true:=by kernel_rfl
theorem xD2:(Rows.movesRow.mapsOut == prog.mapsAmong f5.resultTypes.toList)=true:=by kernel_rfl
theorem zV8:(Rows.movesRow.loops == (f5.params.toList++Rows.movesSpec.plain.varTypes prog).any (prog.loopsFrom ·))=true:=by kernel_rfl
theorem jD8:(Rows.movesRow.wideKeys == (f5.params.toList++Rows.movesSpec.plain.varTypes prog++f5.resultTypes.toList).any (prog.wideKeysFrom ·))=true:=by kernel_rfl
theorem xP4:Rows.movesSpec.vars.all (prog.varReadable ·)=true:=by kernel_rfl
theorem xE9:f5.resultTypes.all (fun t=>prog.readableRec t && decide (t<prog.types.size))=true:=by kernel_rfl
theorem xS7:(Rows.movesRow.ifacesOut == f5.resultTypes.toList.any (prog.ifacesRec ·))=true:=by kernel_rfl
theorem jG7:(Rows.movesRow.loopsOut == f5.resultTypes.toList.any (prog.loopsFrom ·))=true:=by kernel_rfl
theorem xU8:(Rows.movesRow.plainKeys == prog.plainKeys)=true:=by kernel_rfl
theorem xT5:prog.stopsHeard=true:=by kernel_rfl
theorem jD0:prog.mayEnter=true:=by kernel_rfl
theorem xE4:(Rows.movesRow.lifted == prog.liftsFinal)=true:=by kernel_rfl
theorem xM2:(prog.make == some Rows.movesRow.make)=true:=by kernel_rfl
theorem zW6:Rows.movesRow.domain.isEmpty=true:=by kernel_rfl
theorem xM7:(Rows.movesRow.kinds == [])=true:=by kernel_rfl
theorem xU9:(Rows.movesRow.pinned == Rows.movesRow.pinnedBy)=true:=by kernel_rfl
theorem xZ7:(Rows.movesRow.veiled == (f5.params.toList++Rows.movesSpec.plain.varTypes prog++f5.resultTypes.toList).any (prog.veiledRec ·))=true:=by kernel_rfl
theorem xF7:Rows.movesRow.veiledFits prog f5.params.toList (f5.params.toList++Rows.movesSpec.plain.varTypes prog++f5.resultTypes.toList)=true:=by kernel_rfl
theorem xG9:(Rows.movesRow.stops == [])=true:=by kernel_rfl
theorem zV7:(Rows.movesRow.knobs == [])=true:=by kernel_rfl
theorem xW9:Rows.movesRow.shortTexts.isNone=true:=by kernel_rfl
theorem zG8:prog.funcNamed "shadow/shadowlaw.Moves"=some 5:=by kernel_rfl
end Go.Proofs.YtdohpenfkdckiaaGreatDoor.Gw
