import Derived.Test.YtdohpenfkdckiabGreatDoorC01
set_option linter.all false
set_option maxRecDepth 100000
set_option maxHeartbeats 20000000
namespace Go.Proofs.YtdohpenfkdckiabGreatDoor
open Go.Proofs.Tryz
open Go Go.ChangeShapes Go.WideShapes Go.RowKit Go.Deep
theorem zW0:Rows.cheapRow.wf (OpenSpec.ofChange Rows.cheapSpec)=true:=by kernel_rfl
theorem zU1:mapsRowed prog=true:=by kernel_rfl
theorem zU5:f6.params.all (prog.readableRec ·)=true:=by kernel_rfl
theorem zV3:namedTie prog Rows.cheapRow.named Rows.cheapSpec.vars=true:=by kernel_rfl
theorem zV2:(prog.stops == [])=true:=by kernel_rfl
theorem zT4:(prog.stopKnobs == [])=true:=by kernel_rfl
theorem zT9:(Rows.cheapRow.maps == (f6.params.toList++Rows.cheapSpec.plain.varTypes prog).any (prog.mapsRec ·))=true:=by kernel_rfl
theorem zS9:(Rows.cheapRow.ifaces == (f6.params.toList++Rows.cheapSpec.plain.varTypes prog).any (prog.ifacesRec ·))=true:=by kernel_rfl
theorem zU4:(Rows.cheapRow.mapsOut == prog.mapsAmong f6.resultTypes.toList)=true:=by kernel_rfl
theorem zT6:(Rows.cheapRow.loops == (f6.params.toList++Rows.cheapSpec.plain.varTypes prog).any (prog.loopsFrom ·))=true:=by kernel_rfl
theorem zW1:(Rows.cheapRow.wideKeys == (f6.params.toList++Rows.cheapSpec.plain.varTypes prog++f6.resultTypes.toList).any (prog.wideKeysFrom ·))=true:=by kernel_rfl
theorem zV8:Rows.cheapSpec.vars.all (prog.varReadable ·)=true:=by kernel_rfl
theorem zU9:f6.resultTypes.all (fun t=>prog.readableRec t && decide (t<prog.types.size))=true:=by kernel_rfl
theorem zT1:(Rows.cheapRow.ifacesOut == f6.resultTypes.toList.any (prog.ifacesRec ·))=true:=by kernel_rfl
theorem zT7:(Rows.cheapRow.loopsOut == f6.resultTypes.toList.any (prog.loopsFrom ·))=true:=by kernel_rfl
theorem zU7:(Rows.cheapRow.plainKeys == prog.plainKeys)=true:=by kernel_rfl
theorem zV0:prog.stopsHeard=true:=by kernel_rfl
theorem zU2:prog.mayEnter=true:=by kernel_rfl
theorem zT5:(Rows.cheapRow.lifted == prog.liftsFinal)=true:=by kernel_rfl
theorem zU3:(prog.make == some Rows.cheapRow.make)=true:=by kernel_rfl
theorem zS7:Rows.cheapRow.domain.isEmpty=true:=by kernel_rfl
theorem zT3:(Rows.cheapRow.kinds == [])=true:=by kernel_rfl
theorem zU6:(Rows.cheapRow.pinned == Rows.cheapRow.pinnedBy)=true:=by kernel_rfl
theorem zV6:(Rows.cheapRow.veiled == (f6.params.toList++Rows.cheapSpec.plain.varTypes prog++f6.resultTypes.toList).any (prog.veiledRec ·))=true:=by kernel_rfl
theorem zV7:Rows.cheapRow.veiledFits prog f6.params.toList (f6.params.toList++Rows.cheapSpec.plain.varTypes prog++f6.resultTypes.toList)=true:=by kernel_rfl
theorem zS6:(Rows.cheapRow.stops == [])=true:=by kernel_rfl
theorem zS5:(Rows.cheapRow.knobs == [])=true:=by kernel_rfl
theorem zV1:Rows.cheapRow.shortTexts.isNone=true:=by kernel_rfl
theorem zA2:prog.funcNamed "shadow/shadowkeep.Cheap"=some 6:=by kernel_rfl
end Go.Proofs.YtdohpenfkdckiabGreatDoor
