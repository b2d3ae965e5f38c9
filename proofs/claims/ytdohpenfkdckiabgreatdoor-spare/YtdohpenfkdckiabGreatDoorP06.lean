import Derived.Test.YtdohpenfkdckiabGreatDoorP01
set_option linter.all false
set_option maxRecDepth 100000
set_option maxHeartbeats 20000000
namespace Go.Proofs.YtdohpenfkdckiabGreatDoor
open Go.Proofs.Tryz
open Go Go.ChangeShapes Go.WideShapes Go.RowKit Go.Deep
theorem zV6:Rows.spareRow.wf (OpenSpec.ofChange Rows.spareSpec)=true:=by kernel_rfl
theorem zT7:mapsRowed prog=true:=by kernel_rfl
theorem zU1:f5.params.all (prog.readableRec ·)=true:=by kernel_rfl
theorem zU9:namedTie prog Rows.spareRow.named Rows.spareSpec.vars=true:=by kernel_rfl
theorem zU8:(prog.stops == [])=true:=by kernel_rfl
theorem zT0:(prog.stopKnobs == [])=true:=by kernel_rfl
theorem zT5:(Rows.spareRow.maps == (f5.params.toList++Rows.spareSpec.plain.varTypes prog).any (prog.mapsRec ·))=true:=by kernel_rfl
theorem zS5:(Rows.spareRow.ifaces == (f5.params.toList++Rows.spareSpec.plain.varTypes prog).any (prog.ifacesRec ·))=true:=by kernel_rfl
theorem zU0:(Rows.spareRow.mapsOut == prog.mapsAmong f5.resultTypes.toList)=true:=by kernel_rfl
theorem zT2:(Rows.spareRow.loops == (f5.params.toList++Rows.spareSpec.plain.varTypes prog).any (prog.loopsFrom ·))=true:=by kernel_rfl
theorem zV7:(Rows.spareRow.wideKeys == (f5.params.toList++Rows.spareSpec.plain.varTypes prog++f5.resultTypes.toList).any (prog.wideKeysFrom ·))=true:=by kernel_rfl
theorem zV4:Rows.spareSpec.vars.all (prog.varReadable ·)=true:=by kernel_rfl
theorem zU5:f5.resultTypes.all (fun t=>prog.readableRec t && decide (t<prog.types.size))=true:=by kernel_rfl
theorem zS7:(Rows.spareRow.ifacesOut == f5.resultTypes.toList.any (prog.ifacesRec ·))=true:=by kernel_rfl
theorem zT3:(Rows.spareRow.loopsOut == f5.resultTypes.toList.any (prog.loopsFrom ·))=true:=by kernel_rfl
theorem zU3:(Rows.spareRow.plainKeys == prog.plainKeys)=true:=by kernel_rfl
theorem zU6:prog.stopsHeard=true:=by kernel_rfl
theorem zT8:prog.mayEnter=true:=by kernel_rfl
theorem zT1:(Rows.spareRow.lifted == prog.liftsFinal)=true:=by kernel_rfl
theorem zT9:(prog.make == some Rows.spareRow.make)=true:=by kernel_rfl
theorem zO5:Rows.spareRow.domain.isEmpty=true:=by kernel_rfl
theorem zS9:(Rows.spareRow.kinds == [])=true:=by kernel_rfl
theorem zU2:(Rows.spareRow.pinned == Rows.spareRow.pinnedBy)=true:=by kernel_rfl
theorem zV2:(Rows.spareRow.veiled == (f5.params.toList++Rows.spareSpec.plain.varTypes prog++f5.resultTypes.toList).any (prog.veiledRec ·))=true:=by kernel_rfl
theorem zV3:Rows.spareRow.veiledFits prog f5.params.toList (f5.params.toList++Rows.spareSpec.plain.varTypes prog++f5.resultTypes.toList)=true:=by kernel_rfl
theorem zO3:(Rows.spareRow.stops == [])=true:=by kernel_rfl
theorem zN9:(Rows.spareRow.knobs == [])=true:=by kernel_rfl
theorem zU7:Rows.spareRow.shortTexts.isNone=true:=by kernel_rfl
theorem qN1:prog.funcNamed "shadow/shadowkeep.Spare"=some 5:=by kernel_rfl
end Go.Proofs.YtdohpenfkdckiabGreatDoor
