import Derived.Test.YtdohpenfkdckiaaGreatDoorT14
set_option linter.all false
set_option maxRecDepth 100000
set_option maxHeartbeats 20000000
namespace Go.Proofs.YtdohpenfkdckiaaGreatDoor.Gw
open Go.Proofs.Tryz
open Go Go.ChangeShapes Go.WideShapes Go.RowKit Go.Deep
theorem xY4:Rows.txnsRow.wf (OpenSpec.ofChange Rows.txnsSpec)=true:=by kernel_rfl
theorem xW3:mapsRowed prog=true:=by kernel_rfl
theorem xW8:f4.params.all (prog.readableRec ·)=true:=by kernel_rfl
theorem xX7:namedTie prog Rows.txnsRow.named Rows.txnsSpec.vars=true:=by kernel_rfl
theorem xX5:(prog.stops == [])=true:=by kernel_rfl
theorem xV6:(prog.stopKnobs == [])=true:=by kernel_rfl
theorem xW1:(Rows.txnsRow.maps == (f4.params.toList++Rows.txnsSpec.plain.varTypes prog).any (prog.mapsRec ·))=true:=by kernel_rfl
theorem xV1:(Rows.txnsRow.ifaces == (f4.params.toList++Rows.txnsSpec.plain.varTypes prog).any (prog.ifacesRec ·))=true:=by kernel_rfl
theorem xW6:(Rows.txnsRow.mapsOut == prog.mapsAmong f4.resultTypes.toList)=true:=by kernel_rfl
theorem xV8:(Rows.txnsRow.loops == (f4.params.toList++Rows.txnsSpec.plain.varTypes prog).any (prog.loopsFrom ·))=true:=by kernel_rfl
theorem xY5:(Rows.txnsRow.wideKeys == (f4.params.toList++Rows.txnsSpec.plain.varTypes prog++f4.resultTypes.toList).any (prog.wideKeysFrom ·))=true:=by kernel_rfl
theorem xY2:Rows.txnsSpec.vars.all (prog.varReadable ·)=true:=by kernel_rfl
theorem xX2:f4.resultTypes.all (fun t=>prog.readableRec t && decide (t<prog.types.size))=true:=by kernel_rfl
theorem xV3:(Rows.txnsRow.ifacesOut == f4.resultTypes.toList.any (prog.ifacesRec ·))=true:=by kernel_rfl
theorem xV9:(Rows.txnsRow.loopsOut == f4.resultTypes.toList.any (prog.loopsFrom ·))=true:=by kernel_rfl
theorem xX0:(Rows.txnsRow.plainKeys == prog.plainKeys)=true:=by kernel_rfl
theorem xX3:prog.stopsHeard=true:=by kernel_rfl
theorem xW4:prog.mayEnter=true:=by kernel_rfl
theorem xV7:(Rows.txnsRow.lifted == prog.liftsFinal)=true:=by kernel_rfl
theorem xW5:(prog.make == some Rows.txnsRow.make)=true:=by kernel_rfl
theorem xU9:Rows.txnsRow.domain.isEmpty=true:=by kernel_rfl
theorem xV5:(Rows.txnsRow.kinds == [])=true:=by kernel_rfl
theorem xW9:(Rows.txnsRow.pinned == Rows.txnsRow.pinnedBy)=true:=by kernel_rfl
theorem xY0:(Rows.txnsRow.veiled == (f4.params.toList++Rows.txnsSpec.plain.varTypes prog++f4.resultTypes.toList).any (prog.veiledRec ·))=true:=by kernel_rfl
theorem xY1:Rows.txnsRow.veiledFits prog f4.params.toList (f4.params.toList++Rows.txnsSpec.plain.varTypes prog++f4.resultTypes.toList)=true:=by kernel_rfl
theorem xU8:(Rows.txnsRow.stops == [])=true:=by kernel_rfl
theorem xU7:(Rows.txnsRow.knobs == [])=true:=by kernel_rfl
theorem xX4:Rows.txnsRow.shortTexts.isNone=true:=by kernel_rfl
theorem zP5:prog.funcNamed "shadow/shadowlaw.Txns"=some 4:=by kernel_rfl
end Go.Proofs.YtdohpenfkdckiaaGreatDoor.Gw
