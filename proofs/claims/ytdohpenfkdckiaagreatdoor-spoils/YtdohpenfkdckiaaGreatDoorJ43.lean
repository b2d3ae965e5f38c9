import Derived.Test.YtdohpenfkdckiaaGreatDoorJ24
set_option linter.all false
set_option maxRecDepth 100000
set_option maxHeartbeats 20000000
namespace Go.Proofs.YtdohpenfkdckiaaGreatDoor.Gw
open Go.Proofs.Tryz
open Go Go.ChangeShapes Go.WideShapes Go.RowKit Go.Deep
theorem kJ1:Rows.spoilsRow.wf (OpenSpec.ofChange Rows.spoilsSpec)=true:=kR
theorem kH2:mapsRowed prog=true:=kR
theorem kH6:f9.params.all (prog.readableRec ·)=true:=kR
theorem kI4:namedTie prog Rows.spoilsRow.named Rows.spoilsSpec.vars=true:=kR
theorem kI3:(prog.stops == [])=true:=kR
theorem kG5:(prog.stopKnobs == [])=true:=kR
theorem kH0:(Rows.spoilsRow.maps == (f9.params.toList++Rows.spoilsSpec.plain.varTypes prog).any (prog.mapsRec ·))=true:=kR
theorem kG0:(Rows.spoilsRow.ifaces == (f9.params.toList++Rows.spoilsSpec.plain.varTypes prog).any (prog.ifacesRec ·))=true:=kR
theorem kH5:(Rows.spoilsRow.mapsOut == prog.mapsAmong f9.resultTypes.toList)=true:=kR
theorem kG7:(Rows.spoilsRow.loops == (f9.params.toList++Rows.spoilsSpec.plain.varTypes prog).any (prog.loopsFrom ·))=true:=kR
theorem kJ2:(Rows.spoilsRow.wideKeys == (f9.params.toList++Rows.spoilsSpec.plain.varTypes prog++f9.resultTypes.toList).any (prog.wideKeysFrom ·))=true:=kR
theorem kI9:Rows.spoilsSpec.vars.all (prog.varReadable ·)=true:=kR
theorem kI0:f9.resultTypes.all (λt=>prog.readableRec t && decide (t<prog.types.size))=true:=kR
theorem kG2:(Rows.spoilsRow.ifacesOut == f9.resultTypes.toList.any (prog.ifacesRec ·))=true:=kR
theorem kG8:(Rows.spoilsRow.loopsOut == f9.resultTypes.toList.any (prog.loopsFrom ·))=true:=kR
theorem kH8:(Rows.spoilsRow.plainKeys == prog.plainKeys)=true:=kR
theorem kI1:prog.stopsHeard=true:=kR
theorem kH3:prog.mayEnter=true:=kR
theorem kG6:(Rows.spoilsRow.lifted == prog.liftsFinal)=true:=kR
theorem kH4:(prog.make == some Rows.spoilsRow.make)=true:=kR
theorem kF8:Rows.spoilsRow.domain.isEmpty=true:=kR
theorem kG4:(Rows.spoilsRow.kinds == [])=true:=kR
theorem kH7:(Rows.spoilsRow.pinned == Rows.spoilsRow.pinnedBy)=true:=kR
theorem kI7:(Rows.spoilsRow.veiled == (f9.params.toList++Rows.spoilsSpec.plain.varTypes prog++f9.resultTypes.toList).any (prog.veiledRec ·))=true:=kR
theorem kI8:Rows.spoilsRow.veiledFits prog f9.params.toList (f9.params.toList++Rows.spoilsSpec.plain.varTypes prog++f9.resultTypes.toList)=true:=kR
theorem kF7:(Rows.spoilsRow.stops == [])=true:=kR
theorem kF6:(Rows.spoilsRow.knobs == [])=true:=kR
theorem kI2:Rows.spoilsRow.shortTexts.isNone=true:=kR
theorem xR0:prog.funcNamed "shadow/shadowlaw.Spoils"=some 9:=kR
end Go.Proofs.YtdohpenfkdckiaaGreatDoor.Gw
