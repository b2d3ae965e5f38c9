import Derived.Test.YtdohpenfkdckiaaGreatDoorJ23
set_option linter.all false
set_option maxRecDepth 100000
set_option maxHeartbeats 20000000
namespace Go.Proofs.YtdohpenfkdckiaaGreatDoor.Gw
open Go.Proofs.Tryz
open Go Go.ChangeShapes Go.WideShapes Go.RowKit Go.Deep
theorem jG0:Rows.commitsRow.wf (OpenSpec.ofChange Rows.commitsSpec)=true:=kR
theorem jD9:mapsRowed prog=true:=kR
theorem jE4:f6.params.all (prog.readableRec ·)=true:=kR
theorem jF3:namedTie prog Rows.commitsRow.named Rows.commitsSpec.vars=true:=kR
theorem jF1:(prog.stops == [])=true:=kR
theorem jD2:(prog.stopKnobs == [])=true:=kR
theorem jD7:(Rows.commitsRow.maps == (f6.params.toList++Rows.commitsSpec.plain.varTypes prog).any (prog.mapsRec ·))=true:=kR
theorem jC7:(Rows.commitsRow.ifaces == (f6.params.toList++Rows.commitsSpec.plain.varTypes prog).any (prog.ifacesRec ·))=true:=kR
theorem jE2:(Rows.commitsRow.mapsOut == prog.mapsAmong f6.resultTypes.toList)=true:=kR
theorem jD4:(Rows.commitsRow.loops == (f6.params.toList++Rows.commitsSpec.plain.varTypes prog).any (prog.loopsFrom ·))=true:=kR
theorem jG1:(Rows.commitsRow.wideKeys == (f6.params.toList++Rows.commitsSpec.plain.varTypes prog++f6.resultTypes.toList).any (prog.wideKeysFrom ·))=true:=kR
theorem jF8:Rows.commitsSpec.vars.all (prog.varReadable ·)=true:=kR
theorem jE8:f6.resultTypes.all (λt=>prog.readableRec t && decide (t<prog.types.size))=true:=kR
theorem jC9:(Rows.commitsRow.ifacesOut == f6.resultTypes.toList.any (prog.ifacesRec ·))=true:=kR
theorem jD5:(Rows.commitsRow.loopsOut == f6.resultTypes.toList.any (prog.loopsFrom ·))=true:=kR
theorem jE6:(Rows.commitsRow.plainKeys == prog.plainKeys)=true:=kR
theorem jE9:prog.stopsHeard=true:=kR
theorem jE0:prog.mayEnter=true:=kR
theorem jD3:(Rows.commitsRow.lifted == prog.liftsFinal)=true:=kR
theorem jE1:(prog.make == some Rows.commitsRow.make)=true:=kR
theorem jC5:Rows.commitsRow.domain.isEmpty=true:=kR
theorem jD1:(Rows.commitsRow.kinds == [])=true:=kR
theorem jE5:(Rows.commitsRow.pinned == Rows.commitsRow.pinnedBy)=true:=kR
theorem jF6:(Rows.commitsRow.veiled == (f6.params.toList++Rows.commitsSpec.plain.varTypes prog++f6.resultTypes.toList).any (prog.veiledRec ·))=true:=kR
theorem jF7:Rows.commitsRow.veiledFits prog f6.params.toList (f6.params.toList++Rows.commitsSpec.plain.varTypes prog++f6.resultTypes.toList)=true:=kR
theorem jC4:(Rows.commitsRow.stops == [])=true:=kR
theorem jC3:(Rows.commitsRow.knobs == [])=true:=kR
theorem jF0:Rows.commitsRow.shortTexts.isNone=true:=kR
theorem zZ5:prog.funcNamed "shadow/shadowlaw.Commits"=some 6:=kR
end Go.Proofs.YtdohpenfkdckiaaGreatDoor.Gw
