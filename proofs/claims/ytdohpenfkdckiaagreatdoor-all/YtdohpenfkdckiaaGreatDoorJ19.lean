import Derived.Test.YtdohpenfkdckiaaGreatDoorJ11
set_option linter.all false
set_option maxRecDepth 100000
set_option maxHeartbeats 0
namespace Go.Proofs.YtdohpenfkdckiaaGreatDoor
open Go.Proofs.Tryz Go.RowKit
namespace Gw
open Go Go.ChangeShapes Go.WideShapes Go.RowKit Go.Deep
def S8:Rows.allRow.wf (OpenSpec.ofChange Rows.allSpec)=true:=kR
def SM:mapsRowed prog=true:=kR
def SQ:f10.params.all (prog.readableRec ·)=true:=kR
def S0:namedTie prog Rows.allRow.named Rows.allSpec.vars=true:=kR
def SZ:(prog.stops == [])=true:=kR
def SE:(prog.stopKnobs == [])=true:=kR
def SK:(Rows.allRow.maps == (f10.params.toList++Rows.allSpec.plain.varTypes prog).any (prog.mapsRec ·))=true:=kR
def Sw:(Rows.allRow.ifaces == (f10.params.toList++Rows.allSpec.plain.varTypes prog).any (prog.ifacesRec ·))=true:=kR
def SP:(Rows.allRow.mapsOut == prog.mapsAmong f10.resultTypes.toList)=true:=kR
def SH:(Rows.allRow.loops == (f10.params.toList++Rows.allSpec.plain.varTypes prog).any (prog.loopsFrom ·))=true:=kR
def S9:(Rows.allRow.wideKeys == (f10.params.toList++Rows.allSpec.plain.varTypes prog++f10.resultTypes.toList).any (prog.wideKeysFrom ·))=true:=kR
def S6:Rows.allSpec.vars.all (prog.varReadable ·)=true:=kR
def SV:f10.resultTypes.all (λt=>prog.readableRec t && decide (t<prog.types.size))=true:=kR
def SB:(Rows.allRow.ifacesOut == f10.resultTypes.toList.any (prog.ifacesRec ·))=true:=kR
def SI:(Rows.allRow.loopsOut == f10.resultTypes.toList.any (prog.loopsFrom ·))=true:=kR
def SS:(Rows.allRow.plainKeys == prog.plainKeys)=true:=kR
def SW:prog.stopsHeard=true:=kR
def SN:prog.mayEnter=true:=kR
def SF:(Rows.allRow.lifted == prog.liftsFinal)=true:=kR
def SO:(prog.make == some Rows.allRow.make)=true:=kR
def Su:Rows.allRow.domain.isEmpty=true:=kR
def SD:(Rows.allRow.kinds == [])=true:=kR
def SR:(Rows.allRow.pinned == Rows.allRow.pinnedBy)=true:=kR
def S4:(Rows.allRow.veiled == (f10.params.toList++Rows.allSpec.plain.varTypes prog++f10.resultTypes.toList).any (prog.veiledRec ·))=true:=kR
def S5:Rows.allRow.veiledFits prog f10.params.toList (f10.params.toList++Rows.allSpec.plain.varTypes prog++f10.resultTypes.toList)=true:=kR
def Ss:(Rows.allRow.stops == [])=true:=kR
def Sr:(Rows.allRow.knobs == [])=true:=kR
def SX:Rows.allRow.shortTexts.isNone=true:=kR
def Nn:prog.funcNamed "shadow/shadowlaw.All"=some 10:=kR
