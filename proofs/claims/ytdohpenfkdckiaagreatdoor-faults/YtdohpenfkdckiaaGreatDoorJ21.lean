import Derived.Test.YtdohpenfkdckiaaGreatDoorJ09
set_option linter.all false
set_option maxRecDepth 100000
set_option maxHeartbeats 0
namespace Go.Proofs.YtdohpenfkdckiaaGreatDoor
open Go.Proofs.Tryz Go.RowKit
namespace Gw
open Go Go.ChangeShapes Go.WideShapes Go.RowKit Go.Deep
def Uy:Rows.faultsRow.wf (OpenSpec.ofChange Rows.faultsSpec)=true:=by kernel_rfl
def Ua:mapsRowed prog=true:=by kernel_rfl
def Uf:f8.params.all (prog.readableRec ·)=true:=by kernel_rfl
def Uo:namedTie prog Rows.faultsRow.named Rows.faultsSpec.vars=true:=by kernel_rfl
def Un:(prog.stops == [])=true:=by kernel_rfl
def TR:(prog.stopKnobs == [])=true:=by kernel_rfl
def TY:(Rows.faultsRow.maps == (f8.params.toList++Rows.faultsSpec.plain.varTypes prog).any (prog.mapsRec ·))=true:=by kernel_rfl
def TL:(Rows.faultsRow.ifaces == (f8.params.toList++Rows.faultsSpec.plain.varTypes prog).any (prog.ifacesRec ·))=true:=by kernel_rfl
def Ud:(Rows.faultsRow.mapsOut == prog.mapsAmong f8.resultTypes.toList)=true:=by kernel_rfl
def TV:(Rows.faultsRow.loops == (f8.params.toList++Rows.faultsSpec.plain.varTypes prog).any (prog.loopsFrom ·))=true:=by kernel_rfl
def UA:(Rows.faultsRow.wideKeys == (f8.params.toList++Rows.faultsSpec.plain.varTypes prog++f8.resultTypes.toList).any (prog.wideKeysFrom ·))=true:=by kernel_rfl
def Uw:Rows.faultsSpec.vars.all (prog.varReadable ·)=true:=by kernel_rfl
def Uj:f8.resultTypes.all (fun t=>prog.readableRec t && decide (t<prog.types.size))=true:=by kernel_rfl
def TN:(Rows.faultsRow.ifacesOut == f8.resultTypes.toList.any (prog.ifacesRec ·))=true:=by kernel_rfl
def TW:(Rows.faultsRow.loopsOut == f8.resultTypes.toList.any (prog.loopsFrom ·))=true:=by kernel_rfl
def Uh:(Rows.faultsRow.plainKeys == prog.plainKeys)=true:=by kernel_rfl
def Ul:prog.stopsHeard=true:=by kernel_rfl
def Ub:prog.mayEnter=true:=by kernel_rfl
def TT:(Rows.faultsRow.lifted == prog.liftsFinal)=true:=by kernel_rfl
def Uc:(prog.make == some Rows.faultsRow.make)=true:=by kernel_rfl
def TI:Rows.faultsRow.domain.isEmpty=true:=by kernel_rfl
def TQ:(Rows.faultsRow.kinds == [])=true:=by kernel_rfl
def Ug:(Rows.faultsRow.pinned == Rows.faultsRow.pinnedBy)=true:=by kernel_rfl
def Ut:(Rows.faultsRow.veiled == (f8.params.toList++Rows.faultsSpec.plain.varTypes prog++f8.resultTypes.toList).any (prog.veiledRec ·))=true:=by kernel_rfl
def Uv:Rows.faultsRow.veiledFits prog f8.params.toList (f8.params.toList++Rows.faultsSpec.plain.varTypes prog++f8.resultTypes.toList)=true:=by kernel_rfl
def TH:(Rows.faultsRow.stops == [])=true:=by kernel_rfl
def TE:(Rows.faultsRow.knobs == [])=true:=by kernel_rfl
def Um:Rows.faultsRow.shortTexts.isNone=true:=by kernel_rfl
def MO:prog.funcNamed "shadow/shadowlaw.Faults"=some 8:=by kernel_rfl
end Gw
end Go.Proofs.YtdohpenfkdckiaaGreatDoor
