import Derived.Test.YtdohpenfkdckiaaGreatDoorJ09
set_option linter.all false
set_option maxRecDepth 100000
set_option maxHeartbeats 0
namespace Go.Proofs.YtdohpenfkdckiaaGreatDoor
open Go.Proofs.Tryz Go.RowKit
namespace Gw
open Go Go.ChangeShapes Go.WideShapes Go.RowKit Go.Deep
def Uy:Rows.crashesRow.wf (OpenSpec.ofChange Rows.crashesSpec)=true:=by kernel_rfl
def Ua:mapsRowed prog=true:=by kernel_rfl
def Uf:f7.params.all (prog.readableRec ·)=true:=by kernel_rfl
def Uo:namedTie prog Rows.crashesRow.named Rows.crashesSpec.vars=true:=by kernel_rfl
def Un:(prog.stops == [])=true:=by kernel_rfl
def TR:(prog.stopKnobs == [])=true:=by kernel_rfl
def TY:(Rows.crashesRow.maps == (f7.params.toList++Rows.crashesSpec.plain.varTypes prog).any (prog.mapsRec ·))=true:=by kernel_rfl
def TL:(Rows.crashesRow.ifaces == (f7.params.toList++Rows.crashesSpec.plain.varTypes prog).any (prog.ifacesRec ·))=true:=by kernel_rfl
def Ud:(Rows.crashesRow.mapsOut == prog.mapsAmong f7.resultTypes.toList)=true:=by kernel_rfl
def TV:(Rows.crashesRow.loops == (f7.params.toList++Rows.crashesSpec.plain.varTypes prog).any (prog.loopsFrom ·))=true:=by kernel_rfl
def UA:(Rows.crashesRow.wideKeys == (f7.params.toList++Rows.crashesSpec.plain.varTypes prog++f7.resultTypes.toList).any (prog.wideKeysFrom ·))=true:=by kernel_rfl
def Uw:Rows.crashesSpec.vars.all (prog.varReadable ·)=true:=by kernel_rfl
def Uj:f7.resultTypes.all (fun t=>prog.readableRec t && decide (t<prog.types.size))=true:=by kernel_rfl
def TN:(Rows.crashesRow.ifacesOut == f7.resultTypes.toList.any (prog.ifacesRec ·))=true:=by kernel_rfl
def TW:(Rows.crashesRow.loopsOut == f7.resultTypes.toList.any (prog.loopsFrom ·))=true:=by kernel_rfl
def Uh:(Rows.crashesRow.plainKeys == prog.plainKeys)=true:=by kernel_rfl
def Ul:prog.stopsHeard=true:=by kernel_rfl
def Ub:prog.mayEnter=true:=by kernel_rfl
def TT:(Rows.crashesRow.lifted == prog.liftsFinal)=true:=by kernel_rfl
def Uc:(prog.make == some Rows.crashesRow.make)=true:=by kernel_rfl
def TI:Rows.crashesRow.domain.isEmpty=true:=by kernel_rfl
def TQ:(Rows.crashesRow.kinds == [])=true:=by kernel_rfl
def Ug:(Rows.crashesRow.pinned == Rows.crashesRow.pinnedBy)=true:=by kernel_rfl
def Ut:(Rows.crashesRow.veiled == (f7.params.toList++Rows.crashesSpec.plain.varTypes prog++f7.resultTypes.toList).any (prog.veiledRec ·))=true:=by kernel_rfl
def Uv:Rows.crashesRow.veiledFits prog f7.params.toList (f7.params.toList++Rows.crashesSpec.plain.varTypes prog++f7.resultTypes.toList)=true:=by kernel_rfl
def TH:(Rows.crashesRow.stops == [])=true:=by kernel_rfl
def TE:(Rows.crashesRow.knobs == [])=true:=by kernel_rfl
def Um:Rows.crashesRow.shortTexts.isNone=true:=by kernel_rfl
def MO:prog.funcNamed "shadow/shadowlaw.Crashes"=some 7:=by kernel_rfl
end Gw
end Go.Proofs.YtdohpenfkdckiaaGreatDoor
