import Derived.Test.YtdohpenfkdckiaaGreatDoorJ14
namespace Go.Proofs.YtdohpenfkdckiaaGreatDoor.Gw
set_option linter.unusedSimpArgs false
set_option linter.unusedVariables false
set_option maxRecDepth 100000
set_option maxHeartbeats 20000000
open Go Go.ChangeShapes Go.WideShapes Go.RowKit Go.Deep
theorem tx_wf:Rows.txnsRow.wf (OpenSpec.ofChange Rows.txnsSpec)=true:=by kernel_rfl
theorem tx_maps:mapsRowed Tryz.prog=true:=by kernel_rfl
theorem tx_par:Tryz.f4.params.all (Tryz.prog.readableRec ·)=true:=by kernel_rfl
theorem tx_tie:namedTie Tryz.prog Rows.txnsRow.named Rows.txnsSpec.vars=true:=by kernel_rfl
theorem tx_st:(Tryz.prog.stops == [])=true:=by kernel_rfl
theorem tx_kn:(Tryz.prog.stopKnobs == [])=true:=by kernel_rfl
theorem tx_m:(Rows.txnsRow.maps == (Tryz.f4.params.toList ++ Rows.txnsSpec.plain.varTypes Tryz.prog).any (Tryz.prog.mapsRec ·))=true:=by kernel_rfl
theorem tx_if:(Rows.txnsRow.ifaces == (Tryz.f4.params.toList ++ Rows.txnsSpec.plain.varTypes Tryz.prog).any (Tryz.prog.ifacesRec ·))=true:=by kernel_rfl
theorem tx_mo:(Rows.txnsRow.mapsOut == Tryz.prog.mapsAmong Tryz.f4.resultTypes.toList)=true:=by kernel_rfl
theorem tx_lo:(Rows.txnsRow.loops == (Tryz.f4.params.toList ++ Rows.txnsSpec.plain.varTypes Tryz.prog).any (Tryz.prog.loopsFrom ·))=true:=by kernel_rfl
theorem tx_wk:(Rows.txnsRow.wideKeys == (Tryz.f4.params.toList ++ Rows.txnsSpec.plain.varTypes Tryz.prog ++ Tryz.f4.resultTypes.toList).any (Tryz.prog.wideKeysFrom ·))=true:=by kernel_rfl
theorem tx_vr:Rows.txnsSpec.vars.all (Tryz.prog.varReadable ·)=true:=by kernel_rfl
theorem tx_rt:Tryz.f4.resultTypes.all (fun t=>Tryz.prog.readableRec t && decide (t < Tryz.prog.types.size))=true:=by kernel_rfl
theorem tx_io:(Rows.txnsRow.ifacesOut == Tryz.f4.resultTypes.toList.any (Tryz.prog.ifacesRec ·))=true:=by kernel_rfl
theorem tx_loo:(Rows.txnsRow.loopsOut == Tryz.f4.resultTypes.toList.any (Tryz.prog.loopsFrom ·))=true:=by kernel_rfl
theorem tx_pk:(Rows.txnsRow.plainKeys == Tryz.prog.plainKeys)=true:=by kernel_rfl
theorem tx_sh:Tryz.prog.stopsHeard=true:=by kernel_rfl
theorem tx_me:Tryz.prog.mayEnter=true:=by kernel_rfl
theorem tx_li:(Rows.txnsRow.lifted == Tryz.prog.liftsFinal)=true:=by kernel_rfl
theorem tx_mk:(Tryz.prog.make == some Rows.txnsRow.make)=true:=by kernel_rfl
theorem tx_do:Rows.txnsRow.domain.isEmpty=true:=by kernel_rfl
theorem tx_ki:(Rows.txnsRow.kinds == [])=true:=by kernel_rfl
theorem tx_pin:(Rows.txnsRow.pinned == Rows.txnsRow.pinnedBy)=true:=by kernel_rfl
theorem tx_ve:(Rows.txnsRow.veiled == (Tryz.f4.params.toList ++ Rows.txnsSpec.plain.varTypes Tryz.prog ++ Tryz.f4.resultTypes.toList).any (Tryz.prog.veiledRec ·))=true:=by kernel_rfl
theorem tx_vf:Rows.txnsRow.veiledFits Tryz.prog Tryz.f4.params.toList (Tryz.f4.params.toList ++ Rows.txnsSpec.plain.varTypes Tryz.prog ++ Tryz.f4.resultTypes.toList)=true:=by kernel_rfl
theorem tx_cst:(Rows.txnsRow.stops == [])=true:=by kernel_rfl
theorem tx_ckn:(Rows.txnsRow.knobs == [])=true:=by kernel_rfl
theorem tx_sho:Rows.txnsRow.shortTexts.isNone=true:=by kernel_rfl
theorem tx_fn:Tryz.prog.funcNamed "shadow/shadowlaw.Txns"=some 4:=by kernel_rfl
end Go.Proofs.YtdohpenfkdckiaaGreatDoor.Gw
