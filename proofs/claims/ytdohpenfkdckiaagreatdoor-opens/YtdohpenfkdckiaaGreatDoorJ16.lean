import Derived.Test.YtdohpenfkdckiaaGreatDoorJ11
namespace Go.Proofs.YtdohpenfkdckiaaGreatDoor
set_option linter.unusedSimpArgs false
set_option linter.unusedVariables false
open Go Go.ChangeShapes Go.WideShapes Go.RowKit Go.Deep

theorem op_wf : Rows.opensRow.wf (OpenSpec.ofChange Rows.opensSpec) = true := by kernel_rfl
theorem op_maps : mapsRowed Tryz.prog = true := by kernel_rfl
theorem op_par : Tryz.f3.params.all (Tryz.prog.readableRec ·) = true := by kernel_rfl
theorem op_tie : namedTie Tryz.prog Rows.opensRow.named Rows.opensSpec.vars = true := by kernel_rfl
theorem op_st : (Tryz.prog.stops == []) = true := by kernel_rfl
theorem op_kn : (Tryz.prog.stopKnobs == []) = true := by kernel_rfl
theorem op_m : (Rows.opensRow.maps == (Tryz.f3.params.toList ++ Rows.opensSpec.plain.varTypes Tryz.prog).any (Tryz.prog.mapsRec ·)) = true := by kernel_rfl
theorem op_if : (Rows.opensRow.ifaces == (Tryz.f3.params.toList ++ Rows.opensSpec.plain.varTypes Tryz.prog).any (Tryz.prog.ifacesRec ·)) = true := by kernel_rfl
theorem op_mo : (Rows.opensRow.mapsOut == Tryz.prog.mapsAmong Tryz.f3.resultTypes.toList) = true := by kernel_rfl
theorem op_lo : (Rows.opensRow.loops == (Tryz.f3.params.toList ++ Rows.opensSpec.plain.varTypes Tryz.prog).any (Tryz.prog.loopsFrom ·)) = true := by kernel_rfl
theorem op_wk : (Rows.opensRow.wideKeys == (Tryz.f3.params.toList ++ Rows.opensSpec.plain.varTypes Tryz.prog ++ Tryz.f3.resultTypes.toList).any (Tryz.prog.wideKeysFrom ·)) = true := by kernel_rfl
theorem op_vr : Rows.opensSpec.vars.all (Tryz.prog.varReadable ·) = true := by kernel_rfl
theorem op_rt : Tryz.f3.resultTypes.all (fun t => Tryz.prog.readableRec t && decide (t < Tryz.prog.types.size)) = true := by kernel_rfl
theorem op_io : (Rows.opensRow.ifacesOut == Tryz.f3.resultTypes.toList.any (Tryz.prog.ifacesRec ·)) = true := by kernel_rfl
theorem op_loo : (Rows.opensRow.loopsOut == Tryz.f3.resultTypes.toList.any (Tryz.prog.loopsFrom ·)) = true := by kernel_rfl
theorem op_pk : (Rows.opensRow.plainKeys == Tryz.prog.plainKeys) = true := by kernel_rfl
theorem op_sh : Tryz.prog.stopsHeard = true := by kernel_rfl
theorem op_me : Tryz.prog.mayEnter = true := by kernel_rfl
theorem op_li : (Rows.opensRow.lifted == Tryz.prog.liftsFinal) = true := by kernel_rfl
theorem op_mk : (Tryz.prog.make == some Rows.opensRow.make) = true := by kernel_rfl
theorem op_do : Rows.opensRow.domain.isEmpty = true := by kernel_rfl
theorem op_ki : (Rows.opensRow.kinds == []) = true := by kernel_rfl
theorem op_pin : (Rows.opensRow.pinned == Rows.opensRow.pinnedBy) = true := by kernel_rfl
theorem op_ve : (Rows.opensRow.veiled == (Tryz.f3.params.toList ++ Rows.opensSpec.plain.varTypes Tryz.prog ++ Tryz.f3.resultTypes.toList).any (Tryz.prog.veiledRec ·)) = true := by kernel_rfl
theorem op_vf : Rows.opensRow.veiledFits Tryz.prog Tryz.f3.params.toList (Tryz.f3.params.toList ++ Rows.opensSpec.plain.varTypes Tryz.prog ++ Tryz.f3.resultTypes.toList) = true := by kernel_rfl
theorem op_cst : (Rows.opensRow.stops == []) = true := by kernel_rfl
theorem op_ckn : (Rows.opensRow.knobs == []) = true := by kernel_rfl
theorem op_sho : Rows.opensRow.shortTexts.isNone = true := by kernel_rfl
theorem op_fn : Tryz.prog.funcNamed "shadow/shadowlaw.Opens" = some 3 := by kernel_rfl
end Go.Proofs.YtdohpenfkdckiaaGreatDoor

