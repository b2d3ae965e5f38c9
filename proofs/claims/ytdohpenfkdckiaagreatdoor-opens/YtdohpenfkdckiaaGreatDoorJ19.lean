import Derived.Test.YtdohpenfkdckiaaGreatDoorJ11
import Derived.Test.YtdohpenfkdckiaaGreatDoorJ12
import Derived.Test.YtdohpenfkdckiaaGreatDoorJ13
import Derived.Test.YtdohpenfkdckiaaGreatDoorJ14
import Derived.Test.YtdohpenfkdckiaaGreatDoorJ15
import Derived.Test.YtdohpenfkdckiaaGreatDoorJ16
import Derived.Test.YtdohpenfkdckiaaGreatDoorJ17
import Derived.Test.YtdohpenfkdckiaaGreatDoorJ18
import Derived.Test.YtdohpenfkdckiaaGreatDoorTie
import Derived.Test.YtdohpenfkdckiaaGreatDoorCards
import Derived.SevenTiedAt
namespace Go.Proofs.YtdohpenfkdckiaaGreatDoor
set_option linter.unusedSimpArgs false
set_option linter.unusedVariables false
open Go Go.ChangeShapes Go.WideShapes Go.RowKit Go.Deep

theorem joined_of {P : Program} {f : FuncId} {fn : Func} {s : ChangeSpec} {c : OpenClaim}
    (h1 : c.wf (OpenSpec.ofChange s) = true) (h2 : laidOutB P = true) (h3 : mapsRowed P = true) (h4 : fn.params.all (P.readableRec ·) = true) (h5 : namedTie P c.named s.vars = true)
    (h6 : (c.stops == []) = true) (h7 : (P.stops == []) = true) (h8 : (c.knobs == []) = true) (h9 : (P.stopKnobs == []) = true)
    (h10 : (c.inPlace == P.inPlace f) = true) (h11 : (c.unfollowed == P.unfollowed f) = true) (h12 : (c.recurses == P.recurses f) = true) (h13 : (c.named == P.varsNamed f) = true)
    (h14 : (c.maps == (fn.params.toList ++ s.plain.varTypes P).any (P.mapsRec ·)) = true) (h15 : (c.ifaces == (fn.params.toList ++ s.plain.varTypes P).any (P.ifacesRec ·)) = true) (h16 : (c.mapsOut == P.mapsAmong fn.resultTypes.toList) = true)
    (h17 : (c.loops == (fn.params.toList ++ s.plain.varTypes P).any (P.loopsFrom ·)) = true) (h18 : (c.wideKeys == (fn.params.toList ++ s.plain.varTypes P ++ fn.resultTypes.toList).any (P.wideKeysFrom ·)) = true)
    (h19 : s.vars.all (P.varReadable ·) = true) (h20 : fn.resultTypes.all (fun t => P.readableRec t && decide (t < P.types.size)) = true) (h21 : (c.ifacesOut == fn.resultTypes.toList.any (P.ifacesRec ·)) = true) (h22 : (c.loopsOut == fn.resultTypes.toList.any (P.loopsFrom ·)) = true) (h23 : (c.plainKeys == P.plainKeys) = true) (h24 : c.shortTexts.isNone = true) (h25 : P.stopsHeard = true) (h26 : P.mayEnter = true) (h27 : (c.lifted == P.liftsFinal) = true) (h28 : (P.make == some c.make) = true)
    (h29 : c.domain.isEmpty = true) (h33 : (c.kinds == []) = true) (h30 : (c.pinned == c.pinnedBy) = true)
    (h31 : (c.veiled == (fn.params.toList ++ s.plain.varTypes P ++ fn.resultTypes.toList).any (P.veiledRec ·)) = true) (h32 : c.veiledFits P fn.params.toList (fn.params.toList ++ s.plain.varTypes P ++ fn.resultTypes.toList) = true) : joinedFacts P f fn s c = true := by
  unfold joinedFacts
  simp only [Bool.and_eq_true]
  exact ⟨⟨⟨⟨⟨⟨⟨⟨⟨⟨⟨⟨⟨⟨⟨⟨⟨⟨⟨⟨⟨⟨⟨⟨⟨⟨⟨⟨⟨⟨⟨h1, h2⟩, h3⟩, h4⟩, h5⟩, h6⟩, h7⟩, h8⟩, h9⟩, h10⟩, h11⟩, h12⟩, h13⟩, h14⟩, h15⟩, h16⟩, h17⟩, h18⟩, h19⟩, h20⟩, h21⟩, h22⟩, h23⟩, h24⟩, h25⟩, h26⟩, h27⟩, h28⟩, by rw [if_pos h29]; exact h33⟩, h30⟩, h31⟩, h32⟩

theorem op_joined : joinedFacts Tryz.prog 3 Tryz.f3 Rows.opensSpec Rows.opensRow = true := joined_of op_wf laidOut op_maps op_par op_tie op_cst op_st op_ckn op_kn op_inPlace op_unf op_rec op_vars op_m op_if op_mo op_lo op_wk op_vr op_rt op_io op_loo op_pk op_sho op_sh op_me op_li op_mk op_do op_ki op_pin op_ve op_vf

theorem opens_said : Rows.OpensSaid :=
  OpenClaim.holds_of_wide 3 Tryz.f3 rfl rfl rfl rfl rfl rfl rfl ⟨rfl, rfl, rfl, rfl, rfl⟩ rfl rfl rfl rfl rfl op_fn Tryz.func3 op_joined
    (of_decide_eq_true (by kernel_rfl)) (by unfold Func.isWrapper; rw [if_neg (of_decide_eq_false (by kernel_rfl))]; exact ⟨rfl, rfl⟩)
    (fun os started H enc _ => opens_lifted os started H enc)

/-- The tied card of Opens. -/
theorem opens_holds : Rows.OpensCardSaid :=
  Claim7.holds_tied_plain_at .later [] [.data, .data, .data, .handle] true (true, "1e848ab4c43448b03b361a7cb93ee5b0076e0cbf2284902afc8d3cea765f0133") true
    opens_said (fun _ h => by cases h) op_wt (fun _ h => by cases h) opens_row_tie rfl ⟨rfl, rfl⟩ op_main rfl
    (fun f fn hf hfn => by
      obtain rfl : f = 3 := Option.some.inj (op_fn.symm.trans hf) |>.symm
      obtain rfl : fn = Tryz.f3 := (Option.some.inj (Tryz.func3.symm.trans hfn)).symm
      exact ⟨op_look, fun j t ht => by
        rw [Tryz.params3] at ht
        have h3 : t = 22 := by
          rcases j with _ | j
          · simpa using ht.symm
          · simp at ht
        subst h3
        exact op_want⟩)
    op_goes
#print axioms opens_holds
end Go.Proofs.YtdohpenfkdckiaaGreatDoor

