import Derived.Test.YtdohpenfkdckiaaGreatDoorJ16
import Derived.Test.YtdohpenfkdckiaaGreatDoorJ17
import Derived.Test.YtdohpenfkdckiaaGreatDoorJ18
import Derived.Test.YtdohpenfkdckiaaGreatDoorJ19
import Derived.Test.YtdohpenfkdckiaaGreatDoorJ20
import Derived.Test.YtdohpenfkdckiaaGreatDoorJ21
import Derived.Test.YtdohpenfkdckiaaGreatDoorJ22
import Derived.Test.YtdohpenfkdckiaaGreatDoorJ23
import Derived.Test.YtdohpenfkdckiaaGreatDoorTie
import Derived.Test.YtdohpenfkdckiaaGreatDoorCards
set_option linter.all false
set_option maxRecDepth 100000
set_option maxHeartbeats 0
namespace Go.Proofs.YtdohpenfkdckiaaGreatDoor
open Go.Proofs.Tryz Go.RowKit
section
open Gw Go Go.ChangeShapes Go.WideShapes Go.RowKit Go.Deep
def TP{P:Program}{f:FuncId}{fn:Func}{s:ChangeSpec}{c:OpenClaim}
  (h1:c.wf (OpenSpec.ofChange s)=true) (h2:laidOutB P=true) (h3:mapsRowed P=true) (h4:fn.params.all (P.readableRec ·)=true) (h5:namedTie P c.named s.vars=true)
  (h6:(c.stops == [])=true) (h7:(P.stops == [])=true) (h8:(c.knobs == [])=true) (h9:(P.stopKnobs == [])=true)
  (h10:(c.inPlace == P.inPlace f)=true) (h11:(c.unfollowed == P.unfollowed f)=true) (h12:(c.recurses == P.recurses f)=true) (h13:(c.named == P.varsNamed f)=true)
  (h14:(c.maps == (fn.params.toList++s.plain.varTypes P).any (P.mapsRec ·))=true) (h15:(c.ifaces == (fn.params.toList++s.plain.varTypes P).any (P.ifacesRec ·))=true) (h16:(c.mapsOut == P.mapsAmong fn.resultTypes.toList)=true)
  (h17:(c.loops == (fn.params.toList++s.plain.varTypes P).any (P.loopsFrom ·))=true) (h18:(c.wideKeys == (fn.params.toList++s.plain.varTypes P++fn.resultTypes.toList).any (P.wideKeysFrom ·))=true)
  (h19:s.vars.all (P.varReadable ·)=true) (h20:fn.resultTypes.all (fun t=>P.readableRec t && decide (t<P.types.size))=true) (h21:(c.ifacesOut == fn.resultTypes.toList.any (P.ifacesRec ·))=true) (h22:(c.loopsOut == fn.resultTypes.toList.any (P.loopsFrom ·))=true) (h23:(c.plainKeys == P.plainKeys)=true) (h24:c.shortTexts.isNone=true) (h25:P.stopsHeard=true) (h26:P.mayEnter=true) (h27:(c.lifted == P.liftsFinal)=true) (h28:(P.make == some c.make)=true)
  (h29:c.domain.isEmpty=true) (h33:(c.kinds == [])=true) (h30:(c.pinned == c.pinnedBy)=true)
  (h31:(c.veiled == (fn.params.toList++s.plain.varTypes P++fn.resultTypes.toList).any (P.veiledRec ·))=true) (h32:c.veiledFits P fn.params.toList (fn.params.toList++s.plain.varTypes P++fn.resultTypes.toList)=true):joinedFacts P f fn s c=true:=by
 unfold joinedFacts;simp only[Bool.and_eq_true];exact⟨⟨⟨⟨⟨⟨⟨⟨⟨⟨⟨⟨⟨⟨⟨⟨⟨⟨⟨⟨⟨⟨⟨⟨⟨⟨⟨⟨⟨⟨⟨h1,h2⟩,h3⟩,h4⟩,h5⟩,h6⟩,h7⟩,h8⟩,h9⟩,h10⟩,h11⟩,h12⟩,h13⟩,h14⟩,h15⟩,h16⟩,h17⟩,h18⟩,h19⟩,h20⟩,h21⟩,h22⟩,h23⟩,h24⟩,h25⟩,h26⟩,h27⟩,h28⟩,by rw[if_pos h29];exact h33⟩,h30⟩,h31⟩,h32⟩
def TO:joinedFacts prog 8 f8 Rows.faultsSpec Rows.faultsRow=true:=TP Uy NW Ua Uf Uo TH Un TE TR TM Uq Ui Ur TY TL Ud TV UA Uw Uj TN TW Uh Um Ul Ub TT Uc TI TQ Ug Ut Uv
def Uk:Rows.FaultsSaid:=
 OpenClaim.holds_of_wide 8 f8 rfl rfl rfl rfl rfl rfl rfl ⟨rfl,rfl,rfl,rfl,rfl⟩ rfl rfl rfl rfl rfl MO func8 TO
  (of_decide_eq_true (by kernel_rfl)) (by unfold Func.isWrapper;rw[if_neg (of_decide_eq_false (by kernel_rfl))];exact⟨rfl,rfl⟩)
  (fun os started H enc _=>TU os started H enc)
theorem faults_holds:Rows.FaultsCardSaid:=
 Claim7.holds_tied_plain_at .later [] [.data,.data,.data,.handle] true (true,"1e848ab4c43448b03b361a7cb93ee5b0076e0cbf2284902afc8d3cea765f0133") true
  Uk (fun _ h=>by cases h) UB (fun _ h=>by cases h) faults_row_tie rfl ⟨rfl,rfl⟩ TZ rfl
  (fun f fn hf hfn=>by
   obtain rfl:f=8:=Option.some.inj (MO.symm.trans hf) |>.symm;obtain rfl:fn=f8:=(Option.some.inj (func8.symm.trans hfn)).symm;exact⟨TX,fun j t ht=>by
    rw[params8]at ht;have h3:t=22:=by
     rcases j with _|j
     ·simpa using ht.symm
     ·simp at ht
    subst h3;exact Ux⟩)
  TJ
#print axioms faults_holds
end
end Go.Proofs.YtdohpenfkdckiaaGreatDoor
