import Derived.Test.YtdohpenfkdckiaaGreatDoorO11
import Derived.Test.YtdohpenfkdckiaaGreatDoorO12
import Derived.Test.YtdohpenfkdckiaaGreatDoorO13
import Derived.Test.YtdohpenfkdckiaaGreatDoorO14
import Derived.Test.YtdohpenfkdckiaaGreatDoorO15
import Derived.Test.YtdohpenfkdckiaaGreatDoorO16
import Derived.Test.YtdohpenfkdckiaaGreatDoorO17
import Derived.Test.YtdohpenfkdckiaaGreatDoorTie
import Derived.Test.YtdohpenfkdckiaaGreatDoorCards
set_option linter.all false
set_option maxRecDepth 100000
set_option maxHeartbeats 20000000
namespace Go.Proofs.YtdohpenfkdckiaaGreatDoor
open Go.Proofs.Tryz
open Go Go.ChangeShapes Go.WideShapes Go.RowKit Go.Deep
theorem zG9{P:Program}{f:FuncId}{fn:Func}{s:ChangeSpec}{c:OpenClaim}
  (h1:c.wf (OpenSpec.ofChange s)=true) (h2:laidOutB P=true) (h3:mapsRowed P=true) (h4:fn.params.all (P.readableRec ·)=true) (h5:namedTie P c.named s.vars=true)
  (h6:(c.stops == [])=true) (h7:(P.stops == [])=true) (h8:(c.knobs == [])=true) (h9:(P.stopKnobs == [])=true)
  (h10:(c.inPlace == P.inPlace f)=true) (h11:(c.unfollowed == P.unfollowed f)=true) (h12:(c.recurses == P.recurses f)=true) (h13:(c.named == P.varsNamed f)=true)
  (h14:(c.maps == (fn.params.toList++s.plain.varTypes P).any (P.mapsRec ·))=true) (h15:(c.ifaces == (fn.params.toList++s.plain.varTypes P).any (P.ifacesRec ·))=true) (h16:(c.mapsOut == P.mapsAmong fn.resultTypes.toList)=true)
  (h17:(c.loops == (fn.params.toList++s.plain.varTypes P).any (P.loopsFrom ·))=true) (h18:(c.wideKeys == (fn.params.toList++s.plain.varTypes P++fn.resultTypes.toList).any (P.wideKeysFrom ·))=true)
  (h19:s.vars.all (P.varReadable ·)=true) (h20:fn.resultTypes.all (fun t=>P.readableRec t && decide (t<P.types.size))=true) (h21:(c.ifacesOut == fn.resultTypes.toList.any (P.ifacesRec ·))=true) (h22:(c.loopsOut == fn.resultTypes.toList.any (P.loopsFrom ·))=true) (h23:(c.plainKeys == P.plainKeys)=true) (h24:c.shortTexts.isNone=true) (h25:P.stopsHeard=true) (h26:P.mayEnter=true) (h27:(c.lifted == P.liftsFinal)=true) (h28:(P.make == some c.make)=true)
  (h29:c.domain.isEmpty=true) (h33:(c.kinds == [])=true) (h30:(c.pinned == c.pinnedBy)=true)
  (h31:(c.veiled == (fn.params.toList++s.plain.varTypes P++fn.resultTypes.toList).any (P.veiledRec ·))=true) (h32:c.veiledFits P fn.params.toList (fn.params.toList++s.plain.varTypes P++fn.resultTypes.toList)=true):joinedFacts P f fn s c=true:=by
 unfold joinedFacts;simp only[Bool.and_eq_true];exact⟨⟨⟨⟨⟨⟨⟨⟨⟨⟨⟨⟨⟨⟨⟨⟨⟨⟨⟨⟨⟨⟨⟨⟨⟨⟨⟨⟨⟨⟨⟨h1,h2⟩,h3⟩,h4⟩,h5⟩,h6⟩,h7⟩,h8⟩,h9⟩,h10⟩,h11⟩,h12⟩,h13⟩,h14⟩,h15⟩,h16⟩,h17⟩,h18⟩,h19⟩,h20⟩,h21⟩,h22⟩,h23⟩,h24⟩,h25⟩,h26⟩,h27⟩,h28⟩,by rw[if_pos h29];exact h33⟩,h30⟩,h31⟩,h32⟩
theorem zJ7:joinedFacts prog 3 f3 Rows.opensSpec Rows.opensRow=true:=zG9 zM5 qP7 zK6 zL0 zL8 zJ1 zL7 zJ0 zJ9 zJ5 zL9 zL3 zM0 zK4 zJ4 zK9 zK1 zM6 zM3 zL4 zJ6 zK2 zL2 zL6 zL5 zK7 zK0 zK8 zJ2 zJ8 zL1 zM1 zM2
theorem zO0:Rows.OpensSaid:=
 OpenClaim.holds_of_wide 3 f3 rfl rfl rfl rfl rfl rfl rfl ⟨rfl,rfl,rfl,rfl,rfl⟩ rfl rfl rfl rfl rfl qR7 func3 zJ7
  (of_decide_eq_true (by kernel_rfl)) (by unfold Func.isWrapper;rw[if_neg (of_decide_eq_false (by kernel_rfl))];exact⟨rfl,rfl⟩)
  (fun os started H enc _=>zN7 os started H enc)
theorem opens_holds:Rows.OpensCardSaid:=
 Claim7.holds_tied_plain_at .later [] [.data,.data,.data,.handle] true (true,"1e848ab4c43448b03b361a7cb93ee5b0076e0cbf2284902afc8d3cea765f0133") true
  zO0 (fun _ h=>by cases h) zM7 (fun _ h=>by cases h) opens_row_tie rfl ⟨rfl,rfl⟩ zK5 rfl
  (fun f fn hf hfn=>by
   obtain rfl:f=3:=Option.some.inj (qR7.symm.trans hf) |>.symm;obtain rfl:fn=f3:=(Option.some.inj (func3.symm.trans hfn)).symm;exact⟨zK3,fun j t ht=>by
    rw[params3] at ht;have h3:t=22:=by
     rcases j with _|j
     ·simpa using ht.symm
     ·simp at ht
    subst h3;exact zM4⟩)
  zJ3
#print axioms opens_holds
end Go.Proofs.YtdohpenfkdckiaaGreatDoor
