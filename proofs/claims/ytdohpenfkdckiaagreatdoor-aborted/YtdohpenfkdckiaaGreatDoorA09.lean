import Derived.Test.YtdohpenfkdckiaaGreatDoorA02
import Derived.Test.YtdohpenfkdckiaaGreatDoorA03
import Derived.Test.YtdohpenfkdckiaaGreatDoorA04
import Derived.Test.YtdohpenfkdckiaaGreatDoorA05
import Derived.Test.YtdohpenfkdckiaaGreatDoorA06
import Derived.Test.YtdohpenfkdckiaaGreatDoorA07
import Derived.Test.YtdohpenfkdckiaaGreatDoorA08
import Derived.Test.YtdohpenfkdckiaaGreatDoorTie
import Derived.Test.YtdohpenfkdckiaaGreatDoorCards
set_option linter.all false
set_option maxRecDepth 100000
set_option maxHeartbeats 20000000
namespace Go.Proofs.YtdohpenfkdckiaaGreatDoor
open Go.Proofs.Tryz
open Go Go.ChangeShapes Go.WideShapes Go.RowKit Go.Deep
theorem qU7{P:Program}{f:FuncId}{fn:Func}{s:ChangeSpec}{c:OpenClaim}
  (h1:c.wf (OpenSpec.ofChange s)=true) (h2:laidOutB P=true) (h3:mapsRowed P=true) (h4:fn.params.all (P.readableRec ·)=true) (h5:namedTie P c.named s.vars=true)
  (h6:(c.stops == [])=true) (h7:(P.stops == [])=true) (h8:(c.knobs == [])=true) (h9:(P.stopKnobs == [])=true)
  (h10:(c.inPlace == P.inPlace f)=true) (h11:(c.unfollowed == P.unfollowed f)=true) (h12:(c.recurses == P.recurses f)=true) (h13:(c.named == P.varsNamed f)=true)
  (h14:(c.maps == (fn.params.toList++s.plain.varTypes P).any (P.mapsRec ·))=true) (h15:(c.ifaces == (fn.params.toList++s.plain.varTypes P).any (P.ifacesRec ·))=true) (h16:(c.mapsOut == P.mapsAmong fn.resultTypes.toList)=true)
  (h17:(c.loops == (fn.params.toList++s.plain.varTypes P).any (P.loopsFrom ·))=true) (h18:(c.wideKeys == (fn.params.toList++s.plain.varTypes P++fn.resultTypes.toList).any (P.wideKeysFrom ·))=true)
  (h19:s.vars.all (P.varReadable ·)=true) (h20:fn.resultTypes.all (fun t=>P.readableRec t && decide (t<P.types.size))=true) (h21:(c.ifacesOut == fn.resultTypes.toList.any (P.ifacesRec ·))=true) (h22:(c.loopsOut == fn.resultTypes.toList.any (P.loopsFrom ·))=true) (h23:(c.plainKeys == P.plainKeys)=true) (h24:c.shortTexts.isNone=true) (h25:P.stopsHeard=true) (h26:P.mayEnter=true) (h27:(c.lifted == P.liftsFinal)=true) (h28:(P.make == some c.make)=true)
  (h29:c.domain.isEmpty=true) (h33:(c.kinds == [])=true) (h30:(c.pinned == c.pinnedBy)=true)
  (h31:(c.veiled == (fn.params.toList++s.plain.varTypes P++fn.resultTypes.toList).any (P.veiledRec ·))=true) (h32:c.veiledFits P fn.params.toList (fn.params.toList++s.plain.varTypes P++fn.resultTypes.toList)=true):joinedFacts P f fn s c=true:=by
 unfold joinedFacts;simp only[Bool.and_eq_true];exact⟨⟨⟨⟨⟨⟨⟨⟨⟨⟨⟨⟨⟨⟨⟨⟨⟨⟨⟨⟨⟨⟨⟨⟨⟨⟨⟨⟨⟨⟨⟨h1,h2⟩,h3⟩,h4⟩,h5⟩,h6⟩,h7⟩,h8⟩,h9⟩,h10⟩,h11⟩,h12⟩,h13⟩,h14⟩,h15⟩,h16⟩,h17⟩,h18⟩,h19⟩,h20⟩,h21⟩,h22⟩,h23⟩,h24⟩,h25⟩,h26⟩,h27⟩,h28⟩,by rw[if_pos h29];exact h33⟩,h30⟩,h31⟩,h32⟩
theorem zE8:joinedFacts prog 13 f13 Rows.abortedSpec Rows.abortedRow=true:=qU7 zK9 qV0 zJ0 zJ4 zK2 qW4 zK1 qV8 zF6 zC3 zK3 zJ7 zK4 zI8 zB0 zJ3 zG3 zL0 zK7 zJ8 zC7 zI3 zJ6 zK0 zJ9 zJ1 zF9 zJ2 qW8 zF3 zJ5 zK5 zK6
theorem qP8:Rows.AbortedSaid:=
 OpenClaim.holds_of_wide 13 f13 rfl rfl rfl rfl rfl rfl rfl ⟨rfl,rfl,rfl,rfl,rfl⟩ rfl rfl rfl rfl rfl qB6 func13 zE8
  (of_decide_eq_true (by kernel_rfl)) (by unfold Func.isWrapper;rw[if_neg (of_decide_eq_false (by kernel_rfl))];exact⟨rfl,rfl⟩)
  (fun os started H enc _=>qN8 os started H enc)
theorem aborted_holds:Rows.AbortedCardSaid:=
 Claim7.holds_tied_plain_at .later [] [.data,.data,.data,.handle] true (true,"1e848ab4c43448b03b361a7cb93ee5b0076e0cbf2284902afc8d3cea765f0133") true
  qP8 (fun _ h=>by cases h) zL1 (fun _ h=>by cases h) aborted_row_tie rfl ⟨rfl,rfl⟩ zI9 rfl
  (fun f fn hf hfn=>by
   obtain rfl:f=13:=Option.some.inj (qB6.symm.trans hf) |>.symm;obtain rfl:fn=f13:=(Option.some.inj (func13.symm.trans hfn)).symm;exact⟨zI7,fun j t ht=>by
    rw[params13] at ht;have h3:t=3:=by
     rcases j with _|_|j
     ·simpa using ht.symm
     ·simpa using ht.symm
     ·simp at ht
    subst h3;exact zK8⟩)
  qZ4
#print axioms aborted_holds
end Go.Proofs.YtdohpenfkdckiaaGreatDoor
