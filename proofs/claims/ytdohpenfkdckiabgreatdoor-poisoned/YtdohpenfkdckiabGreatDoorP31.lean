import Derived.Test.YtdohpenfkdckiabGreatDoorP24
import Derived.Test.YtdohpenfkdckiabGreatDoorP25
import Derived.Test.YtdohpenfkdckiabGreatDoorP26
import Derived.Test.YtdohpenfkdckiabGreatDoorP27
import Derived.Test.YtdohpenfkdckiabGreatDoorP28
import Derived.Test.YtdohpenfkdckiabGreatDoorP29
import Derived.Test.YtdohpenfkdckiabGreatDoorP30
import Derived.Test.YtdohpenfkdckiabGreatDoorTie
import Derived.Test.YtdohpenfkdckiabGreatDoorCards
set_option linter.all false
set_option maxRecDepth 100000
set_option maxHeartbeats 20000000
namespace Go.Proofs.YtdohpenfkdckiabGreatDoor
open Go.Proofs.Tryz
open Go Go.ChangeShapes Go.WideShapes Go.RowKit Go.Deep
theorem jB4{P:Program}{f:FuncId}{fn:Func}{s:ChangeSpec}{c:OpenClaim}
  (h1:c.wf (OpenSpec.ofChange s)=true) (h2:laidOutB P=true) (h3:mapsRowed P=true) (h4:fn.params.all (P.readableRec ·)=true) (h5:namedTie P c.named s.vars=true)
  (h6:(c.stops == [])=true) (h7:(P.stops == [])=true) (h8:(c.knobs == [])=true) (h9:(P.stopKnobs == [])=true)
  (h10:(c.inPlace == P.inPlace f)=true) (h11:(c.unfollowed == P.unfollowed f)=true) (h12:(c.recurses == P.recurses f)=true) (h13:(c.named == P.varsNamed f)=true)
  (h14:(c.maps == (fn.params.toList++s.plain.varTypes P).any (P.mapsRec ·))=true) (h15:(c.ifaces == (fn.params.toList++s.plain.varTypes P).any (P.ifacesRec ·))=true) (h16:(c.mapsOut == P.mapsAmong fn.resultTypes.toList)=true)
  (h17:(c.loops == (fn.params.toList++s.plain.varTypes P).any (P.loopsFrom ·))=true) (h18:(c.wideKeys == (fn.params.toList++s.plain.varTypes P++fn.resultTypes.toList).any (P.wideKeysFrom ·))=true)
  (h19:s.vars.all (P.varReadable ·)=true) (h20:fn.resultTypes.all (fun t=>P.readableRec t && decide (t<P.types.size))=true) (h21:(c.ifacesOut == fn.resultTypes.toList.any (P.ifacesRec ·))=true) (h22:(c.loopsOut == fn.resultTypes.toList.any (P.loopsFrom ·))=true) (h23:(c.plainKeys == P.plainKeys)=true) (h24:c.shortTexts.isNone=true) (h25:P.stopsHeard=true) (h26:P.mayEnter=true) (h27:(c.lifted == P.liftsFinal)=true) (h28:(P.make == some c.make)=true)
  (h29:c.domain.isEmpty=true) (h33:(c.kinds == [])=true) (h30:(c.pinned == c.pinnedBy)=true)
  (h31:(c.veiled == (fn.params.toList++s.plain.varTypes P++fn.resultTypes.toList).any (P.veiledRec ·))=true) (h32:c.veiledFits P fn.params.toList (fn.params.toList++s.plain.varTypes P++fn.resultTypes.toList)=true):joinedFacts P f fn s c=true:=by
 unfold joinedFacts;simp only[Bool.and_eq_true];exact⟨⟨⟨⟨⟨⟨⟨⟨⟨⟨⟨⟨⟨⟨⟨⟨⟨⟨⟨⟨⟨⟨⟨⟨⟨⟨⟨⟨⟨⟨⟨h1,h2⟩,h3⟩,h4⟩,h5⟩,h6⟩,h7⟩,h8⟩,h9⟩,h10⟩,h11⟩,h12⟩,h13⟩,h14⟩,h15⟩,h16⟩,h17⟩,h18⟩,h19⟩,h20⟩,h21⟩,h22⟩,h23⟩,h24⟩,h25⟩,h26⟩,h27⟩,h28⟩,by rw[if_pos h29];exact h33⟩,h30⟩,h31⟩,h32⟩
theorem jK8:joinedFacts prog 4 f4 Rows.poisonedSpec Rows.poisonedRow=true:=jB4 jN6 zY8 jL7 jM1 jM9 jK2 jM8 jK1 jL0 jK6 jN0 jM4 jN1 jL5 jK5 jM0 jL2 jN7 jN4 jM5 jK7 jL3 jM3 jM7 jM6 jL8 jL1 jL9 jK3 jK9 jM2 jN2 jN3
theorem jP8:Rows.PoisonedSaid:=
 OpenClaim.holds_of_wide 4 f4 rfl rfl rfl rfl rfl rfl rfl ⟨rfl,rfl,rfl,rfl,rfl⟩ rfl rfl rfl rfl rfl xD3 func4 jK8
  (of_decide_eq_true (by kernel_rfl)) (by unfold Func.isWrapper;rw[if_neg (of_decide_eq_false (by kernel_rfl))];exact⟨rfl,rfl⟩)
  (fun os started H enc _=>jP6 os started H enc)
theorem poisoned_holds:Rows.PoisonedCardSaid:=
 Claim7.holds_tied_plain_at .later [] [.data,.data,.data,.handle] true (true,"6e517f5928bf3c87a01427508babdcd35d5f63ba92bbd0c0c9238805cb3383da") true
  jP8 (fun _ h=>by cases h) jN8 (fun _ h=>by cases h) poisoned_row_tie rfl ⟨rfl,rfl⟩ jL6 rfl
  (fun f fn hf hfn=>by
   obtain rfl:f=4:=Option.some.inj (xD3.symm.trans hf) |>.symm;obtain rfl:fn=f4:=(Option.some.inj (func4.symm.trans hfn)).symm;exact⟨jL4,fun j t ht=>by
    rw[params4] at ht;rcases j with _|_|_|_|_|j
    ·obtain rfl:t=3:=by simpa using ht.symm
     exact zC1
    ·obtain rfl:t=3:=by simpa using ht.symm
     exact zC1
    ·obtain rfl:t=3:=by simpa using ht.symm
     exact zC1
    ·obtain rfl:t=3:=by simpa using ht.symm
     exact zC1
    ·obtain rfl:t=22:=by simpa using ht.symm
     exact jN5
    ·simp at ht⟩)
  jK4
#print axioms poisoned_holds
end Go.Proofs.YtdohpenfkdckiabGreatDoor
