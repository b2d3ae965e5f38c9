import Derived.Test.YtdohpenfkdckiaaGreatDoorD21
import Derived.Test.YtdohpenfkdckiaaGreatDoorD22
import Derived.Test.YtdohpenfkdckiaaGreatDoorD23
import Derived.Test.YtdohpenfkdckiaaGreatDoorD24
import Derived.Test.YtdohpenfkdckiaaGreatDoorD25
import Derived.Test.YtdohpenfkdckiaaGreatDoorD26
import Derived.Test.YtdohpenfkdckiaaGreatDoorD27
import Derived.Test.YtdohpenfkdckiaaGreatDoorTie
import Derived.Test.YtdohpenfkdckiaaGreatDoorCards
set_option linter.all false
set_option maxRecDepth 100000
set_option maxHeartbeats 20000000
namespace Go.Proofs.YtdohpenfkdckiaaGreatDoor
open Go.Proofs.Tryz
open Go Go.ChangeShapes Go.WideShapes Go.RowKit Go.Deep
theorem xP7{P:Program}{f:FuncId}{fn:Func}{s:ChangeSpec}{c:OpenClaim}
  (h1:c.wf (OpenSpec.ofChange s)=true) (h2:laidOutB P=true) (h3:mapsRowed P=true) (h4:fn.params.all (P.readableRec ·)=true) (h5:namedTie P c.named s.vars=true)
  (h6:(c.stops == [])=true) (h7:(P.stops == [])=true) (h8:(c.knobs == [])=true) (h9:(P.stopKnobs == [])=true)
  (h10:(c.inPlace == P.inPlace f)=true) (h11:(c.unfollowed == P.unfollowed f)=true) (h12:(c.recurses == P.recurses f)=true) (h13:(c.named == P.varsNamed f)=true)
  (h14:(c.maps == (fn.params.toList++s.plain.varTypes P).any (P.mapsRec ·))=true) (h15:(c.ifaces == (fn.params.toList++s.plain.varTypes P).any (P.ifacesRec ·))=true) (h16:(c.mapsOut == P.mapsAmong fn.resultTypes.toList)=true)
  (h17:(c.loops == (fn.params.toList++s.plain.varTypes P).any (P.loopsFrom ·))=true) (h18:(c.wideKeys == (fn.params.toList++s.plain.varTypes P++fn.resultTypes.toList).any (P.wideKeysFrom ·))=true)
  (h19:s.vars.all (P.varReadable ·)=true) (h20:fn.resultTypes.all (fun t=>P.readableRec t && decide (t<P.types.size))=true) (h21:(c.ifacesOut == fn.resultTypes.toList.any (P.ifacesRec ·))=true) (h22:(c.loopsOut == fn.resultTypes.toList.any (P.loopsFrom ·))=true) (h23:(c.plainKeys == P.plainKeys)=true) (h24:c.shortTexts.isNone=true) (h25:P.stopsHeard=true) (h26:P.mayEnter=true) (h27:(c.lifted == P.liftsFinal)=true) (h28:(P.make == some c.make)=true)
  (h29:c.domain.isEmpty=true) (h33:(c.kinds == [])=true) (h30:(c.pinned == c.pinnedBy)=true)
  (h31:(c.veiled == (fn.params.toList++s.plain.varTypes P++fn.resultTypes.toList).any (P.veiledRec ·))=true) (h32:c.veiledFits P fn.params.toList (fn.params.toList++s.plain.varTypes P++fn.resultTypes.toList)=true):joinedFacts P f fn s c=true:=by
 unfold joinedFacts;simp only[Bool.and_eq_true];exact⟨⟨⟨⟨⟨⟨⟨⟨⟨⟨⟨⟨⟨⟨⟨⟨⟨⟨⟨⟨⟨⟨⟨⟨⟨⟨⟨⟨⟨⟨⟨h1,h2⟩,h3⟩,h4⟩,h5⟩,h6⟩,h7⟩,h8⟩,h9⟩,h10⟩,h11⟩,h12⟩,h13⟩,h14⟩,h15⟩,h16⟩,h17⟩,h18⟩,h19⟩,h20⟩,h21⟩,h22⟩,h23⟩,h24⟩,h25⟩,h26⟩,h27⟩,h28⟩,by rw[if_pos h29];exact h33⟩,h30⟩,h31⟩,h32⟩
theorem xZ0:joinedFacts prog 14 f14 Rows.durableSpec Rows.durableRow=true:=xP7 jB8 zR0 xZ9 jA3 jB1 xY4 jB0 xY3 xZ2 xY8 jB2 jA6 jB3 xZ7 xY7 jA2 xZ4 jB9 jB6 jA7 xY9 xZ5 jA5 jA9 jA8 jA0 xZ3 jA1 xY5 xZ1 jA4 jB4 jB5
theorem xG6:Rows.DurableSaid:=
 OpenClaim.holds_of_wide 14 f14 rfl rfl rfl rfl rfl rfl rfl ⟨rfl,rfl,rfl,rfl,rfl⟩ rfl rfl rfl rfl rfl zV1 func14 xZ0
  (of_decide_eq_true (by kernel_rfl)) (by unfold Func.isWrapper;rw[if_neg (of_decide_eq_false (by kernel_rfl))];exact⟨rfl,rfl⟩)
  (fun os started H enc _=>xG4 os started H enc)
theorem durable_holds:Rows.DurableCardSaid:=
 Claim7.holds_tied_plain_at .later [] [.data,.data,.data] true (true,"1e848ab4c43448b03b361a7cb93ee5b0076e0cbf2284902afc8d3cea765f0133") true
  xG6 (fun _ h=>by cases h) jC0 (fun _ h=>by cases h) durable_row_tie rfl ⟨rfl,rfl⟩ xZ8 rfl
  (fun f fn hf hfn=>by
   obtain rfl:f=14:=Option.some.inj (zV1.symm.trans hf) |>.symm;obtain rfl:fn=f14:=(Option.some.inj (func14.symm.trans hfn)).symm;exact⟨xZ6,fun j t ht=>by
    rw[params14] at ht;rcases j with _|_|_|j
    ·obtain rfl:t=3:=by simpa using ht.symm
     exact zV2
    ·obtain rfl:t=3:=by simpa using ht.symm
     exact zV2
    ·obtain rfl:t=24:=by simpa using ht.symm
     exact jB7
    ·simp at ht⟩)
  xY6
#print axioms durable_holds
end Go.Proofs.YtdohpenfkdckiaaGreatDoor
