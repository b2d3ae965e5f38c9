import Derived.Test.YtdohpenfkdckiaaGreatDoorJ38
import Derived.Test.YtdohpenfkdckiaaGreatDoorJ39
import Derived.Test.YtdohpenfkdckiaaGreatDoorJ40
import Derived.Test.YtdohpenfkdckiaaGreatDoorJ41
import Derived.Test.YtdohpenfkdckiaaGreatDoorJ42
import Derived.Test.YtdohpenfkdckiaaGreatDoorJ43
import Derived.Test.YtdohpenfkdckiaaGreatDoorJ44
import Derived.Test.YtdohpenfkdckiaaGreatDoorJ45
import Derived.Test.YtdohpenfkdckiaaGreatDoorTie
import Derived.Test.YtdohpenfkdckiaaGreatDoorCards
set_option linter.all false
set_option maxRecDepth 100000
set_option maxHeartbeats 20000000
namespace Go.Proofs.YtdohpenfkdckiaaGreatDoor
open Go.Proofs.Tryz
open Gw Go Go.ChangeShapes Go.WideShapes Go.RowKit Go.Deep
theorem kK0{P:Program}{f:FuncId}{a:Func}{s:ChangeSpec}{c:OpenClaim}
  (b:c.wf (OpenSpec.ofChange s)=true) (o:laidOutB P=true) (B:mapsRowed P=true) (G:a.params.all (P.readableRec ·)=true) (H:namedTie P c.named s.vars=true)
  (I:(c.stops == [])=true) (J:(P.stops == [])=true) (K:(c.knobs == [])=true) (L:(P.stopKnobs == [])=true)
  (d:(c.inPlace == P.inPlace f)=true) (e:(c.unfollowed == P.unfollowed f)=true) (g:(c.recurses == P.recurses f)=true) (h:(c.named == P.varsNamed f)=true)
  (i:(c.maps == (a.params.toList++s.plain.varTypes P).any (P.mapsRec ·))=true) (j:(c.ifaces == (a.params.toList++s.plain.varTypes P).any (P.ifacesRec ·))=true) (k:(c.mapsOut == P.mapsAmong a.resultTypes.toList)=true)
  (l:(c.loops == (a.params.toList++s.plain.varTypes P).any (P.loopsFrom ·))=true) (m:(c.wideKeys == (a.params.toList++s.plain.varTypes P++a.resultTypes.toList).any (P.wideKeysFrom ·))=true)
  (n:s.vars.all (P.varReadable ·)=true) (p:a.resultTypes.all (λt=>P.readableRec t && decide (t<P.types.size))=true) (q:(c.ifacesOut == a.resultTypes.toList.any (P.ifacesRec ·))=true) (r:(c.loopsOut == a.resultTypes.toList.any (P.loopsFrom ·))=true) (u:(c.plainKeys == P.plainKeys)=true) (v:c.shortTexts.isNone=true) (w:P.stopsHeard=true) (x:P.mayEnter=true) (y:(c.lifted == P.liftsFinal)=true) (z:(P.make == some c.make)=true)
  (A:c.domain.isEmpty=true) (F:(c.kinds == [])=true) (C:(c.pinned == c.pinnedBy)=true)
  (D:(c.veiled == (a.params.toList++s.plain.varTypes P++a.resultTypes.toList).any (P.veiledRec ·))=true) (E:c.veiledFits P a.params.toList (a.params.toList++s.plain.varTypes P++a.resultTypes.toList)=true):joinedFacts P f a s c=true:=by
 unfold joinedFacts;simp only[Bool.and_eq_true];exact⟨⟨⟨⟨⟨⟨⟨⟨⟨⟨⟨⟨⟨⟨⟨⟨⟨⟨⟨⟨⟨⟨⟨⟨⟨⟨⟨⟨⟨⟨⟨b,o⟩,B⟩,G⟩,H⟩,I⟩,J⟩,K⟩,L⟩,d⟩,e⟩,g⟩,h⟩,i⟩,j⟩,k⟩,l⟩,m⟩,n⟩,p⟩,q⟩,r⟩,u⟩,v⟩,w⟩,x⟩,y⟩,z⟩,by rw[if_pos A];exact F⟩,C⟩,D⟩,E⟩
theorem kG3:joinedFacts prog 9 f9 Rows.spoilsSpec Rows.spoilsRow=true:=kK0 kJ1 xG6 kH2 kH6 kI4 kF7 kI3 kF6 kG5 kG1 kI5 kH9 kI6 kH0 kG0 kH5 kG7 kJ2 kI9 kI0 kG2 kG8 kH8 kI2 kI1 kH3 kG6 kH4 kF8 kG4 kH7 kI7 kI8
theorem kK4:Rows.SpoilsSaid:=
 OpenClaim.holds_of_wide 9 f9 rfl rfl rfl rfl rfl rfl rfl ⟨rfl,rfl,rfl,rfl,rfl⟩ rfl rfl rfl rfl rfl xR0 func9 kG3
  (of_decide_eq_true kR) (by unfold Func.isWrapper;rw[if_neg (of_decide_eq_false kR)];exact⟨rfl,rfl⟩)
  (λos a H enc _=>kK2 os a H enc)
theorem spoils_holds:Rows.SpoilsCardSaid:=
 Claim7.holds_tied_plain_at .later [] [.data,.data,.data,.handle] true (true,"1e848ab4c43448b03b361a7cb93ee5b0076e0cbf2284902afc8d3cea765f0133") true
  kK4 (λ_ h=>by cases h) kJ3 (λ_ h=>by cases h) spoils_row_tie rfl ⟨rfl,rfl⟩ kH1 rfl
  (λf b d e=>by
   obtain rfl:f=9:=Option.some.inj (xR0.symm.trans d) |>.symm;obtain rfl:b=f9:=(Option.some.inj (func9.symm.trans e)).symm;exact⟨kG9,λj t a=>by
    rw[params9] at a;have c:t=22:=by
     rcases j with _|j
     .simpa using a.symm
     .simp at a
    subst c;exact kJ0⟩)
  kF9
#print axioms spoils_holds
end Go.Proofs.YtdohpenfkdckiaaGreatDoor
