import Derived.Test.YtdohpenfkdckiaaGreatDoorJ16
import Derived.Test.YtdohpenfkdckiaaGreatDoorJ17
import Derived.Test.YtdohpenfkdckiaaGreatDoorJ18
import Derived.Test.YtdohpenfkdckiaaGreatDoorJ19
import Derived.Test.YtdohpenfkdckiaaGreatDoorTie
import Derived.Test.YtdohpenfkdckiaaGreatDoorCards
set_option linter.all false
set_option maxRecDepth 100000
set_option maxHeartbeats 0
namespace Go.Proofs.YtdohpenfkdckiaaGreatDoor
open Go.Proofs.Tryz Go.RowKit
section
open Gw Go Go.ChangeShapes Go.WideShapes Go.RowKit Go.Deep
def Th{P:Program}{f:FuncId}{a:Func}{s:ChangeSpec}{c:OpenClaim} (b:c.wf (OpenSpec.ofChange s)=true) (o:laidOutB P=true) (B:mapsRowed P=true) (F:a.params.all (P.readableRec ·)=true) (G:namedTie P c.named s.vars=true) (H:(c.stops == [])=true) (I:(P.stops == [])=true) (K:(c.knobs == [])=true) (L:(P.stopKnobs == [])=true) (d:(c.inPlace == P.inPlace f)=true) (e:(c.unfollowed == P.unfollowed f)=true) (g:(c.recurses == P.recurses f)=true) (h:(c.named == P.varsNamed f)=true) (i:(c.maps == (a.params.toList++s.plain.varTypes P).any (P.mapsRec ·))=true) (j:(c.ifaces == (a.params.toList++s.plain.varTypes P).any (P.ifacesRec ·))=true) (k:(c.mapsOut == P.mapsAmong a.resultTypes.toList)=true) (l:(c.loops == (a.params.toList++s.plain.varTypes P).any (P.loopsFrom ·))=true) (m:(c.wideKeys == (a.params.toList++s.plain.varTypes P++a.resultTypes.toList).any (P.wideKeysFrom ·))=true) (n:s.vars.all (P.varReadable ·)=true) (p:a.resultTypes.all (λt=>P.readableRec t && decide (t<P.types.size))=true) (q:(c.ifacesOut == a.resultTypes.toList.any (P.ifacesRec ·))=true) (r:(c.loopsOut == a.resultTypes.toList.any (P.loopsFrom ·))=true) (u:(c.plainKeys == P.plainKeys)=true) (v:c.shortTexts.isNone=true) (w:P.stopsHeard=true) (x:P.mayEnter=true) (y:(c.lifted == P.liftsFinal)=true) (z:(P.make == some c.make)=true) (A:c.domain.isEmpty=true) (M:(c.kinds == [])=true) (C:(c.pinned == c.pinnedBy)=true) (D:(c.veiled == (a.params.toList++s.plain.varTypes P++a.resultTypes.toList).any (P.veiledRec ·))=true) (E:c.veiledFits P a.params.toList (a.params.toList++s.plain.varTypes P++a.resultTypes.toList)=true):joinedFacts P f a s c=true:=by unfold joinedFacts;simp only[Bool.and_eq_true];exact⟨⟨⟨⟨⟨⟨⟨⟨⟨⟨⟨⟨⟨⟨⟨⟨⟨⟨⟨⟨⟨⟨⟨⟨⟨⟨⟨⟨⟨⟨⟨b,o⟩,B⟩,F⟩,G⟩,H⟩,I⟩,K⟩,L⟩,d⟩,e⟩,g⟩,h⟩,i⟩,j⟩,k⟩,l⟩,m⟩,n⟩,p⟩,q⟩,r⟩,u⟩,v⟩,w⟩,x⟩,y⟩,z⟩,by rwa[aR A]⟩,C⟩,D⟩,E⟩
def SC:joinedFacts prog 10 f10 Rows.allSpec Rows.allRow=true:=Th S8 Pm SM SQ S0 Ss SZ Sr SE SA S1 SU S2 SK Sw SP SH S9 S6 SV SB SI SS SX SW SN SF SO Su SD SR S4 S5
def Tk:Rows.AllSaid:=
 OpenClaim.holds_of_wide 10 f10 rfl rfl rfl rfl rfl rfl rfl ⟨rfl,rfl,rfl,rfl,rfl⟩ rfl rfl rfl rfl rfl Nn func10 SC
  (eC kR) (by unfold Func.isWrapper;rw[aO<|of_decide_eq_false kR];exact⟨rfl,rfl⟩)
  (λa b H enc _=>Tj a b H enc)
theorem all_holds:Rows.AllCardSaid:=
 Claim7.holds_tied_plain_at .later [] [.data,.data,.data,.handle] true (true,"1e848ab4c43448b03b361a7cb93ee5b0076e0cbf2284902afc8d3cea765f0133") true
  Tk (λ_ h=>by cases h) Ta (λ_ h=>by cases h) all_row_tie rfl ⟨rfl,rfl⟩ SL rfl
  (λf b d e=>by
   obtain rfl:f=10:=cG (Nn.symm.trans d) |>.symm;obtain rfl:b=f10:=(cG<|func10.symm.trans e).symm;exact⟨SJ,λj t a=>by
    rw[params10]at a;have c:t=22:=by
     rcases j with _|j
     .simpa using a.symm
     .simp at a
    subst c;exact S7⟩)
  Sv
#print axioms all_holds
