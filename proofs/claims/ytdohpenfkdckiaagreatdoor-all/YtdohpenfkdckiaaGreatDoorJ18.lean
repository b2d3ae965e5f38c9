import Derived.Test.YtdohpenfkdckiaaGreatDoorJ11
import Derived.SevenTiedAt
set_option linter.all false
set_option maxRecDepth 100000
set_option maxHeartbeats 0
namespace Go.Proofs.YtdohpenfkdckiaaGreatDoor
open Go.Proofs.Tryz Go.RowKit
namespace Gw
open Go Go.ChangeShapes Go.WideShapes Go.RowKit Go.Deep
def S2:(Rows.allRow.named == prog.varsNamed 10)=true:=kR
def Ta:Rows.allRow.wfByText (OpenSpec.ofChange Rows.allSpec)=true:=kR
def SL:prog.mainIs=some (true,("1e848ab4c43448b03b361a7cb93ee5b0076e0cbf2284902afc8d3cea765f0133":String).toList):=kR
def SJ:true=prog.looks []:=kR
def S7:prog.wantsStandIn 22=false:=kR
def Sv:false=Rows.allRow.goesBy prog:=kR
