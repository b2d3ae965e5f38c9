import Derived.Test.YtdohpenfkdckiaaGreatDoorJ11
set_option linter.all false
set_option maxRecDepth 100000
set_option maxHeartbeats 0
namespace Go.Proofs.YtdohpenfkdckiaaGreatDoor
open Go.Proofs.Tryz Go.RowKit
namespace Gw
open Go Go.ChangeShapes Go.WideShapes Go.RowKit Go.Deep
def SA:(Rows.allRow.inPlace == prog.inPlace 10)=true:=kR
def S1:(Rows.allRow.unfollowed == prog.unfollowed 10)=true:=kR
def SU:(Rows.allRow.recurses == prog.recurses 10)=true:=kR
