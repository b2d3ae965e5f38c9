import Derived.Test.YtdohpenfkdckiaaGreatDoorB16
set_option linter.all false
set_option maxRecDepth 100000
set_option maxHeartbeats 20000000
namespace Go.Proofs.YtdohpenfkdckiaaGreatDoor
open Go.Proofs.Tryz
open Go.RowKit
theorem zF6(St:Nat)(s:Sto)(w:World)(hSt:w.heap[St]?=some (ν 1 s))(hwr:s.wr≠0):
  Calls prog 67 #[.pointer (some ⟨St,0,none⟩),.bool true] w fun e w'=>e=qC4 (some 4)∧w'=w:=by
 have hSs:=ζ hSt;have p9:=ξ hSt 9;simp only[ν,zG,zH,zI] at p9;clear hSt;go_enter func67,ntmps67;go_wp2;exact⟨rfl,rfl,rfl,rfl⟩
end Go.Proofs.YtdohpenfkdckiaaGreatDoor
namespace Go.Proofs.YtdohpenfkdckiaaGreatDoor
open Go.Proofs.Tryz
open Go.RowKit
open Go.Maps (Keyed)
theorem qW8(Db St:Nat)(s:Sto)(w:World)(hD:w.heap[Db]?=some (.cells #[.pointer (some ⟨St,0,none⟩)] 102))(hSt:w.heap[St]?=some (ν 0 s))(hpo:s.po=false)(hne:Db≠St)(hwr:s.wr≠0):
  Calls prog 29 #[.pointer (some ⟨Db,0,none⟩),.bool true] w fun e w'=>∃ v,e=.returned (.tuple #[.pointer none,v])∧ErrV w' v (some 4)∧w'.heap[St]?=some (ν 0 s)∧Kp [St] w w':=
 xM8 Db St true s w hD hSt hpo hne fun W hK hS=>zF6 St s W hS hwr
end Go.Proofs.YtdohpenfkdckiaaGreatDoor
namespace Go.Proofs.YtdohpenfkdckiaaGreatDoor
open Go.Proofs.Tryz
open Go.RowKit
theorem zC7(k:ByteArray)(w:World)(h:k.size<1∨8<k.size):
  Calls prog 101 #[.string k] w fun e w'=>e=qC4 (some 1)∧w'=w:=by
 by_cases h1:k.size<1
 ·have hb:(k.size:Int)<1:=by omega
  clear h;go_enter func101,ntmps101;go_wp2;exact⟨rfl,rfl,rfl,rfl⟩
 ·have hb:¬(k.size:Int)<1:=by omega
  have hb8:(8:Int)<(k.size:Int):=by omega
  clear h;go_enter func101,ntmps101;go_wp2;exact⟨rfl,rfl,rfl,rfl⟩
theorem qU7(V:Nat)(h:HL)(rb rs:Int)(hp:h.p=none)(hk:h.key=⟨#[]⟩)(W:World):
  Sem.run prog (Op.equalIn 10000 89 (τ V h) (τ V ⟨⟨#[]⟩,rb,rs,none⟩)) W=.ok (decide (h.b=rb∧h.s=rs)) W:=by
 have heq:∀ W:World,Sem.run prog (Op.equalIn 9998 85 (.pointer none) (.pointer none)) W=.ok true W:=fun W=>zE3 9997 W;have heq2:∀ W:World,Sem.run prog (Op.equalIn 9997 85 (.pointer none) (.pointer none)) W=.ok true W:=fun W=>zE3 9996 W;have hv:=xF8 9998 ⟨V,0,none⟩;have hptr:h.ptr=none:=by simp[HL.ptr,hp]
 rw[τ,τ,hptr,hk,show HL.ptr ⟨⟨#[]⟩,rb,rs,none⟩=none from rfl];go_simp;by_cases h1:h.b=rb<;>by_cases h2:h.s=rs<;>simp[h1,h2]
end Go.Proofs.YtdohpenfkdckiaaGreatDoor
