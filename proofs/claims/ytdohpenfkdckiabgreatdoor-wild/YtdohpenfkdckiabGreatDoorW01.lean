import Derived.Test.YtdohpenfkdckiabGreatDoorB09
set_option linter.all false
set_option maxRecDepth 100000
set_option maxHeartbeats 20000000
namespace Go.Proofs.YtdohpenfkdckiabGreatDoor
open Go.Proofs.Tryz
open Go.RowKit
variable {κ:Nat}
theorem qK0(A n C:Nat)(cache:Value)(calls writes:Int)(w:World)(h:w.heap[A]?=some (χ κ n C cache calls writes))(hb:n<8∨400<n):
  Calls prog 72 #[.iface 23 (.pointer (some ⟨A,0,none⟩))] w fun e w'=>e=.panicked [{ v:=.iface 162 (.agg #[.iface 46 (.int .i64 10)]),recovered:=false }]∧Kp [] w w':=by
 go_enter func72,ntmps72;go_wp2_with fail;refine (xL7 A n C cache calls writes _ h).mono ?_;rintro e w1 ⟨rfl,hK1⟩;rcases hb with hb|hb
 ·have hd:decide ((n:Int)<8)=true:=by simp;omega
  go_wp2;exact⟨rfl,rfl,rfl,hK1⟩
 ·have hd:decide ((n:Int)<8)=false:=by simp;omega
  have hd2:decide ((400:Int)<(n:Int))=true:=by simp;omega
  go_wp2;exact⟨rfl,rfl,rfl,hK1⟩
theorem qG8(f:Nat)(cap:Array Value)(call:ByteArray)(k:Int)(w:World)(hcf:∀ W:World,Sem.run prog (callFunc f cap) W=.ok (.enter f cap) W)
  (S:List Nat) (hw:Calls prog f cap ((w.alloc (.cells #[.string call] 9)).alloc (.cells #[.nilIface] 35)) fun e w'=>e=.panicked [{ v:=.iface 162 (.agg #[.iface 46 (.int .i64 k)]),recovered:=false }]∧Kp S ((w.alloc (.cells #[.string call] 9)).alloc (.cells #[.nilIface] 35)) w')
  (hS:∀ i,i∈S→i<w.heap.size):
  Calls prog 70 #[.string call,.func (.func f) #[] cap] w fun e w'=>∃ F,e=.returned (.iface 180 (.pointer (some ⟨F,0,none⟩)))∧w.heap.size≤F∧w'.heap[F]?=some (.cells #[.string call,.iface 46 (.int .i64 k)] 183)∧Kp S w w':=by
 have hmf:=zM;have HW:=zh hw;clear hw;have HS:=zh hS;clear hS
 go_enter_defers func70,ntmps70
 go_wp2_with fail;refine (show Calls _ _ _ _ _ from HW.out).mono ?_;rintro e w1 ⟨rfl,hK1⟩;have hE:w1.heap[w.heap.size+1]?=some (.cells #[.nilIface] 35):=hK1.heap (by simpa using μ (w.alloc (.cells #[.string call] 9)) (.cells #[.nilIface] 35)) (fun h=>by have:=HS.out _ h;omega);have hB:w1.heap[w.heap.size]?=some (.cells #[.string call] 9):=hK1.heap (θ _ (μ _ _)) (fun h=>by have:=HS.out _ h;omega);have hK1':Kp S w w1:=(((Kp.refl S w).alloc _).alloc _).trans hK1 (fun i h _=>h);have hs1:=hK1'.size;clear hK1;go_wp2;refine leaves_cons (f:=108) (args:=#[.pointer (some ⟨w.heap.size,0,none⟩),.pointer (some ⟨w.heap.size+1,0,none⟩)]) (by simp) (by simp[go_sem]) ?_;refine (zG7 w.heap.size (w.heap.size+1) k call _ hB (by omega) hE).mono ?_;rintro e u' w2 ⟨rfl,rfl,F,hF,hF2,hE2,hK2⟩;have e0:=ξ hE2 0;simp at e0;simp[Leaves,settle,results,results70,go_sem,e0];exact⟨by omega,hF2,hK1'.trans hK2 (fun i hi hlt=>by simp at hi;omega)⟩
variable {κ:Nat}
theorem zA4(D X A n C:Nat)(cache:Value)(calls writes:Int)(w:World)(hD:w.heap[D]?=some (.cells #[.iface 23 (.pointer (some ⟨A,0,none⟩))] 129))(h:w.heap[A]?=some (χ κ n C cache calls writes))(hb:n<8∨400<n):
  Calls prog 71 #[.pointer (some ⟨D,0,none⟩),.pointer (some ⟨X,0,none⟩)] w fun e w'=>e=.panicked [{ v:=.iface 162 (.agg #[.iface 46 (.int .i64 10)]),recovered:=false }]∧Kp [] w w':=by
 have c0:=ξ hD 0;simp at c0;go_enter func71,ntmps71;go_wp2_with fail;refine (qK0 A n C cache calls writes _ h hb).mono ?_;rintro e w1 ⟨rfl,hK1⟩;go_wp2;exact⟨rfl,rfl,hK1⟩
variable {κ:Nat}
theorem zB6(A n C:Nat)(cache:Value)(calls writes:Int)(w:World)(h:w.heap[A]?=some (χ κ n C cache calls writes))(hb:n<8∨400<n):
  Calls prog 16 #[.pointer (some ⟨A,0,none⟩)] w fun e w'=>∃ F call,e=.returned (.tuple #[.pointer none,.iface 180 (.pointer (some ⟨F,0,none⟩))])∧w.heap.size≤F∧w'.heap[F]?=some (.cells #[.string call,.iface 46 (.int .i64 10)] 183)∧Kp [] w w':=by
 have hA:=ζ h;have HB:=zh hb;clear hb;have hmf:=zM;go_enter func16,ntmps16
 go_wp2_with (go_at_call 42;go_in)
 obtain⟨W0,hW0,hK0,hs0⟩:∃ W0,W0=(w.alloc (.cells #[.iface 23 (.pointer (some ⟨A,0,none⟩))] 129)).alloc (.cells #[.pointer none] 24)∧Kp [] w W0∧W0.heap.size=w.heap.size+2:=⟨_,rfl,((Kp.refl _ _).alloc _).alloc _,by simp⟩;have hD0:W0.heap[w.heap.size]?=some (.cells #[.iface 23 (.pointer (some ⟨A,0,none⟩))] 129):=by rw[hW0];exact θ _ (μ _ _)
 have hX0:W0.heap[w.heap.size+1]?=some (.cells #[.pointer none] 24):=by
  rw[hW0];have e:=μ (w.alloc (.cells #[.iface 23 (.pointer (some ⟨A,0,none⟩))] 129)) (.cells #[.pointer none] 24);simpa using e
 rw[←hW0];clear hW0;have hA0:=hK0.hp h;refine (qG8 71 _ _ 10 _ (zF1 _) [] ?_ (by simp)).mono ?_
 ·exact zA4 w.heap.size (w.heap.size+1) A n C cache calls writes _ (θ _ (θ _ hD0)) (θ _ (θ _ hA0)) HB.out
 rintro e w2 ⟨F,rfl,hF,hF2,hK2⟩;have hX2:=hK2.hp hX0;have x0:=ξ hX2 0;simp at x0;go_wp2
 go_ret2
 exact⟨F,_,rfl,by omega,hF2,hK0.tr hK2⟩
theorem zE8(w:World):Calls prog 21 #[.nilIface] w fun e w'=>e=.returned (.int .i64 0)∧w'=w:=by
 go_enter func21,ntmps21;go_wp2;go_ret;exact⟨rfl,rfl⟩
theorem qI2(k:ByteArray)(w:World)(h:k.size<1∨8<k.size):
  Calls prog 49 #[.string k] w fun e w'=>e=qD1 (some 1)∧w'=w:=by
 by_cases h1:k.size<1
 ·have hb:(k.size:Int)<1:=by omega
  clear h;go_enter func49,ntmps49;go_wp2;exact⟨rfl,rfl,rfl,rfl⟩
 ·have hb:¬(k.size:Int)<1:=by omega
  have hb8:(8:Int)<(k.size:Int):=by omega
  clear h;go_enter func49,ntmps49;go_wp2;exact⟨rfl,rfl,rfl,rfl⟩
end Go.Proofs.YtdohpenfkdckiabGreatDoor
