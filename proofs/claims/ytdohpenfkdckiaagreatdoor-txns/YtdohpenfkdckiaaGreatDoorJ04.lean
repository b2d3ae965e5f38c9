import Derived.Test.YtdohpenfkdckiaaGreatDoorJ03
import Derived.Conc.MuLib
import Derived.Conc.MuLone
import Derived.KernelRfl
import Derived.Stop.Asserts
import Derived.Laws.Strings
import Derived.Laws.Cover1
namespace Go.Proofs.YtdohpenfkdckiaaGreatDoor
set_option linter.unusedSimpArgs false
set_option linter.unusedVariables false
set_option maxRecDepth 100000
set_option maxHeartbeats 20000000
open Go.RowKit Go.Extern.Stop Go.Stop Go.Extern
theorem unwrap_ok (F:Nat) (call:ByteArray) (x:Value) (w:World) (hF:w.heap[F]?=some (.cells #[.string call,x] 246)) :
  Calls Tryz.prog 353 #[.pointer (some ⟨F,0,none⟩)] w fun e w'=>e=.returned x∧w'=w:=by
 have c1:=cell_of hF 1
 simp at c1
 clear hF
 go_enter Tryz.func353,Tryz.ntmps353
 go_wp2
 go_ret
 exact ⟨rfl,rfl⟩
theorem as93_ok (F E a:Nat) (call:ByteArray) (k:Int) (w:World) (hF:w.heap[F]?=some (.cells #[.string call,.iface 45 (.int .i64 k)] 246)) (hE:w.heap[E]?=some (.cells #[.int .i64 0] 45)) (ha:w.heap[a]?=some (.cells #[.pointer (some ⟨E,0,none⟩)] 95)) :
  Calls Tryz.prog 98 #[.iface 243 (.pointer (some ⟨F,0,none⟩)),.iface 95 (.pointer (some ⟨E,0,none⟩)),.agg #[.pointer (some ⟨5,95,none⟩),.pointer (some ⟨a,0,none⟩),.int .u64 150],.iface 220 (.agg #[.pointer (some ⟨5,45,none⟩)])] w fun e w'=>e=.returned (.bool true)∧w'.heap[E]?=some (.cells #[.int .i64 k] 45)∧Kp [E] w w':=by
 have h90:=@run_callFunc_extern Tryz.prog 95 _ (fun args=>ReflectliteValue.unpack (args.getD 0 (.tuple #[]))) Tryz.func95 (by kernel_rfl) (by kernel_rfl) (by kernel_rfl) (by kernel_rfl)
 have h142:=@run_callFunc_extern Tryz.prog 151 _ ReflectliteType.typeOf Tryz.func151 (by kernel_rfl) (by kernel_rfl) (by kernel_rfl) (by kernel_rfl)
 have h285:=@run_callFunc_extern Tryz.prog 342 _ (ReflectliteType.relation "AssignableTo" ReflectliteType.assignableTo) Tryz.func342 (by kernel_rfl) (by kernel_rfl) (by kernel_rfl) (by kernel_rfl)
 have h143:=@run_callFunc_extern Tryz.prog 152 _ (ReflectliteValue.method (ReflectliteValue.valueError "reflectlite.Value.Elem" 0) ReflectliteValue.elem) Tryz.func152 (by kernel_rfl) (by kernel_rfl) (by kernel_rfl) (by kernel_rfl)
 have h144:=@run_callFunc_extern Tryz.prog 153 _ ReflectliteValue.set Tryz.func153 (by kernel_rfl) (by kernel_rfl) (by kernel_rfl) (by kernel_rfl)
 have tF:=as_typeOfF
 have tE:=as_typeOfE
 have mA:=as_mAssignableTo
 have mU:=as_mUnwrap
 have aF:=as_assignF
 have aE:=as_assignE
 have vE:=as_valueOfE
 have ta1:∀ W:World,Sem.run Tryz.prog (Instr.typeAssert (.iface 243 (.pointer (some ⟨F,0,none⟩))) 38 225 true) W=.ok (.tuple #[.nilIface,.bool false]) W:=fun W=>run_typeAssert_lacksB Tryz.underlying225 (by kernel_rfl) (by kernel_rfl) _ _ W
 have ta2:∀ W:World,Sem.run Tryz.prog (Instr.typeAssert (.iface 243 (.pointer (some ⟨F,0,none⟩))) 38 228 true) W=.ok (.tuple #[.iface 243 (.pointer (some ⟨F,0,none⟩)),.bool true]) W:=fun W=>run_typeAssert_hasB Tryz.underlying228 (by kernel_rfl) _ _ W
 have hEs:=lt_of_heap hE
 have hFs:=lt_of_heap hF
 have has:=lt_of_heap ha
 go_enter Tryz.func98,Tryz.ntmps98
 go_wp2
 refine wp_loop_rounds 3 ?_
 rw [rounds_succ]
 go_wp2_with fail
 obtain ⟨W1,hW1,hK1,hs1⟩:∃ W1,W1=w.alloc (Obj.cells #[.pointer (some ⟨5,95,none⟩),.pointer (some ⟨a,0,none⟩),.int .u64 150] 143)∧Kp [E] w W1∧W1.heap.size=w.heap.size+1:=⟨_,rfl,(Kp.refl _ _).alloc _,by simp⟩
 have hF1:W1.heap[F]?=some (.cells #[.string call,.iface 45 (.int .i64 k)] 246):=by rw [hW1];exact heap_old _ hF
 have hE1:W1.heap[E]?=some (.cells #[.int .i64 0] 45):=by rw [hW1];exact heap_old _ hE
 have ha1:W1.heap[a]?=some (.cells #[.pointer (some ⟨E,0,none⟩)] 95):=by rw [hW1];exact heap_old _ ha
 have hv1:W1.heap[w.heap.size]?=some (Obj.cells #[.pointer (some ⟨5,95,none⟩),.pointer (some ⟨a,0,none⟩),.int .u64 150] 143):=by rw [hW1];exact heap_new _ _
 rw [← hW1]
 clear hW1
 have v0:=cell_of hv1 0
 have v1:=cell_of hv1 1
 have v2:=cell_of hv1 2
 have a0:=cell_of ha1 0
 simp at v0 v1 v2 a0
 have eV:=as_elemV ⟨a,0,none⟩ ⟨E,0,none⟩ W1 a0
 have hb2:=cell_of (heap_new W1 (.cells #[.int .i64 k] 45)) 0
 have he2:=cell_of (heap_old (.cells #[.int .i64 k] 45) hE1) 0
 have hfz2:=frozen_of (heap_old (.cells #[.int .i64 k] 45) hE1) 0
 simp at hb2 he2
 have sE:=as_set ⟨E,0,none⟩ ⟨W1.heap.size,0,none⟩ k (.int .i64 0) (W1.alloc (.cells #[.int .i64 k] 45)) (by simp) (by simpa using he2) hfz2
 rw [hs1] at sE
 clear hb2 he2 hfz2
 refine (unwrap_ok F call _ _ hF1).mono ?_
 rintro e w2 ⟨rfl,rfl⟩
 go_wp2_with fail
 rw [rounds_succ]
 go_wp2
 go_ret
 refine ⟨rfl,?_,?_⟩
 ·first
   | exact heap_set (heap_old _ hE1) 0 _
   | exact heap_old _ (heap_set hE1 0 _)
 ·first
   | exact (hK1.alloc _).setCell (by simp) _
   | exact (hK1.setCell (by simp) _).alloc _
theorem as51_ok (F E:Nat) (call:ByteArray) (k:Int) (w:World) (hg:w.cell? ⟨0,0,none⟩=some errType) (hF:w.heap[F]?=some (.cells #[.string call,.iface 45 (.int .i64 k)] 246)) (hE:w.heap[E]?=some (.cells #[.int .i64 0] 45)) :
  Calls Tryz.prog 53 #[.iface 243 (.pointer (some ⟨F,0,none⟩)),.iface 95 (.pointer (some ⟨E,0,none⟩))] w fun e w'=>e=.returned (.bool true)∧w'.heap[E]?=some (.cells #[.int .i64 k] 45)∧Kp [E] w w':=by
 have h90:=@run_callFunc_extern Tryz.prog 95 _ (fun args=>ReflectliteValue.unpack (args.getD 0 (.tuple #[]))) Tryz.func95 (by kernel_rfl) (by kernel_rfl) (by kernel_rfl) (by kernel_rfl)
 have h91:=@run_callFunc_extern Tryz.prog 96 _ (ReflectliteValue.methodAny (ReflectliteValue.valueError "reflectlite.Value.Type" 0) (fun t _ _ _=>ReflectliteType.toType t)) Tryz.func96 (by kernel_rfl) (by kernel_rfl) (by kernel_rfl) (by kernel_rfl)
 have h92:=@run_callFunc_extern Tryz.prog 97 _ (ReflectliteValue.method (ReflectliteValue.valueError "reflectlite.Value.IsNil" 0) ReflectliteValue.isNil) Tryz.func97 (by kernel_rfl) (by kernel_rfl) (by kernel_rfl) (by kernel_rfl)
 have h266:=@run_callFunc_extern Tryz.prog 322 _ (ReflectliteType.abiMethod fun t=>do pure (.int .u8 (← Rtype.kind t))) Tryz.func322 (by kernel_rfl) (by kernel_rfl) (by kernel_rfl) (by kernel_rfl)
 have h287:=@run_callFunc_extern Tryz.prog 344 _ (ReflectliteType.method ReflectliteType.elem) Tryz.func344 (by kernel_rfl) (by kernel_rfl) (by kernel_rfl) (by kernel_rfl)
 have h288:=@run_callFunc_extern Tryz.prog 345 _ (ReflectliteType.relation "Implements" ReflectliteType.implements_) Tryz.func345 (by kernel_rfl) (by kernel_rfl) (by kernel_rfl) (by kernel_rfl)
 have vO:=as_valueOf
 have tY:=as_type
 have mK:=as_mKind
 have mE:=as_mElem
 have mI:=as_mImplements
 have kP:=as_kindP
 have kE:=as_kindE
 have eL:=as_elem
 have iM:=as_implements
 have hEs:=lt_of_heap hE
 have hFs:=lt_of_heap hF
 have hgl:0 < w.heap.size:=by omega
 have nN:=as_isNil ⟨w.heap.size,0,none⟩ ⟨E,0,none⟩ ((w.alloc (.cells #[.pointer (some ⟨E,0,none⟩)] 95)).alloc (.cells #[.pointer (some ⟨5,95,none⟩),.pointer (some ⟨w.heap.size,0,none⟩),.int .u64 150] 143)) (by simp)
 have hg2:((w.alloc (.cells #[.pointer (some ⟨E,0,none⟩)] 95)).alloc (.cells #[.pointer (some ⟨5,95,none⟩),.pointer (some ⟨w.heap.size,0,none⟩),.int .u64 150] 143)).cell? ⟨0,0,none⟩=some (.iface 220 (.agg #[.pointer (some ⟨5,38,none⟩)])):=by
  rw [World.cell?_alloc_lt _ _ ⟨0,0,none⟩ (by simp),World.cell?_alloc_lt _ _ ⟨0,0,none⟩ hgl];exact hg
 clear hg
 go_enter Tryz.func53,Tryz.ntmps53
 go_wp2_with fail
 refine (as93_ok F E w.heap.size call k _ (heap_old _ (heap_old _ hF)) (heap_old _ (heap_old _ hE)) (heap_old _ (heap_new _ _))).mono ?_
 rintro e w1 ⟨rfl,hE1,hK1⟩
 have hK1':Kp [E] w w1:=(((Kp.refl [E] w).alloc _).alloc _).trans hK1 (by simp)
 clear h90 h91 h92 h266 h287 h288 vO tY mK mE mI kP kE eL iM nN hg2 hK1
 go_wp2
 go_ret
 exact ⟨rfl,hE1,hK1'⟩
end Go.Proofs.YtdohpenfkdckiaaGreatDoor
namespace Go.Proofs.YtdohpenfkdckiaaGreatDoor
set_option linter.unusedSimpArgs false
set_option linter.unusedVariables false
set_option maxRecDepth 100000
set_option maxHeartbeats 20000000
open Go.RowKit
theorem told_nil (w:World):Calls Tryz.prog 24 #[.nilIface] w fun e w'=>e=.returned (.int .i64 0)∧w'=w:=by
 go_enter Tryz.func24,Tryz.ntmps24
 go_wp2
 go_ret
 exact ⟨rfl,rfl⟩
theorem told_fault (F:Nat) (call:ByteArray) (k:Int) (w:World) (hg:w.cell? ⟨0,0,none⟩=some errType) (hF:w.heap[F]?=some (.cells #[.string call,.iface 45 (.int .i64 k)] 246)) :
  Calls Tryz.prog 24 #[.iface 243 (.pointer (some ⟨F,0,none⟩))] w fun e w'=>e=.returned (.int .i64 k)∧Kp [] w w':=by
 have hFs:=lt_of_heap hF
 have hgl:0 < w.heap.size:=by omega
 go_enter Tryz.func24,Tryz.ntmps24
 go_wp2_with fail
 refine (as51_ok F w.heap.size call k _ (by rw [World.cell?_alloc_lt _ _ ⟨0,0,none⟩ hgl];exact hg) (heap_old _ hF) (heap_new _ _)).mono ?_
 rintro e w1 ⟨rfl,hE1,hK1⟩
 have hK1':Kp [] w w1:=((Kp.refl [] w).alloc _).trans hK1 (by intro i hi hlt;simp at hi;omega)
 have c0:=cell_of hE1 0
 simp at c0
 clear hK1 hg
 go_wp2
 go_ret
 exact ⟨rfl,hK1'⟩
end Go.Proofs.YtdohpenfkdckiaaGreatDoor
namespace Go.Proofs.YtdohpenfkdckiaaGreatDoor
set_option linter.unusedSimpArgs false
set_option linter.unusedVariables false
set_option maxRecDepth 100000
set_option maxHeartbeats 20000000
abbrev muLink:Go.Conc.Locks.MuLink:={ lock:=105,unlock:=106,ilock:=165,iunlock:=166,lockSlow:=231,unlockSlow:=234,disable:=227,enable:=229,acquire:=230,relMerge:=232,cas32:=228,add32:=233,tMutex:=164,tIMutex:=162,tPMutex:=242,tPIMutex:=306,tPI32:=308,tUP:=140,tNoCopy:=159,tU32:=160 }
theorem muLib:Go.Conc.Locks.MuLib Tryz.prog muLink:=
 ⟨Tryz.func105,Tryz.func106,Tryz.func165,Tryz.func166,Tryz.func227,Tryz.func229,Tryz.func230,Tryz.func232,Tryz.func228,Tryz.func233,Tryz.underlying162,Tryz.runUnderlying162,Tryz.sizeOf162,Tryz.isAgg162,Tryz.zeroValue162,Tryz.underlying164,Tryz.runUnderlying164,Tryz.sizeOf164,Tryz.isAgg164,Tryz.zeroValue164,Tryz.underlying242,Tryz.runUnderlying242,Tryz.sizeOf242,Tryz.isAgg242,Tryz.zeroValue242,Tryz.underlying306,Tryz.runUnderlying306,Tryz.sizeOf306,Tryz.isAgg306,Tryz.zeroValue306,Tryz.underlying308,Tryz.runUnderlying308,Tryz.sizeOf308,Tryz.isAgg308,Tryz.zeroValue308,Tryz.underlying140,Tryz.runUnderlying140,Tryz.sizeOf140,Tryz.isAgg140,Tryz.zeroValue140,Tryz.underlying159,Tryz.runUnderlying159,Tryz.sizeOf159,Tryz.isAgg159,Tryz.zeroValue159,Tryz.underlying21,Tryz.runUnderlying21,Tryz.sizeOf21,Tryz.isAgg21,Tryz.zeroValue21,(by kernel_rfl)⟩
end Go.Proofs.YtdohpenfkdckiaaGreatDoor
namespace Go.Proofs.YtdohpenfkdckiaaGreatDoor
set_option linter.unusedSimpArgs false
set_option linter.unusedVariables false
set_option maxRecDepth 100000
set_option maxHeartbeats 20000000
open Go.RowKit Go.Extern.Stop Go.Stop Go.Extern
theorem is_comparable (w:World):((Extern.ReflectliteType.method fun t=>do Rtype.noPackHeld "Comparable" t;(fun a=>Value.bool a.comparable) <$> typeInfo t) #[.agg #[.pointer (some ⟨5,45,none⟩)]]).run Tryz.prog w=.ok (.bool true) w:=by kernel_rfl
theorem is_mComparable (h:Value) (w:World):(Go.method 513 220 (.agg #[h]) "Comparable").run Tryz.prog w=.ok (343,.agg #[h]) w:=by kernel_rfl
theorem is_eq8 (k:Int) (w:World):Sem.run Tryz.prog (binOp .eql 38 (.iface 45 (.int .i64 k)) (.iface 45 (.int .i64 8))) w=.ok (.bool (k == 8)) w:=by
 kernel_rfl
theorem is_noIsF (v:Value) (xT:TypeId) (w:World):(Instr.typeAssert (.iface 243 v) xT 313 true).run Tryz.prog w=.ok (.tuple #[.nilIface,.bool false]) w:=run_typeAssert_lacksB Tryz.underlying313 (by kernel_rfl) (by kernel_rfl) v xT w
theorem is_noIsE (v:Value) (xT:TypeId) (w:World):(Instr.typeAssert (.iface 45 v) xT 313 true).run Tryz.prog w=.ok (.tuple #[.nilIface,.bool false]) w:=run_typeAssert_lacksB Tryz.underlying313 (by kernel_rfl) (by kernel_rfl) v xT w
theorem is_noUnE (v:Value) (xT:TypeId) (w:World):(Instr.typeAssert (.iface 45 v) xT 228 true).run Tryz.prog w=.ok (.tuple #[.nilIface,.bool false]) w:=run_typeAssert_lacksB Tryz.underlying228 (by kernel_rfl) (by kernel_rfl) v xT w
theorem is_noUnsE (v:Value) (xT:TypeId) (w:World):(Instr.typeAssert (.iface 45 v) xT 229 true).run Tryz.prog w=.ok (.tuple #[.nilIface,.bool false]) w:=run_typeAssert_lacksB Tryz.underlying229 (by kernel_rfl) (by kernel_rfl) v xT w
theorem is_hasUnF (v:Value) (xT:TypeId) (w:World):(Instr.typeAssert (.iface 243 v) xT 228 true).run Tryz.prog w=.ok (.tuple #[.iface 243 v,.bool true]) w:=run_typeAssert_hasB Tryz.underlying228 (by kernel_rfl) v xT w
theorem is_fault (F:Nat) (call:ByteArray) (k:Int) (w:World) (hk:k≠8) (hF:w.heap[F]?=some (.cells #[.string call,.iface 45 (.int .i64 k)] 246)) :
  Calls Tryz.prog 109 #[.iface 243 (.pointer (some ⟨F,0,none⟩)),.iface 45 (.int .i64 8)] w fun e w'=>e=.returned (.bool false)∧w'=w:=by
 have h151:=@run_callFunc_extern Tryz.prog 151 _ ReflectliteType.typeOf Tryz.func151 (by kernel_rfl) (by kernel_rfl) (by kernel_rfl) (by kernel_rfl)
 have hcmp:=@run_callFunc_extern Tryz.prog 343 _ (Extern.ReflectliteType.method fun t=>do Rtype.noPackHeld "Comparable" t;pure (.bool (← typeInfo t).comparable)) Tryz.func343 (by kernel_rfl) (by kernel_rfl) (by kernel_rfl) (by kernel_rfl)
 have tT:=as_typeOfE
 have cT:=is_comparable
 have mR:=is_mComparable
 have nF:=is_noIsF
 have nE:=is_noIsE
 have uE:=is_noUnE
 have vE:=is_noUnsE
 have uF:=is_hasUnF
 have mU:=as_mUnwrap
 have hq:=run_eql_iface_types (P:=Tryz.prog) 243 45 (.pointer (some ⟨F,0,none⟩)) (.int .i64 8) Tryz.underlying38 (by decide) w
 have hb:(k == 8)=false:=by simp [hk]
 have he:=is_eq8 k w
 rw [hb] at he
 clear hk hb
 have hFs:=lt_of_heap hF
 have c1:=cell_of hF 1
 simp only [zG,zH,zI] at c1
 go_enter Tryz.func109,Tryz.ntmps109
 go_wp2
 refine wp_loop_rounds 2 ?_
 rw [rounds_succ]
 go_wp2
 rw [rounds_succ]
 go_wp2
 go_ret
 exact ⟨rfl,rfl⟩
end Go.Proofs.YtdohpenfkdckiaaGreatDoor
namespace Go.Proofs.YtdohpenfkdckiaaGreatDoor
set_option linter.unusedSimpArgs false
set_option linter.unusedVariables false
set_option maxRecDepth 100000
set_option maxHeartbeats 20000000
open Go.RowKit Go.MuLone
def thrownV (k:Int):Value:=.iface 182 (.agg #[.iface 45 (.int .i64 k)])
def outc:Option Int→Ending
 | none=>.returned (.tuple #[])
 | some k=>.panicked [{ v:=thrownV k,recovered:=false }]
def ErrV (w:World) (v:Value):Option Int→Prop
 | none=>v=.nilIface
 | some k=>∃ F call,v=.iface 243 (.pointer (some ⟨F,0,none⟩))∧w.heap[F]?=some (.cells #[.string call,.iface 45 (.int .i64 k)] 246)
theorem catch_threw (f:Nat) (cap:Array Value) (call:ByteArray) (k:Int) (w:World) (R:World→Prop) (hcf:∀ W:World,Sem.run Tryz.prog (callFunc f cap) W=.ok (.enter f cap) W)
  (hw:Calls Tryz.prog f cap ((w.alloc (.cells #[.string call] 9)).alloc (.cells #[.nilIface] 38)) fun e w'=>e=.panicked [{ v:=thrownV k,recovered:=false }]∧R w'∧w'.heap[w.heap.size+1]?=some (.cells #[.nilIface] 38)∧w'.heap[w.heap.size]?=some (.cells #[.string call] 9)) :
  Calls Tryz.prog 107 #[.string call,.func (.func f) #[] cap] w fun e w'=>∃ F,e=.returned (.iface 243 (.pointer (some ⟨F,0,none⟩)))∧w'.heap[F]?=some (.cells #[.string call,.iface 45 (.int .i64 k)] 246)∧∃ w1,R w1∧w1.heap.size≤F∧Kp [w.heap.size+1] w1 w':=by
 have hmf:=zM
 have HW:Hid (Calls Tryz.prog f cap ((w.alloc (.cells #[.string call] 9)).alloc (.cells #[.nilIface] 38)) fun e w'=>e=.panicked [{ v:=.iface 182 (.agg #[.iface 45 (.int .i64 k)]),recovered:=false }]∧R w'∧w'.heap[w.heap.size+1]?=some (.cells #[.nilIface] 38)∧w'.heap[w.heap.size]?=some (.cells #[.string call] 9)):=hw
 clear hw
 go_enter_defers Tryz.func107,Tryz.ntmps107
 go_wp2_with fail
 refine (show Calls _ _ _ _ _ from HW.out).mono ?_
 rintro e w1 ⟨rfl,hR,hE,hB⟩
 have HR:Hid (R w1):=hR
 clear hR
 go_wp2
 refine leaves_cons (f:=167) (args:=#[.pointer (some ⟨w.heap.size,0,none⟩),.pointer (some ⟨w.heap.size+1,0,none⟩)]) (by simp) (by simp [go_sem]) ?_
 refine (catch_thrown w.heap.size (w.heap.size+1) k call _ hB (by omega) hE).mono ?_
 rintro e u' w2 ⟨rfl,rfl,F,hF,hF2,hE2,hK2⟩
 have e0:=cell_of hE2 0
 simp at e0
 simp [Leaves,settle,results,Tryz.results107,go_sem,e0]
 exact ⟨hF2,w1,HR.out,hF,hK2⟩
theorem is_nil (k:Int) (w:World):Calls Tryz.prog 109 #[.nilIface,.iface 45 (.int .i64 k)] w fun e w'=>e=.returned (.bool false)∧w'=w:=by
 have hb:∀ W:World,Sem.run Tryz.prog (binOp .eql 38 .nilIface (.iface 45 (.int .i64 k))) W=.ok (.bool false) W:=fun W=>by kernel_rfl
 go_enter Tryz.func109,Tryz.ntmps109
 go_wp2
 go_ret
 exact ⟨rfl,rfl⟩
theorem cf104 (args:Array Value) (W:World):Sem.run Tryz.prog (callFunc 108 args) W=.ok (.enter 108 args) W:=by
 simp [go_sem,Tryz.func108]
theorem alone1_ok (k:Option Int) (S F St f:Nat) (s:Sto) (first cap:Array Value) (w:World) (R:World→Prop) (hS:w.heap[S]?=some (.cells #[.pointer (some ⟨St,0,none⟩)] 97)) (hF:w.heap[F]?=some (.cells #[.func (.func f) first cap] 1)) (hSt:w.heap[St]?=some (sobj 1 s)) (hpo:s.po=false)
  (hcf:∀ W:World,Sem.run Tryz.prog (callFunc f (first ++ cap)) W=.ok (.enter f (first ++ cap)) W)
  (hw:Calls Tryz.prog f (first ++ cap) w fun e w'=>e=outc k∧R w') :
  Calls Tryz.prog 108 #[.pointer (some ⟨S,0,none⟩),.pointer (some ⟨F,0,none⟩)] w fun e w'=>e=outc k∧R w':=by
 have s0:=cell_of hS 0
 have f0:=cell_of hF 0
 have p7:=cell_of hSt 7
 simp [hpo] at s0 f0 p7
 clear hS hF hSt
 have HW:Hid (Calls Tryz.prog f (first ++ cap) w fun e w'=>e=outc k∧R w'):=hw
 clear hw
 go_enter Tryz.func108,Tryz.ntmps108
 go_wp2_with fail
 refine (show Calls _ _ _ _ _ from HW.out).mono ?_
 rintro e w1 ⟨rfl,hR⟩
 cases k with
 | none=>
  simp only [outc]
  go_wp2
  go_end0
  exact ⟨rfl,hR⟩
 | some k=>
  simp only [outc]
  go_wp2
  exact ⟨rfl,rfl,hR⟩
theorem alone_any (k:Option Int) (hk8:k≠some 8) (St f:Nat) (s s':Sto) (first cap:Array Value) (call:ByteArray) (X:List Nat) (Q:World→World→Prop) (w:World) (hSt:w.heap[St]?=some (sobj 0 s)) (hpo:s.po=false)
  (hcf:∀ W:World,Sem.run Tryz.prog (callFunc f (first ++ cap)) W=.ok (.enter f (first ++ cap)) W) (hX:∀ i,i ∈ X→i < w.heap.size)
  (hw:∀ W:World,Kp [St] w W→W.heap[St]?=some (sobj 1 s)→Calls Tryz.prog f (first ++ cap) W fun e w1=>e=outc k∧Q W w1∧Kp (St :: X) W w1∧w1.heap[St]?=some (sobj 1 s')) :
  Calls Tryz.prog 64 #[.pointer (some ⟨St,0,none⟩),.string call,.func (.func f) first cap] w fun e w'=>∃ v,e=.returned v∧ErrV w' v k∧w'.heap[St]?=some (sobj 0 s')∧Kp (St :: X) w w'∧∃ W w1 B,Q W w1∧Kp [St] w W∧w.heap.size≤B∧B < W.heap.size∧w1.heap[B]?=some (.cells #[.nilIface] 38)∧Kp [St,B] w1 w':=by
 have hmf:=zM
 have HW:Hid (∀ W:World,Kp [St] w W→W.heap[St]?=some (sobj 1 s)→Calls Tryz.prog f (first ++ cap) W fun e w1=>e=outc k∧Q W w1∧Kp (St :: X) W w1∧w1.heap[St]?=some (sobj 1 s')):=hw
 have HX:Hid (∀ i,i ∈ X→i < w.heap.size):=hX
 have HPO:Hid (s.po=false):=hpo
 have HK8:Hid (k≠some 8):=hk8
 clear hw hX hpo hk8
 have hSs:=lt_of_heap hSt
 go_enter_defers Tryz.func64,Tryz.ntmps64
 go_wp2_with fail
 refine (lock_free muLib ⟨St,0,none⟩ _ (cell_of (heap_old _ (heap_old _ hSt)) 0) (frozen_of (heap_old _ (heap_old _ hSt)) 0)).mono ?_
 rintro e W0 ⟨rfl,rfl⟩
 obtain ⟨W0,hW0,hK0,hs0,hB0,hF0,hSt0⟩:∃ W0,W0=((w.alloc (Obj.cells #[Value.pointer (some { block:=St,off:=0 })] 97)).alloc (Obj.cells #[Value.func (Fn.func f) first cap] 1)).setCell ⟨St,0,none⟩ (.int .i32 1)∧Kp [St] w W0∧W0.heap.size=w.heap.size+2∧W0.heap[w.heap.size]?=some (Obj.cells #[Value.pointer (some { block:=St,off:=0 })] 97)∧W0.heap[w.heap.size+1]?=some (Obj.cells #[Value.func (Fn.func f) first cap] 1)∧W0.heap[St]?=some (sobj 1 s):=by
  refine ⟨_,rfl,((((Kp.refl _ _).alloc _).alloc _).setCell (by simp) _),by simp [World.setCell],?_,?_,?_⟩
  ·exact (heap_set_other (by omega) _ _).trans (heap_old _ (heap_new _ _))
  ·refine (heap_set_other (by omega) _ _).trans ?_
   have e:=heap_new (w.alloc (Obj.cells #[Value.pointer (some { block:=St,off:=0 })] 97)) (Obj.cells #[Value.func (Fn.func f) first cap] 1)
   simpa using e
  ·exact heap_set (heap_old _ (heap_old _ hSt)) 0 _
 rw [← hW0]
 clear hW0
 have b0:=cell_of hB0 0
 simp at b0
 go_wp2_with fail
 obtain ⟨Wc,hWc,hKc,hsc,hBc,hFc,hStc,hEc,hCc⟩:∃ Wc,Wc=(W0.alloc (.cells #[.string call] 9)).alloc (.cells #[.nilIface] 38)∧Kp [St] w Wc∧Wc.heap.size=w.heap.size+4∧Wc.heap[w.heap.size]?=some (Obj.cells #[Value.pointer (some { block:=St,off:=0 })] 97)∧Wc.heap[w.heap.size+1]?=some (Obj.cells #[Value.func (Fn.func f) first cap] 1)∧Wc.heap[St]?=some (sobj 1 s)∧Wc.heap[W0.heap.size+1]?=some (.cells #[.nilIface] 38)∧Wc.heap[W0.heap.size]?=some (.cells #[.string call] 9):=by
  refine ⟨_,rfl,(hK0.alloc _).alloc _,by simp [hs0],heap_old _ (heap_old _ hB0),heap_old _ (heap_old _ hF0),heap_old _ (heap_old _ hSt0),?_,heap_old _ (heap_new _ _)⟩
  have e:=heap_new (W0.alloc (.cells #[.string call] 9)) (.cells #[.nilIface] 38)
  simpa using e
 have HA1:Hid (Calls Tryz.prog 108 #[.pointer (some ⟨w.heap.size,0,none⟩),.pointer (some ⟨w.heap.size+1,0,none⟩)] Wc fun e w1=>e=outc k∧Q Wc w1∧Kp (St :: X) Wc w1∧w1.heap[St]?=some (sobj 1 s')):=
  alone1_ok k w.heap.size (w.heap.size+1) St f s first cap Wc (fun w1=>Q Wc w1∧Kp (St :: X) Wc w1∧w1.heap[St]?=some (sobj 1 s')) hBc hFc hStc HPO.out hcf (HW.out Wc hKc hStc)
 have HNM:Hid (∀ i,w.heap.size≤i→i ∉ St :: X):=by
  show ∀ i,w.heap.size≤i→i ∉ St :: X
  intro i hi h
  rcases List.mem_cons.1 h with h | h
  ·omega
  ·have:=HX.out _ h;omega
 clear HW
 cases k with
 | none=>
  refine (catch_done 108 _ _ _ (fun w1=>Q Wc w1∧Kp (St :: X) Wc w1∧w1.heap[St]?=some (sobj 1 s')) (cf104 _) ?_).mono ?_
  ·rw [← hWc]
   refine (show Calls _ _ _ _ _ from HA1.out).mono ?_
   rintro e w1 ⟨rfl,hQ,hk,hst⟩
   exact ⟨rfl,⟨hQ,hk,hst⟩,hk.heap hEc (HNM.out _ (by omega))⟩
  rintro e w2 ⟨rfl,w1,⟨hQ,hk,hst⟩,rfl⟩
  have hs1:=hk.size
  have hEw1:=hk.heap hEc (HNM.out _ (by omega))
  obtain ⟨w2,hw2,hst2,hK2,ho2⟩:∃ w2,w2=w1.setCell ⟨W0.heap.size+1,0,none⟩ .nilIface∧w2.heap[St]?=some (sobj 1 s')∧Kp (St :: X) w w2∧Kp [St,W0.heap.size+1] w1 w2:=
   ⟨_,rfl,(heap_set_other (by omega) _ _).trans hst,(((hKc.mono (S':=St :: X) (by simp)).trans hk (fun _ h _=>h)).setCell (Or.inr (by simp;omega)) _),(Kp.refl _ _).setCell (by simp) _⟩
  rw [← hw2]
  clear hw2
  go_wp2_with (go_at_call 109;refine (is_nil 8 _).mono ?_;rintro e w' ⟨rfl,rfl⟩)
  refine leaves_cons (f:=106) (args:=#[.pointer (some ⟨St,0,none⟩)]) (by simp) (by simp [go_sem]) ?_
  refine (unlock_deferred muLib ⟨St,0,none⟩ .returning _ (cell_of hst2 0) (frozen_of hst2 0)).mono ?_
  rintro e u' w'' ⟨rfl,rfl,rfl⟩
  exact ⟨_,results_tmp rfl _ _ _,.nilIface,rfl,rfl,heap_set hst2 0 _,hK2.setCell (by simp) _,Wc,w1,W0.heap.size+1,hQ,hKc,by omega,by omega,hEw1,ho2.setCell (by simp) _⟩
 | some k=>
  have hk8:k≠8:=fun h=>HK8.out (by rw [h])
  have HK:Hid (k≠8):=hk8
  clear hk8
  refine (catch_threw 108 _ _ k _ (fun w1=>Q Wc w1∧Kp (St :: X) Wc w1∧w1.heap[St]?=some (sobj 1 s')) (cf104 _) ?_).mono ?_
  ·rw [← hWc]
   refine (show Calls _ _ _ _ _ from HA1.out).mono ?_
   rintro e w1 ⟨rfl,hQ,hk,hst⟩
   exact ⟨rfl,⟨hQ,hk,hst⟩,hk.heap hEc (HNM.out _ (by omega)),hk.heap hCc (HNM.out _ (by omega))⟩
  rintro e w2 ⟨F,rfl,hF2,w1,⟨hQ,hk,hst⟩,hFs,hKc2⟩
  have hs1:=hk.size
  have hEw1:=hk.heap hEc (HNM.out _ (by omega))
  have hst2:w2.heap[St]?=some (sobj 1 s'):=hKc2.heap hst (by simp;omega)
  have hK2:Kp (St :: X) w w2:=((hKc.mono (S':=St :: X) (by simp)).trans hk (fun _ h _=>h)).trans hKc2 (by intro i hi hlt;simp at hi;omega)
  have ho2:Kp [St,W0.heap.size+1] w1 w2:=hKc2.mono (by simp)
  have HIS:Hid (Calls Tryz.prog 109 #[.iface 243 (.pointer (some ⟨F,0,none⟩)),.iface 45 (.int .i64 8)] w2 fun e w'=>e=.returned (.bool false)∧w'=w2):=is_fault F _ k w2 HK.out hF2
  have hFSt:St < F:=by have:=lt_of_heap hst;omega
  go_wp2_with (go_at_call 109;refine (show Calls _ _ _ _ _ from HIS.out).mono ?_;rintro e w' ⟨rfl,rfl⟩)
  refine leaves_cons (f:=106) (args:=#[.pointer (some ⟨St,0,none⟩)]) (by simp) (by simp [go_sem]) ?_
  refine (unlock_deferred muLib ⟨St,0,none⟩ .returning _ (cell_of hst2 0) (frozen_of hst2 0)).mono ?_
  rintro e u' w'' ⟨rfl,rfl,rfl⟩
  exact ⟨_,results_tmp rfl _ _ _,.iface 243 (.pointer (some ⟨F,0,none⟩)),rfl,⟨F,_,rfl,(heap_set_other (by omega) _ _).trans hF2⟩,heap_set hst2 0 _,hK2.setCell (by simp) _,Wc,w1,W0.heap.size+1,hQ,hKc,by omega,by omega,hEw1,ho2.setCell (by simp) _⟩
end Go.Proofs.YtdohpenfkdckiaaGreatDoor
namespace Go.Proofs.YtdohpenfkdckiaaGreatDoor
set_option linter.unusedSimpArgs false
set_option linter.unusedVariables false
set_option maxRecDepth 100000
set_option maxHeartbeats 20000000
def kl (a b:ByteArray):Bool:=Op.bytesLess a.toList b.toList
theorem less_eq:∀ (x y:List UInt8),Op.bytesLess x y=decide (x < y)
 | [],[]=>by simp [Op.bytesLess]
 | _ :: _,[]=>by simp [Op.bytesLess]
 | [],_ :: _=>by simp [Op.bytesLess]
 | a :: x,b :: y=>by
  rw [Op.bytesLess,less_eq x y]
  simp only [List.cons_lt_cons_iff]
  by_cases h1:a < b <;> by_cases h2:a=b <;> by_cases h3:x < y <;> simp [h1,h2,h3]
theorem bytes_ext {a b:ByteArray} (h:a.toList=b.toList):a=b:=by
 rw [ByteArray.toList_eq,ByteArray.toList_eq] at h
 cases a;cases b
 simp only [ByteArray.mk.injEq]
 exact Array.toList_inj.1 h
theorem same_iff (a b:ByteArray):(a.toList == b.toList)=decide (a=b):=by
 by_cases h:a=b
 ·simp [h]
 ·have:¬ a.toList=b.toList:=fun e=>h (bytes_ext e)
  simp [h,this]
theorem kl_iff (a b:ByteArray):kl a b=true ↔ a.toList < b.toList:=by unfold kl;rw [less_eq];simp
theorem kl_not (a b:ByteArray):kl a b=false ↔ b.toList≤a.toList:=by
 rw [← Bool.not_eq_true,kl_iff];exact List.not_lt
theorem kl_irrefl (a:ByteArray):kl a a=false:=(kl_not a a).2 (List.le_refl _)
theorem kl_trans {a b c:ByteArray} (h:kl a b=true) (k:kl b c=true):kl a c=true:=by
 rw [kl_iff] at *;exact List.lt_trans h k
theorem kl_asymm {a b:ByteArray} (h:kl a b=true):kl b a=false:=by
 rw [kl_iff] at h;rw [kl_not];exact List.le_of_lt h
theorem kl_tri {a b:ByteArray} (h:kl a b=false) (k:kl b a=false):a=b:=by
 rw [kl_not] at *;exact bytes_ext (List.le_antisymm k h)
theorem kl_lt_of_le {a b c:ByteArray} (h:kl b a=false) (k:kl b c=true):kl a c=true:=by
 rw [kl_not] at h;rw [kl_iff] at *;exact List.lt_of_le_of_lt h k
theorem kl_lt_of_lt {a b c:ByteArray} (h:kl a b=true) (k:kl c b=false):kl a c=true:=by
 by_cases e:kl a c=true
 ·exact e
 ·have:=kl_lt_of_le (a:=c) (b:=a) (c:=b) (by simpa using e) h
  rw [k] at this;cases this
theorem kl_le_trans {a b c:ByteArray} (h:kl b a=false) (k:kl c b=false):kl c a=false:=by
 rw [kl_not] at *;exact List.le_trans h k
theorem kl_ne {a b:ByteArray} (h:kl a b=true):a≠b:=fun e=>by subst e;rw [kl_irrefl] at h;cases h
theorem kl_empty (a:ByteArray):kl a ⟨#[]⟩=false:=by
 rw [kl_not];simp
theorem kl_leq (a b:ByteArray):(Op.bytesLess a.toList b.toList || a.toList == b.toList)=!kl b a:=by
 rw [same_iff]
 by_cases h:kl a b=true
 ·have:Op.bytesLess a.toList b.toList=true:=h
  simp [this,kl_asymm h]
 ·have h':kl a b=false:=by simpa using h
  have h0:Op.bytesLess a.toList b.toList=false:=h'
  by_cases e:a=b
  ·subst e;simp [kl_irrefl]
  ·have:kl b a=true:=by
    by_cases h2:kl b a=true
    ·exact h2
    ·exact absurd (kl_tri h' (by simpa using h2)) e
   simp [h0,e,this]
structure KV where
 k:ByteArray
 v:ByteArray
 deriving DecidableEq
def Sorted (l:List KV):Prop:=l.Pairwise fun a b=>kl a.k b.k=true
def ins (p:KV) (l:List KV):List KV:=l.takeWhile (fun q=>kl q.k p.k) ++ p :: (l.dropWhile (fun q=>kl q.k p.k)).filter (fun q=>!decide (q.k=p.k))
def del (k:ByteArray) (l:List KV):List KV:=l.filter fun q=>!decide (q.k=k)
theorem Sorted.append {a b:List KV}:Sorted (a ++ b) ↔ Sorted a∧Sorted b∧∀ x ∈ a,∀ y ∈ b,kl x.k y.k=true:=List.pairwise_append
theorem Sorted.del {l:List KV} (h:Sorted l) (k:ByteArray):Sorted (del k l):=h.sublist List.filter_sublist
theorem mem_del {k:ByteArray} {l:List KV} {q:KV}:q ∈ del k l ↔ q ∈ l∧q.k≠k:=by simp [del]
theorem mem_ins {p q:KV} {l:List KV} (h:q ∈ ins p l):q=p∨q ∈ l:=by
 simp only [ins,List.mem_append,List.mem_cons,List.mem_filter] at h
 rcases h with h | h | ⟨h,_⟩
 ·exact .inr (List.takeWhile_sublist _ |>.subset h)
 ·exact .inl h
 ·exact .inr (List.dropWhile_sublist _ |>.subset h)
theorem ins_length (p:KV) (l:List KV):(ins p l).length≤l.length+1:=by
 have h:=congrArg List.length (List.takeWhile_append_dropWhile (p:=fun q=>kl q.k p.k) (l:=l))
 have h2:=List.length_filter_le (fun q=>!decide (q.k=p.k)) (l.dropWhile (fun q=>kl q.k p.k))
 simp only [ins,List.length_append,List.length_cons] at *
 omega
theorem takeWhile_lt {p:ByteArray} {l:List KV}:∀ q ∈ l.takeWhile (fun q=>kl q.k p),kl q.k p=true:=by
 induction l with
 | nil=>intro q h;simp at h
 | cons a l ih=>
  intro q h
  rw [List.takeWhile_cons] at h
  split at h
  ·rcases List.mem_cons.1 h with rfl | h
   ·assumption
   ·exact ih q h
  ·simp at h
theorem dropWhile_ge {p:ByteArray} {l:List KV} (hs:Sorted l):∀ q ∈ l.dropWhile (fun q=>kl q.k p),kl q.k p=false:=by
 induction l with
 | nil=>intro q h;simp at h
 | cons a l ih=>
  intro q h
  have hs':=List.pairwise_cons.1 hs
  rw [List.dropWhile_cons] at h
  split at h
  ·exact ih hs'.2 q h
  ·next hn=>
   have hn:kl a.k p=false:=by simpa using hn
   rcases List.mem_cons.1 h with rfl | h
   ·exact hn
   ·exact kl_asymm (kl_lt_of_le hn (hs'.1 q h))
theorem Sorted.ins {l:List KV} (h:Sorted l) (p:KV):Sorted (ins p l):=by
 have hs:Sorted (l.takeWhile (fun q=>kl q.k p.k) ++ l.dropWhile (fun q=>kl q.k p.k)):=by rw [List.takeWhile_append_dropWhile];exact h
 obtain ⟨h1,h2,h3⟩:=Sorted.append.1 hs
 have hf:∀ q ∈ (l.dropWhile (fun q=>kl q.k p.k)).filter (fun q=>!decide (q.k=p.k)),kl p.k q.k=true:=by
  intro q hq
  simp only [List.mem_filter,Bool.not_eq_true',decide_eq_false_iff_not] at hq
  have:=dropWhile_ge h q hq.1
  by_cases e:kl p.k q.k=true
  ·exact e
  ·exact absurd (kl_tri this (by simpa using e)) hq.2
 refine Sorted.append.2 ⟨h1,List.pairwise_cons.2 ⟨hf,h2.sublist List.filter_sublist⟩,?_⟩
 intro x hx y hy
 rcases List.mem_cons.1 hy with rfl | hy
 ·exact takeWhile_lt x hx
 ·exact kl_trans (takeWhile_lt x hx) (hf y hy)
theorem filter_all {l:List KV} {k:ByteArray} (h:∀ q ∈ l,q.k≠k):l.filter (fun q=>!decide (q.k=k))=l:=by
 rw [List.filter_eq_self];intro q hq;simp [h q hq]
theorem del_same {l:List KV} {k:ByteArray} (h:∀ q ∈ l,q.k≠k):del k l=l:=filter_all h
theorem del_append (k:ByteArray) (a b:List KV):del k (a ++ b)=del k a ++ del k b:=by simp [del]
theorem ins_mid {p:KV} {a b c:List KV} (ha:∀ q ∈ a,kl q.k p.k=true) (hc:∀ q ∈ c,kl p.k q.k=true):ins p (a ++ b ++ c)=a ++ ins p b ++ c:=by
 have h1:∀ (x y:List KV),(∀ q ∈ x,kl q.k p.k=true)→(x ++ y).takeWhile (fun q=>kl q.k p.k)=x ++ y.takeWhile (fun q=>kl q.k p.k):=by
  intro x y hx
  induction x with
  | nil=>rfl
  | cons z x ih=>simp [List.takeWhile_cons,hx z (by simp),ih (fun q hq=>hx q (by simp [hq]))]
 have h2:∀ (x y:List KV),(∀ q ∈ x,kl q.k p.k=true)→(x ++ y).dropWhile (fun q=>kl q.k p.k)=y.dropWhile (fun q=>kl q.k p.k):=by
  intro x y hx
  induction x with
  | nil=>rfl
  | cons z x ih=>simp [List.dropWhile_cons,hx z (by simp),ih (fun q hq=>hx q (by simp [hq]))]
 have hc0:∀ q ∈ c,kl q.k p.k=false:=fun q hq=>kl_asymm (hc q hq)
 have h3:∀ y:List KV,(y ++ c).takeWhile (fun q=>kl q.k p.k)=y.takeWhile (fun q=>kl q.k p.k):=by
  intro y
  induction y with
  | nil=>
   cases c with
   | nil=>rfl
   | cons z c=>simp [List.takeWhile_cons,hc0 z (by simp)]
  | cons z y ih=>simp only [List.cons_append,List.takeWhile_cons];split <;> simp_all
 have h4:∀ y:List KV,(y ++ c).dropWhile (fun q=>kl q.k p.k)=y.dropWhile (fun q=>kl q.k p.k) ++ c:=by
  intro y
  induction y with
  | nil=>
   cases c with
   | nil=>rfl
   | cons z c=>simp [List.dropWhile_cons,hc0 z (by simp)]
  | cons z y ih=>simp only [List.cons_append,List.dropWhile_cons];split <;> simp_all
 have h5:c.filter (fun q=>!decide (q.k=p.k))=c:=filter_all fun q hq=>(kl_ne (hc q hq)).symm
 unfold ins
 rw [List.append_assoc,h1 _ _ ha,h2 _ _ ha,h3,h4,List.filter_append,h5]
 simp
theorem del_mid {k:ByteArray} {a b c:List KV} (ha:∀ q ∈ a,kl q.k k=true) (hc:∀ q ∈ c,kl k q.k=true):del k (a ++ b ++ c)=a ++ del k b ++ c:=by
 rw [del_append,del_append,del_same fun q hq=>kl_ne (ha q hq),del_same fun q hq=>(kl_ne (hc q hq)).symm]
theorem spot_le {l:List KV} (hs:Sorted l) (k:ByteArray):l.findIdx (fun q=>!kl q.k k)=(l.takeWhile (fun q=>kl q.k k)).length:=by
 induction l with
 | nil=>rfl
 | cons a l ih=>
  have hs':=List.pairwise_cons.1 hs
  rw [List.findIdx_cons,List.takeWhile_cons]
  by_cases h:kl a.k k=true
  ·simp [h,ih hs'.2]
  ·have h':kl a.k k=false:=by simpa using h
   simp [h']
theorem take_spot {l:List KV} (hs:Sorted l) (k:ByteArray):l.take (l.findIdx (fun q=>!kl q.k k))=l.takeWhile (fun q=>kl q.k k):=by
 rw [spot_le hs]
 conv=>lhs;arg 2;rw [← List.takeWhile_append_dropWhile (p:=fun q=>kl q.k k) (l:=l)]
 rw [List.take_left]
theorem drop_spot {l:List KV} (hs:Sorted l) (k:ByteArray):l.drop (l.findIdx (fun q=>!kl q.k k))=l.dropWhile (fun q=>kl q.k k):=by
 rw [spot_le hs]
 conv=>lhs;arg 2;rw [← List.takeWhile_append_dropWhile (p:=fun q=>kl q.k k) (l:=l)]
 rw [List.drop_left]
def hasAt (l:List KV) (i:Nat) (k:ByteArray):Bool:=match l[i]? with
 | some q=>decide (q.k=k)
 | none=>false
def spotOf (l:List KV) (k:ByteArray):Nat:=l.findIdx (fun q=>!kl q.k k)
theorem spotOf_le (l:List KV) (k:ByteArray):spotOf l k≤l.length:=List.findIdx_le_length
theorem ins_spot {l:List KV} (hs:Sorted l) (p:KV):ins p l=l.take (spotOf l p.k) ++ [p] ++ l.drop (if hasAt l (spotOf l p.k) p.k then spotOf l p.k+1 else spotOf l p.k):=by
 unfold ins spotOf
 rw [take_spot hs]
 have hd:=drop_spot hs p.k
 have hg:=dropWhile_ge (p:=p.k) hs
 have hsd:Sorted (l.dropWhile (fun q=>kl q.k p.k)):=hs.sublist (List.dropWhile_sublist _)
 generalize l.findIdx (fun q=>!kl q.k p.k)=i at *
 have hat:l[i]?=(l.dropWhile (fun q=>kl q.k p.k)).head?:=by rw [← hd];simp
 have hd1:l.drop (i+1)=(l.dropWhile (fun q=>kl q.k p.k)).tail:=by rw [← hd];simp
 cases hc:l.dropWhile (fun q=>kl q.k p.k) with
 | nil=>
  rw [hc] at hat hd
  simp [hasAt,hat,hd]
 | cons a r=>
  rw [hc] at hat hd hd1 hg hsd
  have hr:=List.pairwise_cons.1 hsd
  by_cases e:a.k=p.k
  ·have:r.filter (fun q=>!decide (q.k=p.k))=r:=filter_all fun q hq=>by rw [← e];exact (kl_ne (hr.1 q hq)).symm
   simp [hasAt,hat,e,hd1,this]
  ·have hlt:kl p.k a.k=true:=by
    by_cases h2:kl p.k a.k=true
    ·exact h2
    ·exact absurd (kl_tri (hg a (by simp)) (by simpa using h2)) e
   have:r.filter (fun q=>!decide (q.k=p.k))=r:=filter_all fun q hq=>(kl_ne (kl_trans hlt (hr.1 q hq))).symm
   simp [hasAt,hat,e,hd,this]
theorem has_spot {l:List KV} (hs:Sorted l) (k:ByteArray):hasAt l (spotOf l k) k=true ↔ ∃ q ∈ l,q.k=k:=by
 unfold spotOf
 have hd:=drop_spot hs k
 have hg:=dropWhile_ge (p:=k) hs
 have hsd:Sorted (l.dropWhile (fun q=>kl q.k k)):=hs.sublist (List.dropWhile_sublist _)
 have hat:l[l.findIdx (fun q=>!kl q.k k)]?=(l.dropWhile (fun q=>kl q.k k)).head?:=by rw [← hd];simp
 have hm:(∃ q ∈ l,q.k=k) ↔ ∃ q ∈ l.dropWhile (fun q=>kl q.k k),q.k=k:=by
  constructor
  ·rintro ⟨q,hq,e⟩
   rw [← List.takeWhile_append_dropWhile (p:=fun q=>kl q.k k) (l:=l)] at hq
   rcases List.mem_append.1 hq with h | h
   ·exact absurd e (kl_ne (takeWhile_lt q h))
   ·exact ⟨q,h,e⟩
  ·rintro ⟨q,hq,e⟩
   exact ⟨q,List.dropWhile_sublist _ |>.subset hq,e⟩
 rw [hm]
 unfold hasAt
 rw [hat]
 cases hc:l.dropWhile (fun q=>kl q.k k) with
 | nil=>simp
 | cons a r=>
  rw [hc] at hsd hg
  have hr:=List.pairwise_cons.1 hsd
  simp only [List.head?_cons,decide_eq_true_eq,List.mem_cons,exists_eq_or_imp]
  constructor
  ·intro h;exact .inl h
  ·rintro (h | ⟨q,hq,e⟩)
   ·exact h
   ·have h1:=hr.1 q hq
    rw [e] at h1
    have h2:=hg a (by simp)
    rw [h1] at h2;cases h2
theorem del_spot {l:List KV} (hs:Sorted l) {k:ByteArray} (h:hasAt l (spotOf l k) k=true):del k l=l.take (spotOf l k) ++ l.drop (spotOf l k+1):=by
 have e:=List.take_append_drop (spotOf l k) l
 unfold hasAt at h
 split at h
 ·next q hq=>
  have hqk:q.k=k:=by simpa using h
  have hlt:=(List.getElem?_eq_some_iff.1 hq).1
  have hd:l.drop (spotOf l k)=q :: l.drop (spotOf l k+1):=by
   rw [List.drop_eq_getElem_cons hlt,(List.getElem?_eq_some_iff.1 hq).2]
  have hs2:Sorted (l.take (spotOf l k) ++ q :: l.drop (spotOf l k+1)):=by rw [← hd,e];exact hs
  obtain ⟨h1,h2,h3⟩:=Sorted.append.1 hs2
  have h4:=List.pairwise_cons.1 h2
  conv=>lhs;rw [← e,hd]
  rw [del_append,del_same fun x hx=>by rw [← hqk];exact kl_ne (h3 x hx q (by simp))]
  congr 1
  rw [show q :: l.drop (spotOf l k+1)=[q] ++ l.drop (spotOf l k+1) from rfl,del_append,del_same (l:=l.drop (spotOf l k+1)) fun x hx=>by rw [← hqk];exact (kl_ne (h4.1 x hx)).symm]
  simp [del,hqk]
 ·cases h
structure Lnk (X:Type) where
 key:ByteArray
 ref:Option (Nat × Int)
 sub:X
def Tn:Nat→Type
 | 0=>List KV
 | n+1=>List (Lnk (Tn n))
def cont:(n:Nat)→Tn n→List KV
 | 0,ps=>ps
 | n+1,ls=>List.flatMap (fun l:Lnk (Tn n)=>cont n l.sub) ls
def cnt:(n:Nat)→Tn n→Nat
 | 0,ps=>List.length (α:=KV) ps
 | n+1,ls=>List.length (α:=Lnk (Tn n)) ls
def psize (p:KV):Nat:=1+p.k.size+p.v.size
def lsize {X:Type} (l:Lnk X):Nat:=11+l.key.size
def meas {α:Type} (f:α→Nat) (l:List α):Nat:=(l.map f).sum
theorem meas_append {α:Type} (f:α→Nat) (a b:List α):meas f (a ++ b)=meas f a+meas f b:=by simp [meas]
theorem meas_cons {α:Type} (f:α→Nat) (a:α) (b:List α):meas f (a :: b)=f a+meas f b:=by simp [meas]
theorem meas_nil {α:Type} (f:α→Nat):meas f []=0:=rfl
def cutAt {α:Type} (f:α→Nat) (all:Nat):List α→Nat→Nat
 | [],_=>0
 | x :: xs,n=>if 2 * n < all then cutAt f all xs (n+f x)+1 else 0
def halve {α:Type} (f:α→Nat) (l:List α):List (List α):=
 if meas f l≤126 then [l] else [l.take (cutAt f (meas f l) l 0),l.drop (cutAt f (meas f l) l 0)]
def links {α:Type} (low:α→ByteArray) (key:ByteArray):List (List α)→List (Lnk (List α))
 | []=>[]
 | a :: rest=>⟨key,none,a⟩ :: rest.map fun b=>⟨(b.head?.map low).getD ⟨#[]⟩,none,b⟩
def leaves (key:ByteArray) (ps:List KV):List (Lnk (Tn 0)):=links KV.k key (halve psize ps)
def branches (n:Nat) (key:ByteArray) (ls:List (Lnk (Tn n))):List (Lnk (Tn (n+1))):=links Lnk.key key (halve lsize ls)
def wayOf {X:Type} (ls:List (Lnk X)) (k:ByteArray):Nat:=ls.findIdx (fun l=>kl k l.key) - 1
def insAt (p:KV) (ps:List KV):List KV:=ps.take (spotOf ps p.k) ++ [p] ++ ps.drop (if hasAt ps (spotOf ps p.k) p.k then spotOf ps p.k+1 else spotOf ps p.k)
def withT:(n:Nat)→Lnk (Tn n)→KV→List (Lnk (Tn n))
 | 0,l,p=>leaves l.key (insAt p l.sub)
 | n+1,l,p=>
  let ls:List (Lnk (Tn n)):=l.sub
  match ls[wayOf ls p.k]? with
  | some m=>branches n l.key (ls.take (wayOf ls p.k) ++ withT n m p ++ ls.drop (wayOf ls p.k+1))
  | none=>[]
def joinT:(n:Nat)→ByteArray→Tn n→Tn n→List (Lnk (Tn n))
 | 0,key,a,b=>leaves key (List.append (α:=KV) a b)
 | n+1,key,a,b=>branches n key (List.append (α:=Lnk (Tn n)) a b)
def mendedT (n:Nat) (ls:List (Lnk (Tn n))) (i:Nat):List (Lnk (Tn n)):=
 match ls[i]? with
 | none=>ls
 | some l=>if 3≤cnt n l.sub then ls else
  match ls[min i (ls.length - 2)]?,ls[min i (ls.length - 2)+1]? with
  | some a,some b=>ls.take (min i (ls.length - 2)) ++ joinT n a.key a.sub b.sub ++ ls.drop (min i (ls.length - 2)+2)
  | _,_=>ls
def withoutT:(n:Nat)→Lnk (Tn n)→ByteArray→List (Lnk (Tn n))
 | 0,l,k=>leaves l.key (List.take (α:=KV) (spotOf l.sub k) l.sub ++ List.drop (α:=KV) (spotOf l.sub k+1) l.sub)
 | n+1,l,k=>
  let ls:List (Lnk (Tn n)):=l.sub
  match ls[wayOf ls k]? with
  | some m=>branches n l.key (mendedT n (ls.take (wayOf ls k) ++ withoutT n m k ++ ls.drop (wayOf ls k+1)) (wayOf ls k))
  | none=>[]
inductive Root where
 | none
 | at (n:Nat) (l:Lnk (Tn n))
def topT:(n:Nat)→Lnk (Tn n)→Root
 | 0,l=>match (l.sub:List KV) with
  | []=>.none
  | _ :: _=>.at 0 l
 | n+1,l=>match (l.sub:List (Lnk (Tn n))) with
  | []=>.none
  | [m]=>.at n m
  | _ :: _ :: _=>.at (n+1) l
def underT (n:Nat) (ls:List (Lnk (Tn n))):Root:=
 match ls with
 | []=>.none
 | [l]=>topT n l
 | ls=>match branches n ⟨#[]⟩ ls with
  | []=>.none
  | r :: _=>topT (n+1) r
def Root.cont:Root→List KV
 | .none=>[]
 | .at n l=>YtdohpenfkdckiaaGreatDoor.cont n l.sub
def Root.put (r:Root) (p:KV):Root:=match r with
 | .none=>underT 0 (leaves ⟨#[]⟩ [p])
 | .at n l=>underT n (withT n l p)
def Root.del (r:Root) (k:ByteArray):Root:=match r with
 | .none=>.none
 | .at n l=>if (YtdohpenfkdckiaaGreatDoor.cont n l.sub).any (fun q=>decide (q.k=k)) then underT n (withoutT n l k) else .at n l
def okKV (p:KV):Prop:=1≤p.k.size∧p.k.size≤8∧p.v.size≤12
def AheadB {X:Type} (co:X→List KV) (a b:Lnk X):Prop:=kl a.key b.key=true∧∀ q ∈ co a.sub,kl q.k b.key=true
abbrev Ahead (n:Nat) (a b:Lnk (Tn n)):Prop:=AheadB (cont n) a b
structure GoodL (lo:ByteArray) (ps:List KV):Prop where
 sorted:Sorted ps
 all:∀ p ∈ ps,okKV p∧kl p.k lo=false
 fits:meas psize ps≤126
structure GoodB {X:Type} (G:ByteArray→X→Prop) (C:X→Nat) (co:X→List KV) (lo:ByteArray) (ls:List (Lnk X)):Prop where
 head:∀ l ∈ ls.head?,l.key=lo
 all:∀ l ∈ ls,G l.key l.sub∧3≤C l.sub∧l.key.size≤8
 pair:ls.Pairwise (AheadB co)
 fits:meas lsize ls≤126
def Good:(n:Nat)→ByteArray→Tn n→Prop
 | 0,lo,ps=>GoodL lo ps
 | n+1,lo,ls=>GoodB (Good n) (cnt n) (cont n) lo ls
structure Row0 (n:Nat) (lo:ByteArray) (ls:List (Lnk (Tn n))):Prop where
 head:∀ l ∈ ls.head?,l.key=lo
 all:∀ l ∈ ls,Good n l.key l.sub∧l.key.size≤8
 pair:ls.Pairwise (Ahead n)
theorem good_cont:∀ (n:Nat) (lo:ByteArray) (t:Tn n),Good n lo t→Sorted (cont n t)∧∀ q ∈ cont n t,okKV q∧kl q.k lo=false
 | 0,lo,ps,h=>⟨h.1,h.2⟩
 | n+1,lo,ls,h=>by
  obtain ⟨hh,ha,hp,_⟩:=h
  have ih:=fun l:Lnk (Tn n)=>good_cont n l.key l.sub
  have key:∀ (ls:List (Lnk (Tn n))),(∀ l ∈ ls,Good n l.key l.sub)→ls.Pairwise (Ahead n)→Sorted (ls.flatMap fun l=>cont n l.sub)∧∀ q ∈ ls.flatMap (fun l=>cont n l.sub),okKV q∧∀ l ∈ ls.head?,kl q.k l.key=false:=by
   intro ls
   induction ls with
   | nil=>intro _ _;simp [Sorted]
   | cons a ls ihl=>
    intro hg hp
    obtain ⟨hp1,hp2⟩:=List.pairwise_cons.1 hp
    obtain ⟨i1,i2⟩:=ihl (fun l hl=>hg l (by simp [hl])) hp2
    obtain ⟨a1,a2⟩:=ih a (hg a (by simp))
    have hlow:∀ q ∈ ls.flatMap (fun l=>cont n l.sub),∃ b ∈ ls,kl q.k b.key=false:=by
     intro q hq
     obtain ⟨b,hb,hq⟩:=List.mem_flatMap.1 hq
     exact ⟨b,hb,((ih b (hg b (by simp [hb]))).2 q hq).2⟩
    rw [List.flatMap_cons]
    refine ⟨Sorted.append.2 ⟨a1,i1,?_⟩,?_⟩
    ·intro x hx y hy
     obtain ⟨b,hb,hyb⟩:=hlow y hy
     exact kl_lt_of_lt ((hp1 b hb).2 x hx) hyb
    ·intro q hq
     rcases List.mem_append.1 hq with hq | hq
     ·exact ⟨(a2 q hq).1,by simpa using (a2 q hq).2⟩
     ·obtain ⟨b,hb,hqb⟩:=hlow q hq
      refine ⟨(i2 q hq).1,?_⟩
      simp only [List.head?_cons,Option.mem_def,Option.some.injEq,forall_eq']
      exact kl_le_trans (kl_asymm (hp1 b hb).1) hqb
  obtain ⟨k1,k2⟩:=key ls (fun l hl=>(ha l hl).1) hp
  refine ⟨k1,fun q hq=>?_⟩
  obtain ⟨q1,q2⟩:=k2 q hq
  refine ⟨q1,?_⟩
  cases hls:(ls:List (Lnk (Tn n))) with
  | nil=>rw [show cont (n+1) ls=List.flatMap (fun l:Lnk (Tn n)=>cont n l.sub) ls from rfl,hls] at hq;simp at hq
  | cons a r=>
   have e:=hh a (by rw [hls];simp)
   have:=q2 a (by rw [hls];simp)
   rw [e] at this;exact this
section
variable {α:Type} (f:α→Nat)
theorem cutAt_spec (all m:Nat):∀ (l:List α) (n:Nat),(∀ x ∈ l,f x≤m)→2 * n < all+2 * m→all≤2 * (n+meas f l) →
  all≤2 * (n+meas f (l.take (cutAt f all l n)))∧2 * (n+meas f (l.take (cutAt f all l n))) < all+2 * m
 | [],n,_,h1,h2=>by simp [cutAt,meas] at *;omega
 | x :: xs,n,hm,h1,h2=>by
  unfold cutAt
  have hx:=hm x (by simp)
  split
  ·have ih:=cutAt_spec all m xs (n+f x) (fun y hy=>hm y (by simp [hy])) (by omega) (by rw [meas_cons] at h2;omega)
   rw [List.take_succ_cons,meas_cons]
   omega
  ·simp [meas];omega
theorem meas_le (m:Nat):∀ (l:List α),(∀ x ∈ l,f x≤m)→meas f l≤m * l.length
 | [],_=>by simp [meas]
 | x :: xs,h=>by
  have h1:=h x (by simp)
  have h2:=meas_le m xs fun y hy=>h y (by simp [hy])
  rw [meas_cons,List.length_cons,Nat.mul_succ];omega
theorem meas_take_drop (l:List α) (i:Nat):meas f (l.take i)+meas f (l.drop i)=meas f l:=by
 rw [← meas_append,List.take_append_drop]
theorem halve_cases (l:List α) (hm:∀ x ∈ l,f x≤21) (hl:meas f l≤210) :
  (halve f l=[l]∧meas f l≤126)∨∃ a b,halve f l=[a,b]∧a ++ b=l∧meas f a≤126∧meas f b≤126∧3≤a.length∧3≤b.length:=by
 unfold halve
 split
 ·exact .inl ⟨rfl,by assumption⟩
 ·next h=>
  right
  have hs:=cutAt_spec f (meas f l) 21 l 0 hm (by omega) (by omega)
  have ht:=meas_take_drop f l (cutAt f (meas f l) l 0)
  refine ⟨_,_,rfl,List.take_append_drop _ _,by omega,by omega,?_,?_⟩
  ·have:=meas_le f 21 (l.take (cutAt f (meas f l) l 0)) fun x hx=>hm x (List.mem_of_mem_take hx)
   omega
  ·have:=meas_le f 21 (l.drop (cutAt f (meas f l) l 0)) fun x hx=>hm x (List.mem_of_mem_drop hx)
   omega
end
theorem leaves_good {lo:ByteArray} {ps:List KV} (hs:Sorted ps) (ho:∀ p ∈ ps,okKV p∧kl p.k lo=false) (hm:meas psize ps≤210) (hlo:lo.size≤8) :
  Row0 0 lo (leaves lo ps)∧(leaves lo ps).flatMap (fun l=>cont 0 l.sub)=ps ∧
  ((∃ a,leaves lo ps=[a]∧a.key=lo∧a.ref=none∧a.sub=ps)∨∃ a b,leaves lo ps=[a,b]∧a.key=lo∧a.ref=none∧b.ref=none∧3≤cnt 0 a.sub∧3≤cnt 0 b.sub):=by
 have hsz:∀ x ∈ ps,psize x≤21:=fun x hx=>by obtain ⟨⟨h1,h2,h3⟩,_⟩:=ho x hx;unfold psize;omega
 rcases halve_cases psize ps hsz hm with ⟨e,h1⟩ | ⟨a,b,e,hab,ha,hb,ha3,hb3⟩
 ·have e':leaves lo ps=[⟨lo,none,ps⟩]:=by unfold leaves;rw [e];rfl
  rw [e']
  refine ⟨⟨by simp,?_,by simp⟩,List.append_nil ps,.inl ⟨_,rfl,rfl,rfl,rfl⟩⟩
  intro l hl
  rw [List.mem_singleton.1 hl]
  exact ⟨⟨hs,ho,h1⟩,hlo⟩
 ·subst hab
  obtain ⟨c,r,rfl⟩:∃ c r,b=c :: r:=by cases b with
   | nil=>simp at hb3
   | cons c r=>exact ⟨c,r,rfl⟩
  obtain ⟨c0,r0,rfl⟩:∃ c r,a=c :: r:=by cases a with
   | nil=>simp at ha3
   | cons c r=>exact ⟨c,r,rfl⟩
  have e':leaves lo (c0 :: r0 ++ c :: r)=[⟨lo,none,c0 :: r0⟩,⟨c.k,none,c :: r⟩]:=by unfold leaves;rw [e];rfl
  rw [e']
  obtain ⟨s1,s2,s3⟩:=Sorted.append.1 hs
  have hc:=ho c (by simp)
  refine ⟨⟨by simp,?_,?_⟩,show c0 :: r0 ++ (c :: r ++ [])=_ by simp,.inr ⟨_,_,rfl,rfl,rfl,rfl,ha3,hb3⟩⟩
  ·intro l hl
   simp only [List.mem_cons,List.not_mem_nil,or_false] at hl
   rcases hl with rfl | rfl
   ·exact ⟨⟨s1,fun p hp=>ho p (by simp at hp ⊢;rcases hp with h | h <;> simp [h]),ha⟩,hlo⟩
   ·refine ⟨⟨s2,fun p hp=>⟨(ho p (List.mem_append_right _ hp)).1,?_⟩,hb⟩,hc.1.2.1⟩
    rcases List.mem_cons.1 hp with rfl | hp
    ·exact kl_irrefl _
    ·exact kl_asymm ((List.pairwise_cons.1 s2).1 p hp)
  ·simp only [List.pairwise_cons,List.mem_cons,List.not_mem_nil,or_false,forall_eq,List.Pairwise.nil,and_true,false_implies,implies_true]
   refine ⟨kl_lt_of_le (ho c0 (by simp)).2 (s3 c0 (by simp) c (by simp)),fun q hq=>s3 q hq c (by simp)⟩
theorem branches_good {n:Nat} {lo:ByteArray} {ls:List (Lnk (Tn n))} (h:Row0 n lo ls) (h3:∀ l ∈ ls,3≤cnt n l.sub) (hm:meas lsize ls≤210) (hlo:lo.size≤8) :
  Row0 (n+1) lo (branches n lo ls)∧(branches n lo ls).flatMap (fun l=>cont (n+1) l.sub)=ls.flatMap (fun l=>cont n l.sub) ∧
  ((∃ a,branches n lo ls=[a]∧a.key=lo∧a.ref=none∧a.sub=ls)∨∃ a b,branches n lo ls=[a,b]∧a.key=lo∧a.ref=none∧b.ref=none∧3≤cnt (n+1) a.sub∧3≤cnt (n+1) b.sub):=by
 have hsz:∀ x ∈ ls,lsize x≤21:=fun x hx=>by have:=(h.all x hx).2;unfold lsize;omega
 rcases halve_cases lsize ls hsz hm with ⟨e,h1⟩ | ⟨a,b,e,hab,ha,hb,ha3,hb3⟩
 ·have e':branches n lo ls=[⟨lo,none,ls⟩]:=by unfold branches;rw [e];rfl
  rw [e']
  refine ⟨⟨by simp,?_,by simp⟩,List.append_nil _,.inl ⟨_,rfl,rfl,rfl,rfl⟩⟩
  intro l hl
  rw [List.mem_singleton.1 hl]
  exact ⟨⟨h.head,fun l hl=>⟨(h.all l hl).1,h3 l hl,(h.all l hl).2⟩,h.pair,h1⟩,hlo⟩
 ·subst hab
  obtain ⟨c,r,rfl⟩:∃ c r,b=c :: r:=by cases b with
   | nil=>simp at hb3
   | cons c r=>exact ⟨c,r,rfl⟩
  obtain ⟨c0,r0,rfl⟩:∃ c r,a=c :: r:=by cases a with
   | nil=>simp at ha3
   | cons c r=>exact ⟨c,r,rfl⟩
  have e':branches n lo (c0 :: r0 ++ c :: r)=[⟨lo,none,c0 :: r0⟩,⟨c.key,none,c :: r⟩]:=by unfold branches;rw [e];rfl
  rw [e']
  obtain ⟨s1,s2,s3⟩:=List.pairwise_append.1 h.pair
  have hc0:=h.head c0 (by simp)
  have hall:∀ l ∈ c0 :: r0 ++ c :: r,Good n l.key l.sub∧3≤cnt n l.sub∧l.key.size≤8:=fun l hl=>⟨(h.all l hl).1,h3 l hl,(h.all l hl).2⟩
  refine ⟨⟨by simp,?_,?_⟩,?_,.inr ⟨_,_,rfl,rfl,rfl,rfl,ha3,hb3⟩⟩
  rotate_left 2
  ·show List.flatMap _ (c0 :: r0) ++ (List.flatMap _ (c :: r) ++ [])=_
   rw [List.append_nil,← List.flatMap_append]
  ·intro l hl
   simp only [List.mem_cons,List.not_mem_nil,or_false] at hl
   rcases hl with rfl | rfl
   ·exact ⟨⟨by simpa using hc0,fun l hl=>hall l (List.mem_append_left _ hl),s1,ha⟩,hlo⟩
   ·exact ⟨⟨by simp,fun l hl=>hall l (List.mem_append_right _ hl),s2,hb⟩,(hall c (by simp)).2.2⟩
  ·simp only [List.pairwise_cons,List.mem_cons,List.not_mem_nil,or_false,forall_eq,List.Pairwise.nil,and_true,false_implies,implies_true]
   refine ⟨by rw [← hc0];exact (s3 c0 (by simp) c (by simp)).1,fun q hq=>?_⟩
   obtain ⟨l,hl,hq⟩:=List.mem_flatMap.1 hq
   exact (s3 l hl c (by simp)).2 q hq
def lnks {n:Nat} (t:Tn (n+1)):List (Lnk (Tn n)):=t
def prs (t:Tn 0):List KV:=t
theorem cont_ne:∀ (n:Nat) (lo:ByteArray) (t:Tn n),Good n lo t→1≤cnt n t→∃ q,q ∈ cont n t
 | 0,lo,ps,h,h1=>by
  have h2:1≤(prs ps).length:=h1
  obtain ⟨a,ha⟩:=List.exists_mem_of_length_pos (l:=prs ps) (by omega)
  exact ⟨a,ha⟩
 | n+1,lo,ls,h,h1=>by
  have h2:1≤(lnks ls).length:=h1
  obtain ⟨a,ha⟩:=List.exists_mem_of_length_pos (l:=lnks ls) (by omega)
  have hg:=h.all a ha
  obtain ⟨q,hq⟩:=cont_ne n a.key a.sub hg.1 (by omega)
  exact ⟨q,List.mem_flatMap.2 ⟨a,ha,hq⟩⟩
theorem way_split {n:Nat} {lo k:ByteArray} {ls:List (Lnk (Tn n))} (h:Row0 n lo ls) (hne:ls≠[]) (hk:kl k lo=false) :
  ∃ A m B,ls=A ++ m :: B∧A.length=wayOf ls k∧kl k m.key=false∧(∀ a ∈ A,∀ q ∈ cont n a.sub,kl q.k k=true)∧(∀ b ∈ B,kl k b.key=true):=by
 have hpos:1≤ls.findIdx (fun l=>kl k l.key):=by
  cases ls with
  | nil=>exact absurd rfl hne
  | cons a r=>
   have e:=h.head a (by simp)
   rw [List.findIdx_cons,e,hk]
   simp
 have hle:ls.findIdx (fun l=>kl k l.key)≤ls.length:=List.findIdx_le_length
 have hi:wayOf ls k < ls.length:=by unfold wayOf;omega
 have hm:kl k (ls[wayOf ls k]).key=false:=by
  have:=List.not_of_lt_findIdx (p:=fun l:Lnk (Tn n)=>kl k l.key) (xs:=ls) (i:=wayOf ls k) (by unfold wayOf;omega)
  simpa using this
 have hsp:ls=ls.take (wayOf ls k) ++ ls[wayOf ls k] :: ls.drop (wayOf ls k+1):=by
  rw [List.getElem_cons_drop];simp
 have hp:=h.pair
 rw [hsp] at hp
 obtain ⟨p1,p2,p3⟩:=List.pairwise_append.1 hp
 refine ⟨ls.take (wayOf ls k),ls[wayOf ls k],ls.drop (wayOf ls k+1),hsp,by simp;omega,hm,?_,?_⟩
 ·intro a ha q hq
  exact kl_lt_of_lt ((p3 a ha _ (List.mem_cons_self ..)).2 q hq) hm
 ·intro b hb
  have e:wayOf ls k+1=ls.findIdx (fun l=>kl k l.key):=by unfold wayOf;omega
  rw [e] at hb
  by_cases hlt:ls.findIdx (fun l=>kl k l.key) < ls.length
  ·have h0:kl k (ls[ls.findIdx (fun l=>kl k l.key)]).key=true:=List.findIdx_getElem (w:=hlt)
   rw [List.drop_eq_getElem_cons hlt] at hb
   rcases List.mem_cons.1 hb with rfl | hb
   ·exact h0
   ·have hp2:=h.pair
    rw [← List.take_append_drop (ls.findIdx (fun l=>kl k l.key)) ls,List.drop_eq_getElem_cons hlt] at hp2
    have:=(List.pairwise_cons.1 (List.pairwise_append.1 hp2).2.1).1 b hb
    exact kl_trans h0 this.1
  ·rw [List.drop_of_length_le (by omega)] at hb
   simp at hb
theorem Row0.keys {n:Nat} {lo:ByteArray} {W:List (Lnk (Tn n))} (h:Row0 n lo W):∀ w ∈ W,kl w.key lo=false:=by
 intro w hw
 cases W with
 | nil=>simp at hw
 | cons a r=>
  have e:=h.head a (by simp)
  rcases List.mem_cons.1 hw with rfl | hw
  ·rw [e];exact kl_irrefl _
  ·have:=((List.pairwise_cons.1 h.pair).1 w hw).1
   rw [e] at this
   exact kl_asymm this
theorem row_splice {n:Nat} {lo:ByteArray} {A B W:List (Lnk (Tn n))} {m:Lnk (Tn n)} (h:Row0 n lo (A ++ m :: B)) (hW:Row0 n m.key W) (hne:W≠[]) (hc:∀ w ∈ W,1≤cnt n w.sub)
  (hB:∀ w ∈ W,∀ q ∈ cont n w.sub,∀ b ∈ B,kl q.k b.key=true):Row0 n lo (A ++ W ++ B):=by
 obtain ⟨p1,p2,p3⟩:=List.pairwise_append.1 h.pair
 obtain ⟨p4,p5⟩:=List.pairwise_cons.1 p2
 refine ⟨?_,?_,?_⟩
 ·intro l hl
  cases A with
  | nil=>
   have e:=h.head m (by simp)
   cases W with
   | nil=>exact absurd rfl hne
   | cons w W=>
    simp at hl
    rw [← hl,hW.head w (by simp),e]
  | cons a A=>
   simp at hl
   rw [← hl];exact h.head a (by simp)
 ·intro l hl
  simp only [List.mem_append] at hl
  rcases hl with (hl | hl) | hl
  ·exact h.all l (by simp [hl])
  ·exact hW.all l hl
  ·exact h.all l (by simp [hl])
 ·rw [List.append_assoc]
  refine List.pairwise_append.2 ⟨p1,List.pairwise_append.2 ⟨hW.pair,p5,?_⟩,?_⟩
  ·intro w hw b hb
   obtain ⟨q,hq⟩:=cont_ne n w.key w.sub (hW.all w hw).1 (hc w hw)
   have hqb:=hB w hw q hq b hb
   have hqw:=((good_cont n w.key w.sub (hW.all w hw).1).2 q hq).2
   exact ⟨kl_lt_of_le hqw hqb,fun q hq=>hB w hw q hq b hb⟩
  ·intro a ha x hx
   rcases List.mem_append.1 hx with hx | hx
   ·have hm:=p3 a ha m (by simp)
    have hk:=hW.keys x hx
    exact ⟨kl_lt_of_lt hm.1 hk,fun q hq=>kl_lt_of_lt (hm.2 q hq) hk⟩
   ·exact p3 a ha x (by simp [hx])
theorem meas_ins (p:KV) {l:List KV} (hs:Sorted l):meas psize (ins p l)≤meas psize l+psize p:=by
 rw [ins_spot hs,meas_append,meas_append,meas_cons,meas_nil]
 have h1:=meas_take_drop psize l (spotOf l p.k)
 have h2:meas psize (l.drop (if hasAt l (spotOf l p.k) p.k then spotOf l p.k+1 else spotOf l p.k))≤meas psize (l.drop (spotOf l p.k)):=by
  split
  ·have:=meas_take_drop psize (l.drop (spotOf l p.k)) 1
   rw [List.drop_drop] at this
   omega
  ·exact Nat.le_refl _
 omega
theorem ins_ge (p:KV) {l:List KV} (hs:Sorted l):l.length≤(ins p l).length:=by
 rw [ins_spot hs]
 have:=spotOf_le l p.k
 simp only [List.length_append,List.length_take,List.length_drop,List.length_cons,List.length_nil]
 split <;> omega
def Made (n:Nat) (l:Lnk (Tn n)) (d:Nat) (W:List (Lnk (Tn n))):Prop:=
 (∃ a,W=[a]∧a.key=l.key∧a.ref=none∧cnt n l.sub≤cnt n a.sub+d)∨∃ a b,W=[a,b]∧a.key=l.key∧a.ref=none∧b.ref=none∧3≤cnt n a.sub∧3≤cnt n b.sub
theorem Made.ne {n:Nat} {l:Lnk (Tn n)} {d:Nat} {W:List (Lnk (Tn n))} (h:Made n l d W):W≠[]:=by
 rcases h with ⟨a,rfl,_⟩ | ⟨a,b,rfl,_⟩ <;> simp
theorem Made.meas {n:Nat} {l:Lnk (Tn n)} {d:Nat} {W:List (Lnk (Tn n))} (h:Made n l d W) (hk:∀ w ∈ W,w.key.size≤8):meas lsize W≤lsize l+19:=by
 rcases h with ⟨a,rfl,e,_⟩ | ⟨a,b,rfl,e,_⟩
 ·simp [YtdohpenfkdckiaaGreatDoor.meas,lsize,e]
 ·have:=hk b (by simp)
  simp [YtdohpenfkdckiaaGreatDoor.meas,lsize,e];omega
theorem with_good:∀ (n:Nat) (l:Lnk (Tn n)) (p:KV),Good n l.key l.sub→okKV p→kl p.k l.key=false→l.key.size≤8→1≤cnt n l.sub →
  Row0 n l.key (withT n l p)∧(withT n l p).flatMap (fun l=>cont n l.sub)=ins p (cont n l.sub)∧Made n l 0 (withT n l p)
 | 0,l,p,h,hp,hk,hz,h1=>by
  have hs:Sorted l.sub:=h.sorted
  have e:insAt p l.sub=ins p l.sub:=(ins_spot hs p).symm
  have hm:=meas_ins p hs
  have hps:psize p≤21:=by obtain ⟨h1,h2,h3⟩:=hp;unfold psize;omega
  obtain ⟨r1,r2,r3⟩:=leaves_good (lo:=l.key) (ps:=ins p l.sub) (hs.ins p) (fun q hq=>by
   rcases mem_ins hq with rfl | hq
   ·exact ⟨hp,hk⟩
   ·exact h.all q hq) (by have:=h.fits;omega) hz
  show Row0 0 l.key (leaves l.key (insAt p l.sub))∧List.flatMap _ (leaves l.key (insAt p l.sub))=_∧Made 0 l 0 (leaves l.key (insAt p l.sub))
  rw [e]
  refine ⟨r1,r2,?_⟩
  rcases r3 with ⟨a,e1,e2,e3,e4⟩ | ⟨a,b,e1,e2,e3,e4,e5,e6⟩
  ·refine .inl ⟨a,e1,e2,e3,?_⟩
   rw [e4]
   exact ins_ge p hs
  ·exact .inr ⟨a,b,e1,e2,e3,e4,e5,e6⟩
 | n+1,l,p,h,hp,hk,hz,h1=>by
  have hr:Row0 n l.key l.sub:=⟨h.head,fun m hm=>⟨(h.all m hm).1,(h.all m hm).2.2⟩,h.pair⟩
  obtain ⟨A,m,B,e,hA,hkm,hqA,hqB⟩:=way_split (k:=p.k) hr (by intro e;have h2:1≤List.length (α:=Lnk (Tn n)) l.sub:=h1;rw [e] at h2;simp at h2) hk
  have hall:∀ x ∈ A ++ m :: B,Good n x.key x.sub∧3≤cnt n x.sub∧x.key.size≤8:=fun x hx=>h.all x (by rw [e];exact hx)
  have hm:=hall m (by simp)
  obtain ⟨w1,w2,w3⟩:=with_good n m p hm.1 hp hkm hm.2.2 (by omega)
  have hwc:∀ w ∈ withT n m p,3≤cnt n w.sub:=by
   rcases w3 with ⟨a,e1,_,_,e4⟩ | ⟨a,b,e1,_,_,_,e5,e6⟩
   ·rw [e1];intro w hw;rw [List.mem_singleton.1 hw];omega
   ·rw [e1];intro w hw
    simp only [List.mem_cons,List.not_mem_nil,or_false] at hw
    rcases hw with rfl | rfl <;> assumption
  have hr':Row0 n l.key (A ++ m :: B):=by rw [← e];exact hr
  have hqm:∀ w ∈ withT n m p,∀ q ∈ cont n w.sub,q=p∨q ∈ cont n m.sub:=fun w hw q hq=>by
   have:q ∈ (withT n m p).flatMap (fun l=>cont n l.sub):=List.mem_flatMap.2 ⟨w,hw,hq⟩
   rw [w2] at this
   exact mem_ins this
  have hpair:=List.pairwise_append.1 hr'.pair
  have hsp:=row_splice hr' w1 w3.ne (fun w hw=>by have:=hwc w hw;omega) (fun w hw q hq b hb=>by
   rcases hqm w hw q hq with rfl | hq
   ·exact hqB b hb
   ·exact ((List.pairwise_cons.1 hpair.2.1).1 b hb).2 q hq)
  have hmW:=w3.meas (fun w hw=>(w1.all w hw).2)
  have hfit:meas lsize (A ++ m :: B)≤126:=by have:=h.fits;rw [e] at this;exact this
  have hmm:meas lsize (A ++ withT n m p ++ B)≤210:=by
   rw [meas_append,meas_append]
   rw [meas_append,meas_cons] at hfit
   omega
  have hget:(lnks l.sub)[wayOf (lnks l.sub) p.k]?=some m:=by rw [show wayOf (lnks l.sub) p.k=A.length from hA.symm,show lnks l.sub=A ++ m :: B from e];simp
  have htake:(lnks l.sub).take (wayOf (lnks l.sub) p.k)=A:=by rw [show wayOf (lnks l.sub) p.k=A.length from hA.symm,show lnks l.sub=A ++ m :: B from e];simp
  have hdrop:(lnks l.sub).drop (wayOf (lnks l.sub) p.k+1)=B:=by
   rw [show wayOf (lnks l.sub) p.k=A.length from hA.symm,show lnks l.sub=(A ++ [m]) ++ B by rw [show lnks l.sub=A ++ m :: B from e];simp]
   exact List.drop_left' (by simp)
  have hw:withT (n+1) l p=branches n l.key (A ++ withT n m p ++ B):=by
   show (match (lnks l.sub)[wayOf (lnks l.sub) p.k]? with
    | some m=>branches n l.key ((lnks l.sub).take (wayOf (lnks l.sub) p.k) ++ withT n m p ++ (lnks l.sub).drop (wayOf (lnks l.sub) p.k+1))
    | none=>[])=_
   rw [hget,htake,hdrop]
  rw [hw]
  obtain ⟨b1,b2,b3⟩:=branches_good hsp (fun x hx=>by
   simp only [List.mem_append] at hx
   rcases hx with (hx | hx) | hx
   ·exact (hall x (by simp [hx])).2.1
   ·exact hwc x hx
   ·exact (hall x (by simp [hx])).2.1) hmm hz
  refine ⟨b1,?_,?_⟩
  ·rw [b2]
   show _=ins p (List.flatMap (fun l:Lnk (Tn n)=>cont n l.sub) l.sub)
   rw [e]
   simp only [List.flatMap_append,w2,List.flatMap_cons]
   rw [← List.append_assoc,ins_mid (fun q hq=>by obtain ⟨a,ha,hq⟩:=List.mem_flatMap.1 hq;exact hqA a ha q hq) (fun q hq=>by
    obtain ⟨b,hb,hq⟩:=List.mem_flatMap.1 hq
    exact kl_lt_of_lt (hqB b hb) ((good_cont n b.key b.sub (hall b (by simp [hb])).1).2 q hq).2)]
  ·rcases b3 with ⟨a,e1,e2,e3,e4⟩ | ⟨a,b,e1,e2,e3,e4,e5,e6⟩
   ·refine .inl ⟨a,e1,e2,e3,?_⟩
    rw [e4]
    show List.length (α:=Lnk (Tn n)) l.sub≤List.length (α:=Lnk (Tn n)) (A ++ withT n m p ++ B)
    rw [e]
    have:1≤(withT n m p).length:=by
     rcases w3 with ⟨a,e1,_⟩ | ⟨a,b,e1,_⟩ <;> rw [e1] <;> simp
    simp;omega
   ·exact .inr ⟨a,b,e1,e2,e3,e4,e5,e6⟩
end Go.Proofs.YtdohpenfkdckiaaGreatDoor
