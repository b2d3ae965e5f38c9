import Derived.Test.YtdohpenfkdckiaaGreatDoorJ03
import Derived.Conc.MuLib
import Derived.Conc.MuLone
import Derived.KernelRfl
import Derived.Stop.Asserts
import Derived.Laws.Strings
import Derived.Laws.Cover1
import Derived.Test.YtdohpenfkdckiaaGreatDoorProg
import Derived.Test.YtdohpenfkdckiaaGreatDoorJ01
import Derived.Deep.RegionHeld
namespace Go.Proofs.YtdohpenfkdckiaaGreatDoor
set_option linter.unusedSimpArgs false
set_option linter.unusedVariables false
open Go.RowKit Go.Extern.Stop Go.Stop Go.Extern

theorem unwrap_ok (F : Nat) (call : ByteArray) (x : Value) (w : World) (hF : w.heap[F]? = some (.cells #[.string call, x] 246)) :
    Calls Tryz.prog 353 #[.pointer (some ⟨F, 0, none⟩)] w fun e w' => e = .returned x ∧ w' = w := by
  have c1 := cell_of hF 1
  simp at c1
  clear hF
  go_enter Tryz.func353, Tryz.ntmps353
  go_wp2
  go_ret
  exact ⟨rfl, rfl⟩

set_option maxHeartbeats 4000000 in
set_option maxRecDepth 10000 in
theorem as93_ok (F E a : Nat) (call : ByteArray) (k : Int) (w : World) (hF : w.heap[F]? = some (.cells #[.string call, .iface 45 (.int .i64 k)] 246)) (hE : w.heap[E]? = some (.cells #[.int .i64 0] 45)) (ha : w.heap[a]? = some (.cells #[.pointer (some ⟨E, 0, none⟩)] 95)) :
    Calls Tryz.prog 98 #[.iface 243 (.pointer (some ⟨F, 0, none⟩)), .iface 95 (.pointer (some ⟨E, 0, none⟩)), .agg #[.pointer (some ⟨5, 95, none⟩), .pointer (some ⟨a, 0, none⟩), .int .u64 150], .iface 220 (.agg #[.pointer (some ⟨5, 45, none⟩)])] w fun e w' => e = .returned (.bool true) ∧ w'.heap[E]? = some (.cells #[.int .i64 k] 45) ∧ Kp [E] w w' := by
  have h90 := @run_callFunc_extern Tryz.prog 95 _ (fun args => ReflectliteValue.unpack (args.getD 0 (.tuple #[]))) Tryz.func95 (by kernel_rfl) (by kernel_rfl) (by kernel_rfl) (by kernel_rfl)
  have h142 := @run_callFunc_extern Tryz.prog 151 _ ReflectliteType.typeOf Tryz.func151 (by kernel_rfl) (by kernel_rfl) (by kernel_rfl) (by kernel_rfl)
  have h285 := @run_callFunc_extern Tryz.prog 342 _ (ReflectliteType.relation "AssignableTo" ReflectliteType.assignableTo) Tryz.func342 (by kernel_rfl) (by kernel_rfl) (by kernel_rfl) (by kernel_rfl)
  have h143 := @run_callFunc_extern Tryz.prog 152 _ (ReflectliteValue.method (ReflectliteValue.valueError "reflectlite.Value.Elem" 0) ReflectliteValue.elem) Tryz.func152 (by kernel_rfl) (by kernel_rfl) (by kernel_rfl) (by kernel_rfl)
  have h144 := @run_callFunc_extern Tryz.prog 153 _ ReflectliteValue.set Tryz.func153 (by kernel_rfl) (by kernel_rfl) (by kernel_rfl) (by kernel_rfl)
  have tF := as_typeOfF
  have tE := as_typeOfE
  have mA := as_mAssignableTo
  have mU := as_mUnwrap
  have aF := as_assignF
  have aE := as_assignE
  have vE := as_valueOfE
  have ta1 : ∀ W : World, Sem.run Tryz.prog (Instr.typeAssert (.iface 243 (.pointer (some ⟨F, 0, none⟩))) 38 225 true) W = .ok (.tuple #[.nilIface, .bool false]) W := fun W => run_typeAssert_lacksB Tryz.underlying225 (by kernel_rfl) (by kernel_rfl) _ _ W
  have ta2 : ∀ W : World, Sem.run Tryz.prog (Instr.typeAssert (.iface 243 (.pointer (some ⟨F, 0, none⟩))) 38 228 true) W = .ok (.tuple #[.iface 243 (.pointer (some ⟨F, 0, none⟩)), .bool true]) W := fun W => run_typeAssert_hasB Tryz.underlying228 (by kernel_rfl) _ _ W
  have hEs := lt_of_heap hE
  have hFs := lt_of_heap hF
  have has := lt_of_heap ha
  go_enter Tryz.func98, Tryz.ntmps98
  go_wp2
  refine wp_loop_rounds 3 ?_
  rw [rounds_succ]
  go_wp2_with fail
  obtain ⟨W1, hW1, hK1, hs1⟩ : ∃ W1, W1 = w.alloc (Obj.cells #[.pointer (some ⟨5, 95, none⟩), .pointer (some ⟨a, 0, none⟩), .int .u64 150] 143) ∧ Kp [E] w W1 ∧ W1.heap.size = w.heap.size + 1 := ⟨_, rfl, (Kp.refl _ _).alloc _, by simp⟩
  have hF1 : W1.heap[F]? = some (.cells #[.string call, .iface 45 (.int .i64 k)] 246) := by rw [hW1]; exact heap_old _ hF
  have hE1 : W1.heap[E]? = some (.cells #[.int .i64 0] 45) := by rw [hW1]; exact heap_old _ hE
  have ha1 : W1.heap[a]? = some (.cells #[.pointer (some ⟨E, 0, none⟩)] 95) := by rw [hW1]; exact heap_old _ ha
  have hv1 : W1.heap[w.heap.size]? = some (Obj.cells #[.pointer (some ⟨5, 95, none⟩), .pointer (some ⟨a, 0, none⟩), .int .u64 150] 143) := by rw [hW1]; exact heap_new _ _
  rw [← hW1]
  clear hW1
  have v0 := cell_of hv1 0
  have v1 := cell_of hv1 1
  have v2 := cell_of hv1 2
  have a0 := cell_of ha1 0
  simp at v0 v1 v2 a0
  have eV := as_elemV ⟨a, 0, none⟩ ⟨E, 0, none⟩ W1 a0
  have hb2 := cell_of (heap_new W1 (.cells #[.int .i64 k] 45)) 0
  have he2 := cell_of (heap_old (.cells #[.int .i64 k] 45) hE1) 0
  have hfz2 := frozen_of (heap_old (.cells #[.int .i64 k] 45) hE1) 0
  simp at hb2 he2
  have sE := as_set ⟨E, 0, none⟩ ⟨W1.heap.size, 0, none⟩ k (.int .i64 0) (W1.alloc (.cells #[.int .i64 k] 45)) (by simp) (by simpa using he2) hfz2
  rw [hs1] at sE
  clear hb2 he2 hfz2
  refine (unwrap_ok F call _ _ hF1).mono ?_
  rintro e w2 ⟨rfl, rfl⟩
  go_wp2_with fail
  rw [rounds_succ]
  go_wp2
  go_ret
  refine ⟨rfl, ?_, ?_⟩
  · first
      | exact heap_set (heap_old _ hE1) 0 _
      | exact heap_old _ (heap_set hE1 0 _)
  · first
      | exact (hK1.alloc _).setCell (by simp) _
      | exact (hK1.setCell (by simp) _).alloc _

set_option maxHeartbeats 4000000 in
set_option maxRecDepth 10000 in
theorem as51_ok (F E : Nat) (call : ByteArray) (k : Int) (w : World) (hg : w.cell? ⟨0, 0, none⟩ = some errType) (hF : w.heap[F]? = some (.cells #[.string call, .iface 45 (.int .i64 k)] 246)) (hE : w.heap[E]? = some (.cells #[.int .i64 0] 45)) :
    Calls Tryz.prog 53 #[.iface 243 (.pointer (some ⟨F, 0, none⟩)), .iface 95 (.pointer (some ⟨E, 0, none⟩))] w fun e w' => e = .returned (.bool true) ∧ w'.heap[E]? = some (.cells #[.int .i64 k] 45) ∧ Kp [E] w w' := by
  have h90 := @run_callFunc_extern Tryz.prog 95 _ (fun args => ReflectliteValue.unpack (args.getD 0 (.tuple #[]))) Tryz.func95 (by kernel_rfl) (by kernel_rfl) (by kernel_rfl) (by kernel_rfl)
  have h91 := @run_callFunc_extern Tryz.prog 96 _ (ReflectliteValue.methodAny (ReflectliteValue.valueError "reflectlite.Value.Type" 0) (fun t _ _ _ => ReflectliteType.toType t)) Tryz.func96 (by kernel_rfl) (by kernel_rfl) (by kernel_rfl) (by kernel_rfl)
  have h92 := @run_callFunc_extern Tryz.prog 97 _ (ReflectliteValue.method (ReflectliteValue.valueError "reflectlite.Value.IsNil" 0) ReflectliteValue.isNil) Tryz.func97 (by kernel_rfl) (by kernel_rfl) (by kernel_rfl) (by kernel_rfl)
  have h266 := @run_callFunc_extern Tryz.prog 322 _ (ReflectliteType.abiMethod fun t => do pure (.int .u8 (← Rtype.kind t))) Tryz.func322 (by kernel_rfl) (by kernel_rfl) (by kernel_rfl) (by kernel_rfl)
  have h287 := @run_callFunc_extern Tryz.prog 344 _ (ReflectliteType.method ReflectliteType.elem) Tryz.func344 (by kernel_rfl) (by kernel_rfl) (by kernel_rfl) (by kernel_rfl)
  have h288 := @run_callFunc_extern Tryz.prog 345 _ (ReflectliteType.relation "Implements" ReflectliteType.implements_) Tryz.func345 (by kernel_rfl) (by kernel_rfl) (by kernel_rfl) (by kernel_rfl)
  have vO := as_valueOf
  have tY := as_type
  have mK := as_mKind
  have mE := as_mElem
  have mI := as_mImplements
  have kP := as_kindP
  have kE := as_kindE
  have eL := as_elem
  have iM := as_implements
  have hEs := lt_of_heap hE
  have hFs := lt_of_heap hF
  have hgl : 0 < w.heap.size := by omega
  have nN := as_isNil ⟨w.heap.size, 0, none⟩ ⟨E, 0, none⟩ ((w.alloc (.cells #[.pointer (some ⟨E, 0, none⟩)] 95)).alloc (.cells #[.pointer (some ⟨5, 95, none⟩), .pointer (some ⟨w.heap.size, 0, none⟩), .int .u64 150] 143)) (by simp)
  have hg2 : ((w.alloc (.cells #[.pointer (some ⟨E, 0, none⟩)] 95)).alloc (.cells #[.pointer (some ⟨5, 95, none⟩), .pointer (some ⟨w.heap.size, 0, none⟩), .int .u64 150] 143)).cell? ⟨0, 0, none⟩ = some (.iface 220 (.agg #[.pointer (some ⟨5, 38, none⟩)])) := by
    rw [World.cell?_alloc_lt _ _ ⟨0, 0, none⟩ (by simp), World.cell?_alloc_lt _ _ ⟨0, 0, none⟩ hgl]; exact hg
  clear hg
  go_enter Tryz.func53, Tryz.ntmps53
  go_wp2_with fail
  refine (as93_ok F E w.heap.size call k _ (heap_old _ (heap_old _ hF)) (heap_old _ (heap_old _ hE)) (heap_old _ (heap_new _ _))).mono ?_
  rintro e w1 ⟨rfl, hE1, hK1⟩
  have hK1' : Kp [E] w w1 := (((Kp.refl [E] w).alloc _).alloc _).trans hK1 (by simp)
  clear h90 h91 h92 h266 h287 h288 vO tY mK mE mI kP kE eL iM nN hg2 hK1
  go_wp2
  go_ret
  exact ⟨rfl, hE1, hK1'⟩
end Go.Proofs.YtdohpenfkdckiaaGreatDoor


namespace Go.Proofs.YtdohpenfkdckiaaGreatDoor
set_option linter.unusedSimpArgs false
set_option linter.unusedVariables false
open Go.RowKit
theorem told_nil (w : World) : Calls Tryz.prog 24 #[.nilIface] w fun e w' => e = .returned (.int .i64 0) ∧ w' = w := by
  go_enter Tryz.func24, Tryz.ntmps24
  go_wp2
  go_ret
  exact ⟨rfl, rfl⟩
set_option maxHeartbeats 400000 in
set_option maxRecDepth 10000 in
theorem told_fault (F : Nat) (call : ByteArray) (k : Int) (w : World) (hg : w.cell? ⟨0, 0, none⟩ = some errType) (hF : w.heap[F]? = some (.cells #[.string call, .iface 45 (.int .i64 k)] 246)) :
    Calls Tryz.prog 24 #[.iface 243 (.pointer (some ⟨F, 0, none⟩))] w fun e w' => e = .returned (.int .i64 k) ∧ Kp [] w w' := by
  have hFs := lt_of_heap hF
  have hgl : 0 < w.heap.size := by omega
  go_enter Tryz.func24, Tryz.ntmps24
  go_wp2_with fail
  refine (as51_ok F w.heap.size call k _ (by rw [World.cell?_alloc_lt _ _ ⟨0, 0, none⟩ hgl]; exact hg) (heap_old _ hF) (heap_new _ _)).mono ?_
  rintro e w1 ⟨rfl, hE1, hK1⟩
  have hK1' : Kp [] w w1 := ((Kp.refl [] w).alloc _).trans hK1 (by intro i hi hlt; simp at hi; omega)
  have c0 := cell_of hE1 0
  simp at c0
  clear hK1 hg
  go_wp2
  go_ret
  exact ⟨rfl, hK1'⟩
end Go.Proofs.YtdohpenfkdckiaaGreatDoor


namespace Go.Proofs.YtdohpenfkdckiaaGreatDoor
set_option linter.unusedSimpArgs false
set_option linter.unusedVariables false
abbrev muLink : Go.Conc.Locks.MuLink := { lock := 105, unlock := 106, ilock := 165, iunlock := 166, lockSlow := 231, unlockSlow := 234, disable := 227, enable := 229, acquire := 230, relMerge := 232, cas32 := 228, add32 := 233, tMutex := 164, tIMutex := 162, tPMutex := 242, tPIMutex := 306, tPI32 := 308, tUP := 140, tNoCopy := 159, tU32 := 160 }
theorem muLib : Go.Conc.Locks.MuLib Tryz.prog muLink :=
  ⟨Tryz.func105, Tryz.func106, Tryz.func165, Tryz.func166, Tryz.func227, Tryz.func229, Tryz.func230, Tryz.func232, Tryz.func228, Tryz.func233, Tryz.underlying162, Tryz.runUnderlying162, Tryz.sizeOf162, Tryz.isAgg162, Tryz.zeroValue162, Tryz.underlying164, Tryz.runUnderlying164, Tryz.sizeOf164, Tryz.isAgg164, Tryz.zeroValue164, Tryz.underlying242, Tryz.runUnderlying242, Tryz.sizeOf242, Tryz.isAgg242, Tryz.zeroValue242, Tryz.underlying306, Tryz.runUnderlying306, Tryz.sizeOf306, Tryz.isAgg306, Tryz.zeroValue306, Tryz.underlying308, Tryz.runUnderlying308, Tryz.sizeOf308, Tryz.isAgg308, Tryz.zeroValue308, Tryz.underlying140, Tryz.runUnderlying140, Tryz.sizeOf140, Tryz.isAgg140, Tryz.zeroValue140, Tryz.underlying159, Tryz.runUnderlying159, Tryz.sizeOf159, Tryz.isAgg159, Tryz.zeroValue159, Tryz.underlying21, Tryz.runUnderlying21, Tryz.sizeOf21, Tryz.isAgg21, Tryz.zeroValue21, (by kernel_rfl)⟩
end Go.Proofs.YtdohpenfkdckiaaGreatDoor


namespace Go.Proofs.YtdohpenfkdckiaaGreatDoor
set_option linter.unusedSimpArgs false
set_option linter.unusedVariables false
open Go.RowKit Go.Extern.Stop Go.Stop Go.Extern

theorem is_comparable (w : World) : ((Extern.ReflectliteType.method fun t => do Rtype.noPackHeld "Comparable" t; (fun a => Value.bool a.comparable) <$> typeInfo t) #[.agg #[.pointer (some ⟨5, 45, none⟩)]]).run Tryz.prog w = .ok (.bool true) w := by kernel_rfl
theorem is_mComparable (h : Value) (w : World) : (Go.method 513 220 (.agg #[h]) "Comparable").run Tryz.prog w = .ok (343, .agg #[h]) w := by kernel_rfl
theorem is_eq8 (k : Int) (w : World) : Sem.run Tryz.prog (binOp .eql 38 (.iface 45 (.int .i64 k)) (.iface 45 (.int .i64 8))) w = .ok (.bool (k == 8)) w := by
  kernel_rfl
theorem is_noIsF (v : Value) (xT : TypeId) (w : World) : (Instr.typeAssert (.iface 243 v) xT 313 true).run Tryz.prog w = .ok (.tuple #[.nilIface, .bool false]) w := run_typeAssert_lacksB Tryz.underlying313 (by kernel_rfl) (by kernel_rfl) v xT w
theorem is_noIsE (v : Value) (xT : TypeId) (w : World) : (Instr.typeAssert (.iface 45 v) xT 313 true).run Tryz.prog w = .ok (.tuple #[.nilIface, .bool false]) w := run_typeAssert_lacksB Tryz.underlying313 (by kernel_rfl) (by kernel_rfl) v xT w
theorem is_noUnE (v : Value) (xT : TypeId) (w : World) : (Instr.typeAssert (.iface 45 v) xT 228 true).run Tryz.prog w = .ok (.tuple #[.nilIface, .bool false]) w := run_typeAssert_lacksB Tryz.underlying228 (by kernel_rfl) (by kernel_rfl) v xT w
theorem is_noUnsE (v : Value) (xT : TypeId) (w : World) : (Instr.typeAssert (.iface 45 v) xT 229 true).run Tryz.prog w = .ok (.tuple #[.nilIface, .bool false]) w := run_typeAssert_lacksB Tryz.underlying229 (by kernel_rfl) (by kernel_rfl) v xT w
theorem is_hasUnF (v : Value) (xT : TypeId) (w : World) : (Instr.typeAssert (.iface 243 v) xT 228 true).run Tryz.prog w = .ok (.tuple #[.iface 243 v, .bool true]) w := run_typeAssert_hasB Tryz.underlying228 (by kernel_rfl) v xT w

set_option maxHeartbeats 1000000 in
set_option maxRecDepth 10000 in
/-- errors.Is of a fault that is none of the device's. -/
theorem is_fault (F : Nat) (call : ByteArray) (k : Int) (w : World) (hk : k ≠ 8) (hF : w.heap[F]? = some (.cells #[.string call, .iface 45 (.int .i64 k)] 246)) :
    Calls Tryz.prog 109 #[.iface 243 (.pointer (some ⟨F, 0, none⟩)), .iface 45 (.int .i64 8)] w fun e w' => e = .returned (.bool false) ∧ w' = w := by
  have h151 := @run_callFunc_extern Tryz.prog 151 _ ReflectliteType.typeOf Tryz.func151 (by kernel_rfl) (by kernel_rfl) (by kernel_rfl) (by kernel_rfl)
  have hcmp := @run_callFunc_extern Tryz.prog 343 _ (Extern.ReflectliteType.method fun t => do Rtype.noPackHeld "Comparable" t; pure (.bool (← typeInfo t).comparable)) Tryz.func343 (by kernel_rfl) (by kernel_rfl) (by kernel_rfl) (by kernel_rfl)
  have tT := as_typeOfE
  have cT := is_comparable
  have mR := is_mComparable
  have nF := is_noIsF
  have nE := is_noIsE
  have uE := is_noUnE
  have vE := is_noUnsE
  have uF := is_hasUnF
  have mU := as_mUnwrap
  have hq := run_eql_iface_types (P := Tryz.prog) 243 45 (.pointer (some ⟨F, 0, none⟩)) (.int .i64 8) Tryz.underlying38 (by decide) w
  have hb : (k == 8) = false := by simp [hk]
  have he := is_eq8 k w
  rw [hb] at he
  clear hk hb
  have hFs := lt_of_heap hF
  have c1 := cell_of hF 1
  simp only [List.getElem?_toArray, List.getElem?_cons_zero, List.getElem?_cons_succ] at c1
  go_enter Tryz.func109, Tryz.ntmps109
  go_wp2
  refine wp_loop_rounds 2 ?_
  rw [rounds_succ]
  go_wp2
  rw [rounds_succ]
  go_wp2
  go_ret
  exact ⟨rfl, rfl⟩
end Go.Proofs.YtdohpenfkdckiaaGreatDoor


namespace Go.Proofs.YtdohpenfkdckiaaGreatDoor
set_option linter.unusedSimpArgs false
set_option linter.unusedVariables false
open Go.RowKit Go.MuLone

/-- What is thrown. -/
def thrownV (k : Int) : Value := .iface 182 (.agg #[.iface 45 (.int .i64 k)])
/-- How a piece of work ends: it is done, or throws an error's number. -/
def outc : Option Int → Ending
  | none => .returned (.tuple #[])
  | some k => .panicked [{ v := thrownV k, recovered := false }]
/-- What a call answers. -/
def ErrV (w : World) (v : Value) : Option Int → Prop
  | none => v = .nilIface
  | some k => ∃ F call, v = .iface 243 (.pointer (some ⟨F, 0, none⟩)) ∧ w.heap[F]? = some (.cells #[.string call, .iface 45 (.int .i64 k)] 246)

set_option maxHeartbeats 400000 in
set_option maxRecDepth 10000 in
/-- Catch, where the work throws. -/
theorem catch_threw (f : Nat) (cap : Array Value) (call : ByteArray) (k : Int) (w : World) (R : World → Prop) (hcf : ∀ W : World, Sem.run Tryz.prog (callFunc f cap) W = .ok (.enter f cap) W)
    (hw : Calls Tryz.prog f cap ((w.alloc (.cells #[.string call] 9)).alloc (.cells #[.nilIface] 38)) fun e w' => e = .panicked [{ v := thrownV k, recovered := false }] ∧ R w' ∧ w'.heap[w.heap.size + 1]? = some (.cells #[.nilIface] 38) ∧ w'.heap[w.heap.size]? = some (.cells #[.string call] 9)) :
    Calls Tryz.prog 107 #[.string call, .func (.func f) #[] cap] w fun e w' => ∃ F, e = .returned (.iface 243 (.pointer (some ⟨F, 0, none⟩))) ∧ w'.heap[F]? = some (.cells #[.string call, .iface 45 (.int .i64 k)] 246) ∧ ∃ w1, R w1 ∧ w1.heap.size ≤ F ∧ Kp [w.heap.size + 1] w1 w' := by
  have hmf : ∀ (fn : Fn) (first cap : Array Value) (w : World), (Instr.makeFunc fn first cap).run Tryz.prog w = .ok (.func fn first cap) w := fun _ _ _ _ => rfl
  have HW : Hid (Calls Tryz.prog f cap ((w.alloc (.cells #[.string call] 9)).alloc (.cells #[.nilIface] 38)) fun e w' => e = .panicked [{ v := .iface 182 (.agg #[.iface 45 (.int .i64 k)]), recovered := false }] ∧ R w' ∧ w'.heap[w.heap.size + 1]? = some (.cells #[.nilIface] 38) ∧ w'.heap[w.heap.size]? = some (.cells #[.string call] 9)) := hw
  clear hw
  go_enter_defers Tryz.func107, Tryz.ntmps107
  go_wp2_with fail
  refine (show Calls _ _ _ _ _ from HW.out).mono ?_
  rintro e w1 ⟨rfl, hR, hE, hB⟩
  have HR : Hid (R w1) := hR
  clear hR
  go_wp2
  refine leaves_cons (f := 167) (args := #[.pointer (some ⟨w.heap.size, 0, none⟩), .pointer (some ⟨w.heap.size + 1, 0, none⟩)]) (by simp) (by simp [go_sem]) ?_
  refine (catch_thrown w.heap.size (w.heap.size + 1) k call _ hB (by omega) hE).mono ?_
  rintro e u' w2 ⟨rfl, rfl, F, hF, hF2, hE2, hK2⟩
  have e0 := cell_of hE2 0
  simp at e0
  simp [Leaves, settle, results, Tryz.results107, go_sem, e0]
  exact ⟨hF2, w1, HR.out, hF, hK2⟩

set_option maxRecDepth 10000 in
theorem is_nil (k : Int) (w : World) : Calls Tryz.prog 109 #[.nilIface, .iface 45 (.int .i64 k)] w fun e w' => e = .returned (.bool false) ∧ w' = w := by
  have hb : ∀ W : World, Sem.run Tryz.prog (binOp .eql 38 .nilIface (.iface 45 (.int .i64 k))) W = .ok (.bool false) W := fun W => by kernel_rfl
  go_enter Tryz.func109, Tryz.ntmps109
  go_wp2
  go_ret
  exact ⟨rfl, rfl⟩

theorem cf104 (args : Array Value) (W : World) : Sem.run Tryz.prog (callFunc 108 args) W = .ok (.enter 108 args) W := by
  simp [go_sem, Tryz.func108]

theorem alone1_ok (k : Option Int) (S F St f : Nat) (s : Sto) (first cap : Array Value) (w : World) (R : World → Prop) (hS : w.heap[S]? = some (.cells #[.pointer (some ⟨St, 0, none⟩)] 97)) (hF : w.heap[F]? = some (.cells #[.func (.func f) first cap] 1)) (hSt : w.heap[St]? = some (sobj 1 s)) (hpo : s.po = false)
    (hcf : ∀ W : World, Sem.run Tryz.prog (callFunc f (first ++ cap)) W = .ok (.enter f (first ++ cap)) W)
    (hw : Calls Tryz.prog f (first ++ cap) w fun e w' => e = outc k ∧ R w') :
    Calls Tryz.prog 108 #[.pointer (some ⟨S, 0, none⟩), .pointer (some ⟨F, 0, none⟩)] w fun e w' => e = outc k ∧ R w' := by
  have s0 := cell_of hS 0
  have f0 := cell_of hF 0
  have p7 := cell_of hSt 7
  simp [hpo] at s0 f0 p7
  clear hS hF hSt
  have HW : Hid (Calls Tryz.prog f (first ++ cap) w fun e w' => e = outc k ∧ R w') := hw
  clear hw
  go_enter Tryz.func108, Tryz.ntmps108
  go_wp2_with fail
  refine (show Calls _ _ _ _ _ from HW.out).mono ?_
  rintro e w1 ⟨rfl, hR⟩
  cases k with
  | none =>
    simp only [outc]
    go_wp2
    go_end0
    exact ⟨rfl, hR⟩
  | some k =>
    simp only [outc]
    go_wp2
    exact ⟨rfl, rfl, hR⟩

set_option maxHeartbeats 2000000 in
set_option maxRecDepth 10000 in
/-- A call that works alone. -/
theorem alone_any (k : Option Int) (hk8 : k ≠ some 8) (St f : Nat) (s s' : Sto) (first cap : Array Value) (call : ByteArray) (X : List Nat) (Q : World → World → Prop) (w : World) (hSt : w.heap[St]? = some (sobj 0 s)) (hpo : s.po = false)
    (hcf : ∀ W : World, Sem.run Tryz.prog (callFunc f (first ++ cap)) W = .ok (.enter f (first ++ cap)) W) (hX : ∀ i, i ∈ X → i < w.heap.size)
    (hw : ∀ W : World, Kp [St] w W → W.heap[St]? = some (sobj 1 s) → Calls Tryz.prog f (first ++ cap) W fun e w1 => e = outc k ∧ Q W w1 ∧ Kp (St :: X) W w1 ∧ w1.heap[St]? = some (sobj 1 s')) :
    Calls Tryz.prog 64 #[.pointer (some ⟨St, 0, none⟩), .string call, .func (.func f) first cap] w fun e w' => ∃ v, e = .returned v ∧ ErrV w' v k ∧ w'.heap[St]? = some (sobj 0 s') ∧ Kp (St :: X) w w' ∧ ∃ W w1 B, Q W w1 ∧ Kp [St] w W ∧ w.heap.size ≤ B ∧ B < W.heap.size ∧ w1.heap[B]? = some (.cells #[.nilIface] 38) ∧ Kp [St, B] w1 w' := by
  have hmf : ∀ (fn : Fn) (first cap : Array Value) (w : World), (Instr.makeFunc fn first cap).run Tryz.prog w = .ok (.func fn first cap) w := fun _ _ _ _ => rfl
  have HW : Hid (∀ W : World, Kp [St] w W → W.heap[St]? = some (sobj 1 s) → Calls Tryz.prog f (first ++ cap) W fun e w1 => e = outc k ∧ Q W w1 ∧ Kp (St :: X) W w1 ∧ w1.heap[St]? = some (sobj 1 s')) := hw
  have HX : Hid (∀ i, i ∈ X → i < w.heap.size) := hX
  have HPO : Hid (s.po = false) := hpo
  have HK8 : Hid (k ≠ some 8) := hk8
  clear hw hX hpo hk8
  have hSs := lt_of_heap hSt
  go_enter_defers Tryz.func64, Tryz.ntmps64
  go_wp2_with fail
  refine (lock_free muLib ⟨St, 0, none⟩ _ (cell_of (heap_old _ (heap_old _ hSt)) 0) (frozen_of (heap_old _ (heap_old _ hSt)) 0)).mono ?_
  rintro e W0 ⟨rfl, rfl⟩
  obtain ⟨W0, hW0, hK0, hs0, hB0, hF0, hSt0⟩ : ∃ W0, W0 = ((w.alloc (Obj.cells #[Value.pointer (some { block := St, off := 0 })] 97)).alloc (Obj.cells #[Value.func (Fn.func f) first cap] 1)).setCell ⟨St, 0, none⟩ (.int .i32 1) ∧ Kp [St] w W0 ∧ W0.heap.size = w.heap.size + 2 ∧ W0.heap[w.heap.size]? = some (Obj.cells #[Value.pointer (some { block := St, off := 0 })] 97) ∧ W0.heap[w.heap.size + 1]? = some (Obj.cells #[Value.func (Fn.func f) first cap] 1) ∧ W0.heap[St]? = some (sobj 1 s) := by
    refine ⟨_, rfl, ((((Kp.refl _ _).alloc _).alloc _).setCell (by simp) _), by simp [World.setCell], ?_, ?_, ?_⟩
    · exact (heap_set_other (by omega) _ _).trans (heap_old _ (heap_new _ _))
    · refine (heap_set_other (by omega) _ _).trans ?_
      have e := heap_new (w.alloc (Obj.cells #[Value.pointer (some { block := St, off := 0 })] 97)) (Obj.cells #[Value.func (Fn.func f) first cap] 1)
      simpa using e
    · exact heap_set (heap_old _ (heap_old _ hSt)) 0 _
  rw [← hW0]
  clear hW0
  have b0 := cell_of hB0 0
  simp at b0
  go_wp2_with fail
  obtain ⟨Wc, hWc, hKc, hsc, hBc, hFc, hStc, hEc, hCc⟩ : ∃ Wc, Wc = (W0.alloc (.cells #[.string call] 9)).alloc (.cells #[.nilIface] 38) ∧ Kp [St] w Wc ∧ Wc.heap.size = w.heap.size + 4 ∧ Wc.heap[w.heap.size]? = some (Obj.cells #[Value.pointer (some { block := St, off := 0 })] 97) ∧ Wc.heap[w.heap.size + 1]? = some (Obj.cells #[Value.func (Fn.func f) first cap] 1) ∧ Wc.heap[St]? = some (sobj 1 s) ∧ Wc.heap[W0.heap.size + 1]? = some (.cells #[.nilIface] 38) ∧ Wc.heap[W0.heap.size]? = some (.cells #[.string call] 9) := by
    refine ⟨_, rfl, (hK0.alloc _).alloc _, by simp [hs0], heap_old _ (heap_old _ hB0), heap_old _ (heap_old _ hF0), heap_old _ (heap_old _ hSt0), ?_, heap_old _ (heap_new _ _)⟩
    have e := heap_new (W0.alloc (.cells #[.string call] 9)) (.cells #[.nilIface] 38)
    simpa using e
  have HA1 : Hid (Calls Tryz.prog 108 #[.pointer (some ⟨w.heap.size, 0, none⟩), .pointer (some ⟨w.heap.size + 1, 0, none⟩)] Wc fun e w1 => e = outc k ∧ Q Wc w1 ∧ Kp (St :: X) Wc w1 ∧ w1.heap[St]? = some (sobj 1 s')) :=
    alone1_ok k w.heap.size (w.heap.size + 1) St f s first cap Wc (fun w1 => Q Wc w1 ∧ Kp (St :: X) Wc w1 ∧ w1.heap[St]? = some (sobj 1 s')) hBc hFc hStc HPO.out hcf (HW.out Wc hKc hStc)
  have HNM : Hid (∀ i, w.heap.size ≤ i → i ∉ St :: X) := by
    show ∀ i, w.heap.size ≤ i → i ∉ St :: X
    intro i hi h
    rcases List.mem_cons.1 h with h | h
    · omega
    · have := HX.out _ h; omega
  clear HW
  cases k with
  | none =>
    refine (catch_done 108 _ _ _ (fun w1 => Q Wc w1 ∧ Kp (St :: X) Wc w1 ∧ w1.heap[St]? = some (sobj 1 s')) (cf104 _) ?_).mono ?_
    · rw [← hWc]
      refine (show Calls _ _ _ _ _ from HA1.out).mono ?_
      rintro e w1 ⟨rfl, hQ, hk, hst⟩
      exact ⟨rfl, ⟨hQ, hk, hst⟩, hk.heap hEc (HNM.out _ (by omega))⟩
    rintro e w2 ⟨rfl, w1, ⟨hQ, hk, hst⟩, rfl⟩
    have hs1 := hk.size
    have hEw1 := hk.heap hEc (HNM.out _ (by omega))
    obtain ⟨w2, hw2, hst2, hK2, ho2⟩ : ∃ w2, w2 = w1.setCell ⟨W0.heap.size + 1, 0, none⟩ .nilIface ∧ w2.heap[St]? = some (sobj 1 s') ∧ Kp (St :: X) w w2 ∧ Kp [St, W0.heap.size + 1] w1 w2 :=
      ⟨_, rfl, (heap_set_other (by omega) _ _).trans hst, (((hKc.mono (S' := St :: X) (by simp)).trans hk (fun _ h _ => h)).setCell (Or.inr (by simp; omega)) _), (Kp.refl _ _).setCell (by simp) _⟩
    rw [← hw2]
    clear hw2
    go_wp2_with (go_at_call 109; refine (is_nil 8 _).mono ?_; rintro e w' ⟨rfl, rfl⟩)
    refine leaves_cons (f := 106) (args := #[.pointer (some ⟨St, 0, none⟩)]) (by simp) (by simp [go_sem]) ?_
    refine (unlock_deferred muLib ⟨St, 0, none⟩ .returning _ (cell_of hst2 0) (frozen_of hst2 0)).mono ?_
    rintro e u' w'' ⟨rfl, rfl, rfl⟩
    exact ⟨_, results_tmp rfl _ _ _, .nilIface, rfl, rfl, heap_set hst2 0 _, hK2.setCell (by simp) _, Wc, w1, W0.heap.size + 1, hQ, hKc, by omega, by omega, hEw1, ho2.setCell (by simp) _⟩
  | some k =>
    have hk8 : k ≠ 8 := fun h => HK8.out (by rw [h])
    have HK : Hid (k ≠ 8) := hk8
    clear hk8
    refine (catch_threw 108 _ _ k _ (fun w1 => Q Wc w1 ∧ Kp (St :: X) Wc w1 ∧ w1.heap[St]? = some (sobj 1 s')) (cf104 _) ?_).mono ?_
    · rw [← hWc]
      refine (show Calls _ _ _ _ _ from HA1.out).mono ?_
      rintro e w1 ⟨rfl, hQ, hk, hst⟩
      exact ⟨rfl, ⟨hQ, hk, hst⟩, hk.heap hEc (HNM.out _ (by omega)), hk.heap hCc (HNM.out _ (by omega))⟩
    rintro e w2 ⟨F, rfl, hF2, w1, ⟨hQ, hk, hst⟩, hFs, hKc2⟩
    have hs1 := hk.size
    have hEw1 := hk.heap hEc (HNM.out _ (by omega))
    have hst2 : w2.heap[St]? = some (sobj 1 s') := hKc2.heap hst (by simp; omega)
    have hK2 : Kp (St :: X) w w2 := ((hKc.mono (S' := St :: X) (by simp)).trans hk (fun _ h _ => h)).trans hKc2 (by intro i hi hlt; simp at hi; omega)
    have ho2 : Kp [St, W0.heap.size + 1] w1 w2 := hKc2.mono (by simp)
    have HIS : Hid (Calls Tryz.prog 109 #[.iface 243 (.pointer (some ⟨F, 0, none⟩)), .iface 45 (.int .i64 8)] w2 fun e w' => e = .returned (.bool false) ∧ w' = w2) := is_fault F _ k w2 HK.out hF2
    have hFSt : St < F := by have := lt_of_heap hst; omega
    go_wp2_with (go_at_call 109; refine (show Calls _ _ _ _ _ from HIS.out).mono ?_; rintro e w' ⟨rfl, rfl⟩)
    refine leaves_cons (f := 106) (args := #[.pointer (some ⟨St, 0, none⟩)]) (by simp) (by simp [go_sem]) ?_
    refine (unlock_deferred muLib ⟨St, 0, none⟩ .returning _ (cell_of hst2 0) (frozen_of hst2 0)).mono ?_
    rintro e u' w'' ⟨rfl, rfl, rfl⟩
    exact ⟨_, results_tmp rfl _ _ _, .iface 243 (.pointer (some ⟨F, 0, none⟩)), rfl, ⟨F, _, rfl, (heap_set_other (by omega) _ _).trans hF2⟩, heap_set hst2 0 _, hK2.setCell (by simp) _, Wc, w1, W0.heap.size + 1, hQ, hKc, by omega, by omega, hEw1, ho2.setCell (by simp) _⟩
end Go.Proofs.YtdohpenfkdckiaaGreatDoor


namespace Go.Proofs.YtdohpenfkdckiaaGreatDoor
set_option linter.unusedSimpArgs false
set_option linter.unusedVariables false

/-- The order of keys. -/
def kl (a b : ByteArray) : Bool := Op.bytesLess a.toList b.toList

theorem less_eq : ∀ (x y : List UInt8), Op.bytesLess x y = decide (x < y)
  | [], [] => by simp [Op.bytesLess]
  | _ :: _, [] => by simp [Op.bytesLess]
  | [], _ :: _ => by simp [Op.bytesLess]
  | a :: x, b :: y => by
    rw [Op.bytesLess, less_eq x y]
    simp only [List.cons_lt_cons_iff]
    by_cases h1 : a < b <;> by_cases h2 : a = b <;> by_cases h3 : x < y <;> simp [h1, h2, h3]

theorem bytes_ext {a b : ByteArray} (h : a.toList = b.toList) : a = b := by
  rw [ByteArray.toList_eq, ByteArray.toList_eq] at h
  cases a; cases b
  simp only [ByteArray.mk.injEq]
  exact Array.toList_inj.1 h
theorem same_iff (a b : ByteArray) : (a.toList == b.toList) = decide (a = b) := by
  by_cases h : a = b
  · simp [h]
  · have : ¬ a.toList = b.toList := fun e => h (bytes_ext e)
    simp [h, this]
theorem kl_iff (a b : ByteArray) : kl a b = true ↔ a.toList < b.toList := by unfold kl; rw [less_eq]; simp
theorem kl_not (a b : ByteArray) : kl a b = false ↔ b.toList ≤ a.toList := by
  rw [← Bool.not_eq_true, kl_iff]; exact List.not_lt
theorem kl_irrefl (a : ByteArray) : kl a a = false := (kl_not a a).2 (List.le_refl _)
theorem kl_trans {a b c : ByteArray} (h : kl a b = true) (k : kl b c = true) : kl a c = true := by
  rw [kl_iff] at *; exact List.lt_trans h k
theorem kl_asymm {a b : ByteArray} (h : kl a b = true) : kl b a = false := by
  rw [kl_iff] at h; rw [kl_not]; exact List.le_of_lt h
theorem kl_tri {a b : ByteArray} (h : kl a b = false) (k : kl b a = false) : a = b := by
  rw [kl_not] at *; exact bytes_ext (List.le_antisymm k h)
theorem kl_lt_of_le {a b c : ByteArray} (h : kl b a = false) (k : kl b c = true) : kl a c = true := by
  rw [kl_not] at h; rw [kl_iff] at *; exact List.lt_of_le_of_lt h k
theorem kl_lt_of_lt {a b c : ByteArray} (h : kl a b = true) (k : kl c b = false) : kl a c = true := by
  by_cases e : kl a c = true
  · exact e
  · have := kl_lt_of_le (a := c) (b := a) (c := b) (by simpa using e) h
    rw [k] at this; cases this
theorem kl_le_trans {a b c : ByteArray} (h : kl b a = false) (k : kl c b = false) : kl c a = false := by
  rw [kl_not] at *; exact List.le_trans h k
theorem kl_leq (a b : ByteArray) : (Op.bytesLess a.toList b.toList || a.toList == b.toList) = !kl b a := by
  rw [same_iff]
  by_cases h : kl a b = true
  · have : Op.bytesLess a.toList b.toList = true := h
    simp [this, kl_asymm h]
  · have h' : kl a b = false := by simpa using h
    have h0 : Op.bytesLess a.toList b.toList = false := h'
    by_cases e : a = b
    · subst e; simp [kl_irrefl]
    · have : kl b a = true := by
        by_cases h2 : kl b a = true
        · exact h2
        · exact absurd (kl_tri h' (by simpa using h2)) e
      simp [h0, e, this]

/-- A key with its value. -/
structure KV where
  k : ByteArray
  v : ByteArray
  deriving DecidableEq

def Sorted (l : List KV) : Prop := l.Pairwise fun a b => kl a.k b.k = true

/-- The list in which a key has none. -/
def del (k : ByteArray) (l : List KV) : List KV := l.filter fun q => !decide (q.k = k)

theorem Sorted.append {a b : List KV} : Sorted (a ++ b) ↔ Sorted a ∧ Sorted b ∧ ∀ x ∈ a, ∀ y ∈ b, kl x.k y.k = true := List.pairwise_append
theorem Sorted.del {l : List KV} (h : Sorted l) (k : ByteArray) : Sorted (del k l) := h.sublist List.filter_sublist
/-- Is the key at its place? -/
def hasAt (l : List KV) (i : Nat) (k : ByteArray) : Bool := match l[i]? with
  | some q => decide (q.k = k)
  | none => false
def spotOf (l : List KV) (k : ByteArray) : Nat := l.findIdx (fun q => !kl q.k k)
end Go.Proofs.YtdohpenfkdckiaaGreatDoor


namespace Go.Proofs.YtdohpenfkdckiaaGreatDoor
set_option linter.unusedSimpArgs false
set_option linter.unusedVariables false

/-- What leads to a node: a key; where it lies (none: it is new); what is there. -/
structure Lnk (X : Type) where
  key : ByteArray
  ref : Option (Nat × Int)
  sub : X
/-- What a node of a level holds. -/
def Tn : Nat → Type
  | 0 => List KV
  | n + 1 => List (Lnk (Tn n))
/-- The pairs below. -/
def cont : (n : Nat) → Tn n → List KV
  | 0, ps => ps
  | n + 1, ls => List.flatMap (fun l : Lnk (Tn n) => cont n l.sub) ls
/-- How many entries. -/
def cnt : (n : Nat) → Tn n → Nat
  | 0, ps => List.length (α := KV) ps
  | n + 1, ls => List.length (α := Lnk (Tn n)) ls
def psize (p : KV) : Nat := 1 + p.k.size + p.v.size
def lsize {X : Type} (l : Lnk X) : Nat := 11 + l.key.size
def meas {α : Type} (f : α → Nat) (l : List α) : Nat := (l.map f).sum
theorem meas_cons {α : Type} (f : α → Nat) (a : α) (b : List α) : meas f (a :: b) = f a + meas f b := by simp [meas]
def cutAt {α : Type} (f : α → Nat) (all : Nat) : List α → Nat → Nat
  | [], _ => 0
  | x :: xs, n => if 2 * n < all then cutAt f all xs (n + f x) + 1 else 0
def halve {α : Type} (f : α → Nat) (l : List α) : List (List α) :=
  if meas f l ≤ 126 then [l] else [l.take (cutAt f (meas f l) l 0), l.drop (cutAt f (meas f l) l 0)]
def links {α : Type} (low : α → ByteArray) (key : ByteArray) : List (List α) → List (Lnk (List α))
  | [] => []
  | a :: rest => ⟨key, none, a⟩ :: rest.map fun b => ⟨(b.head?.map low).getD ⟨#[]⟩, none, b⟩
def leaves (key : ByteArray) (ps : List KV) : List (Lnk (Tn 0)) := links KV.k key (halve psize ps)
def branches (n : Nat) (key : ByteArray) (ls : List (Lnk (Tn n))) : List (Lnk (Tn (n + 1))) := links Lnk.key key (halve lsize ls)
/-- Which link leads to a key. -/
def wayOf {X : Type} (ls : List (Lnk X)) (k : ByteArray) : Nat := ls.findIdx (fun l => kl k l.key) - 1
def insAt (p : KV) (ps : List KV) : List KV := ps.take (spotOf ps p.k) ++ [p] ++ ps.drop (if hasAt ps (spotOf ps p.k) p.k then spotOf ps p.k + 1 else spotOf ps p.k)
def withT : (n : Nat) → Lnk (Tn n) → KV → List (Lnk (Tn n))
  | 0, l, p => leaves l.key (insAt p l.sub)
  | n + 1, l, p =>
    let ls : List (Lnk (Tn n)) := l.sub
    match ls[wayOf ls p.k]? with
    | some m => branches n l.key (ls.take (wayOf ls p.k) ++ withT n m p ++ ls.drop (wayOf ls p.k + 1))
    | none => []
def joinT : (n : Nat) → ByteArray → Tn n → Tn n → List (Lnk (Tn n))
  | 0, key, a, b => leaves key (List.append (α := KV) a b)
  | n + 1, key, a, b => branches n key (List.append (α := Lnk (Tn n)) a b)
def mendedT (n : Nat) (ls : List (Lnk (Tn n))) (i : Nat) : List (Lnk (Tn n)) :=
  match ls[i]? with
  | none => ls
  | some l => if 3 ≤ cnt n l.sub then ls else
    match ls[min i (ls.length - 2)]?, ls[min i (ls.length - 2) + 1]? with
    | some a, some b => ls.take (min i (ls.length - 2)) ++ joinT n a.key a.sub b.sub ++ ls.drop (min i (ls.length - 2) + 2)
    | _, _ => ls
def withoutT : (n : Nat) → Lnk (Tn n) → ByteArray → List (Lnk (Tn n))
  | 0, l, k => leaves l.key (List.take (α := KV) (spotOf l.sub k) l.sub ++ List.drop (α := KV) (spotOf l.sub k + 1) l.sub)
  | n + 1, l, k =>
    let ls : List (Lnk (Tn n)) := l.sub
    match ls[wayOf ls k]? with
    | some m => branches n l.key (mendedT n (ls.take (wayOf ls k) ++ withoutT n m k ++ ls.drop (wayOf ls k + 1)) (wayOf ls k))
    | none => []
/-- A tree: nothing, or what its root leads to. -/
inductive Root where
  | none
  | at (n : Nat) (l : Lnk (Tn n))
def topT : (n : Nat) → Lnk (Tn n) → Root
  | 0, l => match (l.sub : List KV) with
    | [] => .none
    | _ :: _ => .at 0 l
  | n + 1, l => match (l.sub : List (Lnk (Tn n))) with
    | [] => .none
    | [m] => .at n m
    | _ :: _ :: _ => .at (n + 1) l
def underT (n : Nat) (ls : List (Lnk (Tn n))) : Root :=
  match ls with
  | [] => .none
  | [l] => topT n l
  | ls => match branches n ⟨#[]⟩ ls with
    | [] => .none
    | r :: _ => topT (n + 1) r
def Root.cont : Root → List KV
  | .none => []
  | .at n l => YtdohpenfkdckiaaGreatDoor.cont n l.sub
def Root.put (r : Root) (p : KV) : Root := match r with
  | .none => underT 0 (leaves ⟨#[]⟩ [p])
  | .at n l => underT n (withT n l p)
def Root.del (r : Root) (k : ByteArray) : Root := match r with
  | .none => .none
  | .at n l => if (YtdohpenfkdckiaaGreatDoor.cont n l.sub).any (fun q => decide (q.k = k)) then underT n (withoutT n l k) else .at n l

/-- A pair that may be. -/
def okKV (p : KV) : Prop := 1 ≤ p.k.size ∧ p.k.size ≤ 8 ∧ p.v.size ≤ 12
/-- One link lies ahead of another. -/
def AheadB {X : Type} (co : X → List KV) (a b : Lnk X) : Prop := kl a.key b.key = true ∧ ∀ q ∈ co a.sub, kl q.k b.key = true
abbrev Ahead (n : Nat) (a b : Lnk (Tn n)) : Prop := AheadB (cont n) a b
structure GoodL (lo : ByteArray) (ps : List KV) : Prop where
  sorted : Sorted ps
  all : ∀ p ∈ ps, okKV p ∧ kl p.k lo = false
  fits : meas psize ps ≤ 126
structure GoodB {X : Type} (G : ByteArray → X → Prop) (C : X → Nat) (co : X → List KV) (lo : ByteArray) (ls : List (Lnk X)) : Prop where
  head : ∀ l ∈ ls.head?, l.key = lo
  all : ∀ l ∈ ls, G l.key l.sub ∧ 3 ≤ C l.sub ∧ l.key.size ≤ 8
  pair : ls.Pairwise (AheadB co)
  fits : meas lsize ls ≤ 126
/-- What a link with a key may lead to. -/
def Good : (n : Nat) → ByteArray → Tn n → Prop
  | 0, lo, ps => GoodL lo ps
  | n + 1, lo, ls => GoodB (Good n) (cnt n) (cont n) lo ls
/-- Links of which the first has a key. -/
structure Row0 (n : Nat) (lo : ByteArray) (ls : List (Lnk (Tn n))) : Prop where
  head : ∀ l ∈ ls.head?, l.key = lo
  all : ∀ l ∈ ls, Good n l.key l.sub ∧ l.key.size ≤ 8
  pair : ls.Pairwise (Ahead n)

theorem good_cont : ∀ (n : Nat) (lo : ByteArray) (t : Tn n), Good n lo t → Sorted (cont n t) ∧ ∀ q ∈ cont n t, okKV q ∧ kl q.k lo = false
  | 0, lo, ps, h => ⟨h.1, h.2⟩
  | n + 1, lo, ls, h => by
    obtain ⟨hh, ha, hp, _⟩ := h
    have ih := fun l : Lnk (Tn n) => good_cont n l.key l.sub
    have key : ∀ (ls : List (Lnk (Tn n))), (∀ l ∈ ls, Good n l.key l.sub) → ls.Pairwise (Ahead n) → Sorted (ls.flatMap fun l => cont n l.sub) ∧ ∀ q ∈ ls.flatMap (fun l => cont n l.sub), okKV q ∧ ∀ l ∈ ls.head?, kl q.k l.key = false := by
      intro ls
      induction ls with
      | nil => intro _ _; simp [Sorted]
      | cons a ls ihl =>
        intro hg hp
        obtain ⟨hp1, hp2⟩ := List.pairwise_cons.1 hp
        obtain ⟨i1, i2⟩ := ihl (fun l hl => hg l (by simp [hl])) hp2
        obtain ⟨a1, a2⟩ := ih a (hg a (by simp))
        have hlow : ∀ q ∈ ls.flatMap (fun l => cont n l.sub), ∃ b ∈ ls, kl q.k b.key = false := by
          intro q hq
          obtain ⟨b, hb, hq⟩ := List.mem_flatMap.1 hq
          exact ⟨b, hb, ((ih b (hg b (by simp [hb]))).2 q hq).2⟩
        rw [List.flatMap_cons]
        refine ⟨Sorted.append.2 ⟨a1, i1, ?_⟩, ?_⟩
        · intro x hx y hy
          obtain ⟨b, hb, hyb⟩ := hlow y hy
          exact kl_lt_of_lt ((hp1 b hb).2 x hx) hyb
        · intro q hq
          rcases List.mem_append.1 hq with hq | hq
          · exact ⟨(a2 q hq).1, by simpa using (a2 q hq).2⟩
          · obtain ⟨b, hb, hqb⟩ := hlow q hq
            refine ⟨(i2 q hq).1, ?_⟩
            simp only [List.head?_cons, Option.mem_def, Option.some.injEq, forall_eq']
            exact kl_le_trans (kl_asymm (hp1 b hb).1) hqb
    obtain ⟨k1, k2⟩ := key ls (fun l hl => (ha l hl).1) hp
    refine ⟨k1, fun q hq => ?_⟩
    obtain ⟨q1, q2⟩ := k2 q hq
    refine ⟨q1, ?_⟩
    cases hls : (ls : List (Lnk (Tn n))) with
    | nil => rw [show cont (n + 1) ls = List.flatMap (fun l : Lnk (Tn n) => cont n l.sub) ls from rfl, hls] at hq; simp at hq
    | cons a r =>
      have e := hh a (by rw [hls]; simp)
      have := q2 a (by rw [hls]; simp)
      rw [e] at this; exact this

section
variable {α : Type} (f : α → Nat)
end

end Go.Proofs.YtdohpenfkdckiaaGreatDoor


namespace Go.Proofs.YtdohpenfkdckiaaGreatDoor
set_option linter.unusedSimpArgs false
set_option linter.unusedVariables false

def lnks {n : Nat} (t : Tn (n + 1)) : List (Lnk (Tn n)) := t
def prs (t : Tn 0) : List KV := t

end Go.Proofs.YtdohpenfkdckiaaGreatDoor


namespace Go.Proofs.YtdohpenfkdckiaaGreatDoor
set_option linter.unusedSimpArgs false
set_option linter.unusedVariables false

/-- A tree as it may be. -/
def RGood : Root → Prop
  | .none => True
  | .at n l => l.key = ⟨#[]⟩ ∧ Good n l.key l.sub ∧ min n 1 < cnt n l.sub

end Go.Proofs.YtdohpenfkdckiaaGreatDoor


namespace Go.Proofs.YtdohpenfkdckiaaGreatDoor
set_option linter.unusedSimpArgs false
set_option linter.unusedVariables false

theorem root_sorted {r : Root} (h : RGood r) : Sorted r.cont ∧ ∀ q ∈ r.cont, okKV q := by
  cases r with
  | none => exact ⟨List.Pairwise.nil, fun q hq => by cases hq⟩
  | «at» n l =>
    obtain ⟨h1, h2, h3⟩ := h
    exact ⟨(good_cont n l.key l.sub h2).1, fun q hq => ((good_cont n l.key l.sub h2).2 q hq).1⟩

/-- What holds of a key holds of all behind it. -/
def Up (f : ByteArray → Bool) : Prop := ∀ a b, kl a b = true → f a = true → f b = true
theorem find_none {l : List KV} {f : ByteArray → Bool} (h : ∀ q ∈ l, f q.k = false) : l.find? (fun q => f q.k) = none := by
  rw [List.find?_eq_none]; intro q hq; simp [h q hq]
/-- Where the search for the first begins. -/
theorem first_skip {n : Nat} {lo : ByteArray} {f : ByteArray → Bool} (hf : Up f) {ls : List (Lnk (Tn n))} (h : Row0 n lo ls) :
    (ls.flatMap fun l => cont n l.sub).find? (fun q => f q.k) = ((ls.drop (ls.findIdx (fun l => f l.key) - 1)).flatMap fun l => cont n l.sub).find? (fun q => f q.k) := by
  by_cases h0 : ls.findIdx (fun l => f l.key) = 0
  · simp [h0]
  · obtain ⟨i, hi⟩ : ∃ i, i = ls.findIdx (fun l => f l.key) - 1 := ⟨_, rfl⟩
    rw [← hi]
    have hle : ls.findIdx (fun l => f l.key) ≤ ls.length := List.findIdx_le_length
    have hlt : i < ls.length := by omega
    have hm : f (ls[i]).key = false := by
      have := List.not_of_lt_findIdx (p := fun l : Lnk (Tn n) => f l.key) (xs := ls) (i := i) (by omega)
      simpa using this
    have hp := h.pair
    rw [← List.take_append_drop i ls, List.drop_eq_getElem_cons hlt] at hp
    have hp3 := (List.pairwise_append.1 hp).2.2
    conv => lhs; rw [← List.take_append_drop i ls, List.flatMap_append, List.find?_append]
    rw [find_none fun q hq => ?_]
    · simp
    · obtain ⟨a, ha, hq⟩ := List.mem_flatMap.1 hq
      have := (hp3 a ha ls[i] (List.mem_cons_self ..)).2 q hq
      by_cases e : f q.k = true
      · rw [hf _ _ this e] at hm; cases hm
      · simpa using e
end Go.Proofs.YtdohpenfkdckiaaGreatDoor


namespace Go.Proofs.YtdohpenfkdckiaaGreatDoor
set_option linter.unusedSimpArgs false
set_option linter.unusedVariables false
open Go.RowKit

set_option maxHeartbeats 400000 in
/-- sort.Search, of what holds from some place on. -/
theorem search_ok (g : Nat) (cap : Array Value) (n : Nat) (P : Nat → Bool) (w : World) (hn : n ≤ 1000000) (hup : ∀ i j, i ≤ j → j < n → P i = true → P j = true)
    (hcf : ∀ (args : Array Value) (W : World), Sem.run Tryz.prog (callFunc g args) W = .ok (.enter g args) W)
    (hf : ∀ W, Kp [] w W → ∀ i : Nat, i < n → Calls Tryz.prog g (#[.int .i64 i] ++ cap) W fun e W' => e = .returned (.bool (P i)) ∧ Kp [] W W') :
    Calls Tryz.prog 213 #[.int .i64 n, .func (.func g) #[] cap] w fun e w' => ∃ i : Nat, e = .returned (.int .i64 i) ∧ (i ≤ n ∧ (∀ j, j < i → P j = false) ∧ (i < n → P i = true)) ∧ Kp [] w w' := by
  have HF : Hid (∀ W, Kp [] w W → ∀ i : Nat, i < n → Calls Tryz.prog g (#[.int .i64 i] ++ cap) W fun e W' => e = .returned (.bool (P i)) ∧ Kp [] W W') := hf
  have HU : Hid (∀ i j, i ≤ j → j < n → P i = true → P j = true) := hup
  clear hf hup
  go_enter Tryz.func213, Tryz.ntmps213
  go_wp2
  go_loopw [5, 6] (fun s q wr => ∃ (i j : Nat), i ≤ j ∧ j ≤ n ∧ s = .int .i64 i ∧ q = .int .i64 j ∧ Hid ((∀ k, k < i → P k = false) ∧ (j < n → P j = true)) ∧ Kp [] w wr) (fun s q _ => (intOf q - intOf s).toNat)
  case atStart => exact ⟨0, n, by omega, Nat.le_refl _, rfl, rfl, ⟨fun k hk => by omega, fun h => by omega⟩, Kp.refl _ _⟩
  case round =>
    obtain ⟨i, j, hij, hjn, rfl, rfl, hP, hK⟩ := hrel
    by_cases hlt : i < j
    · obtain ⟨h, hh⟩ : ∃ h : Nat, ((i : Int) + j) / 2 = h := ⟨(i + j) / 2, by omega⟩
      go_wp2_with fail
      try simp only [hh]
      refine (HF.out wr hK h (by omega)).mono ?_
      rintro e w1 ⟨rfl, hK1⟩
      have hK1' : Kp [] w w1 := hK.trans hK1 (by simp)
      by_cases hp : P h = true
      · rw [hp]
        go_wp2
        refine ⟨⟨i, h, by omega, by omega, rfl, rfl, ⟨hP.out.1, fun _ => hp⟩, hK1'⟩, by simp [intOf]; omega⟩
      · have hp0 : P h = false := by simpa using hp
        rw [hp0]
        go_wp2
        refine ⟨⟨h + 1, j, by omega, by omega, by go_num, rfl, ⟨fun k hk => ?_, hP.out.2⟩, hK1'⟩, by simp [intOf]; omega⟩
        by_cases e : P k = true
        · have := HU.out k h (by omega) (by omega) e
          rw [hp0] at this; cases this
        · simpa using e
    · go_wp2
      go_ret
      have e : j = i := by omega
      subst e
      exact ⟨j, rfl, ⟨by omega, hP.out.1, hP.out.2⟩, hK⟩

theorem idx_of {α : Type} {xs : List α} {f : α → Bool} {i : Nat} (h1 : i ≤ xs.length) (h2 : ∀ j (h : j < xs.length), j < i → f xs[j] = false) (h3 : ∀ h : i < xs.length, f xs[i] = true) : i = xs.findIdx f := by
  rcases Nat.lt_trichotomy i (xs.findIdx f) with h | h | h
  · have hle : xs.findIdx f ≤ xs.length := List.findIdx_le_length
    have := List.not_of_lt_findIdx (p := f) (xs := xs) h
    rw [h3 (by omega)] at this; simp at this
  · exact h
  · have hlt : xs.findIdx f < xs.length := by omega
    have := List.findIdx_getElem (p := f) (xs := xs) (w := hlt)
    rw [h2 _ hlt h] at this; cases this
end Go.Proofs.YtdohpenfkdckiaaGreatDoor


namespace Go.Proofs.YtdohpenfkdckiaaGreatDoor
set_option linter.unusedSimpArgs false
set_option linter.unusedVariables false
open Go.RowKit

/-- The blocks of S are of other types than these. -/
def Apt (w : World) (S : List Nat) (Ts : List TypeId) : Prop := ∀ k ∈ S, ∀ c t fr, w.heap[k]? = some (.cells c t fr) → t ∉ Ts

/-- A slice of rows of some cells of a type. -/
structure Slc (w : World) (T : TypeId) (sz : Nat) (v : Value) (n : Nat) (cs : List Value) : Prop where
  len : cs.length = n * sz
  val : (n = 0 ∧ ∃ b c, v = .slice b 0 c ∧ (b = none → c = 0)) ∨ ∃ g off cap cur fr, v = .slice (some ⟨g, off, none⟩) n cap ∧ 1 ≤ n ∧ n ≤ cap ∧ w.heap[g]? = some (.cells cur T fr) ∧ ∀ j u, cs[j]? = some u → cur[off + j]? = some u

theorem Slc.keep {w w' : World} {T : TypeId} {sz : Nat} {v : Value} {n : Nat} {cs : List Value} {S : List Nat} (h : Slc w T sz v n cs) (hK : Kp S w w') (hS : Apt w S [T]) : Slc w' T sz v n cs := by
  refine ⟨h.len, ?_⟩
  rcases h.val with h | ⟨g, off, cap, cur, fr, h1, h2, h3, h4, h5⟩
  · exact .inl h
  · exact .inr ⟨g, off, cap, cur, fr, h1, h2, h3, hK.heap h4 (fun hm => hS g hm _ _ _ h4 (by simp)), h5⟩
theorem Apt.nil (w : World) (Ts : List TypeId) : Apt w [] Ts := fun k hk => by simp at hk
theorem Slc.keep0 {w w' : World} {T : TypeId} {sz : Nat} {v : Value} {n : Nat} {cs : List Value} (h : Slc w T sz v n cs) (hK : Kp [] w w') : Slc w' T sz v n cs := h.keep hK (Apt.nil _ _)

def pcs (p : KV) : List Value := [.string p.k, .string p.v]
def pcells (ps : List KV) : List Value := ps.flatMap pcs
theorem pcells_len (ps : List KV) : (pcells ps).length = ps.length * 2 := by
  induction ps with
  | nil => rfl
  | cons p ps ih => simp [pcells, pcs] at *; omega
theorem pcells_at {ps : List KV} {i : Nat} (h : i < ps.length) : (pcells ps)[i * 2]? = some (.string ps[i].k) ∧ (pcells ps)[i * 2 + 1]? = some (.string ps[i].v) := by
  induction ps generalizing i with
  | nil => simp at h
  | cons p ps ih =>
    cases i with
    | zero => simp [pcells, pcs]
    | succ i =>
      have := ih (i := i) (by simpa using h)
      have e1 : (pcells (p :: ps))[(i + 1) * 2]? = (pcells ps)[i * 2]? := by
        rw [show pcells (p :: ps) = .string p.k :: .string p.v :: pcells ps from rfl, show (i + 1) * 2 = i * 2 + 1 + 1 by omega]
        simp
      have e2 : (pcells (p :: ps))[(i + 1) * 2 + 1]? = (pcells ps)[i * 2 + 1]? := by
        rw [show pcells (p :: ps) = .string p.k :: .string p.v :: pcells ps from rfl, show (i + 1) * 2 + 1 = i * 2 + 1 + 1 + 1 by omega]
        simp
      rw [e1, e2]
      simpa using this
theorem Slc.pair {w : World} {v : Value} {ps : List KV} (h : Slc w 185 2 v ps.length (pcells ps)) (hn : 1 ≤ ps.length) :
    ∃ g off cap cur fr, v = .slice (some ⟨g, off, none⟩) ps.length cap ∧ ps.length ≤ cap ∧ w.heap[g]? = some (.cells cur 185 fr) ∧ ∀ i (h : i < ps.length), cur[off + i * 2]? = some (.string ps[i].k) ∧ cur[off + i * 2 + 1]? = some (.string ps[i].v) := by
  rcases h.val with ⟨h0, _⟩ | ⟨g, off, cap, cur, fr, h1, h2, h3, h4, h5⟩
  · omega
  · exact ⟨g, off, cap, cur, fr, h1, h3, h4, fun i hi => ⟨h5 _ _ (pcells_at hi).1, h5 _ _ (pcells_at hi).2⟩⟩

/-- A link as it lies in memory. -/
structure HL where
  key : ByteArray
  b : Int
  s : Int
  p : Option Nat
def HL.ptr (l : HL) : Option Addr := l.p.map fun q => ⟨q, 0, none⟩
def lcs (l : HL) : List Value := [.string l.key, .int .i64 l.b, .int .u64 l.s, .pointer l.ptr]
def lcells (ls : List HL) : List Value := ls.flatMap lcs
theorem lcells_at {ls : List HL} {i : Nat} (h : i < ls.length) : (lcells ls)[i * 4]? = some (.string ls[i].key) ∧ (lcells ls)[i * 4 + 1]? = some (.int .i64 ls[i].b) ∧ (lcells ls)[i * 4 + 2]? = some (.int .u64 ls[i].s) ∧ (lcells ls)[i * 4 + 3]? = some (.pointer ls[i].ptr) := by
  induction ls generalizing i with
  | nil => simp at h
  | cons p ps ih =>
    cases i with
    | zero => simp [lcells, lcs]
    | succ i =>
      have := ih (i := i) (by simpa using h)
      have e : ∀ c, (lcells (p :: ps))[(i + 1) * 4 + c]? = (lcells ps)[i * 4 + c]? := fun c => by
        rw [show lcells (p :: ps) = .string p.key :: .int .i64 p.b :: .int .u64 p.s :: .pointer p.ptr :: lcells ps from rfl, show (i + 1) * 4 + c = i * 4 + c + 1 + 1 + 1 + 1 by omega]
        simp
      have e0 := e 0
      rw [Nat.add_zero, Nat.add_zero] at e0
      rw [e0, e 1, e 2, e 3]
      simpa using this
theorem Slc.link {w : World} {v : Value} {ls : List HL} (h : Slc w 87 4 v ls.length (lcells ls)) (hn : 1 ≤ ls.length) :
    ∃ g off cap cur fr, v = .slice (some ⟨g, off, none⟩) ls.length cap ∧ ls.length ≤ cap ∧ w.heap[g]? = some (.cells cur 87 fr) ∧ ∀ i (h : i < ls.length), cur[off + i * 4]? = some (.string ls[i].key) ∧ cur[off + i * 4 + 1]? = some (.int .i64 ls[i].b) ∧ cur[off + i * 4 + 2]? = some (.int .u64 ls[i].s) ∧ cur[off + i * 4 + 3]? = some (.pointer ls[i].ptr) := by
  rcases h.val with ⟨h0, _⟩ | ⟨g, off, cap, cur, fr, h1, h2, h3, h4, h5⟩
  · omega
  · exact ⟨g, off, cap, cur, fr, h1, h3, h4, fun i hi => ⟨h5 _ _ (lcells_at hi).1, h5 _ _ (lcells_at hi).2.1, h5 _ _ (lcells_at hi).2.2.1, h5 _ _ (lcells_at hi).2.2.2⟩⟩

set_option maxHeartbeats 400000 in
set_option maxRecDepth 10000 in
theorem firstP1_ok (g F L : Nat) (cap : Array Value) (v : Value) (ps : List KV) (f : KV → Bool) (i : Nat) (w : World) (hF : w.heap[F]? = some (.cells #[.func (.func g) #[] cap] 215)) (hL : w.heap[L]? = some (.cells #[v] 186))
    (hs : Slc w 185 2 v ps.length (pcells ps)) (hi : i < ps.length) (hn : ps.length ≤ 1000000)
    (hcf : ∀ (args : Array Value) (W : World), Sem.run Tryz.prog (callFunc g args) W = .ok (.enter g args) W)
    (hf : ∀ W, Kp [] w W → Calls Tryz.prog g (#[.agg #[.string ps[i].k, .string ps[i].v]] ++ cap) W fun e W' => e = .returned (.bool (f ps[i])) ∧ Kp [] W W') :
    Calls Tryz.prog 214 #[.int .i64 i, .pointer (some ⟨F, 0, none⟩), .pointer (some ⟨L, 0, none⟩)] w fun e w' => e = .returned (.bool (f ps[i])) ∧ Kp [] w w' := by
  obtain ⟨gb, off, cp, cur, fr, rfl, hcp, hrow, hcur⟩ := hs.pair (by omega)
  obtain ⟨c0, c1⟩ := hcur i hi
  have HF : Hid (∀ W, Kp [] w W → Calls Tryz.prog g (#[.agg #[.string ps[i].k, .string ps[i].v]] ++ cap) W fun e W' => e = .returned (.bool (f ps[i])) ∧ Kp [] W W') := hf
  clear hf hs hcur
  go_enter Tryz.func214, Tryz.ntmps214
  go_wp2_with fail
  have hS0 : w.heap[F]? = some (.cells #[.func (.func g) #[] cap] 215) ∧ w.heap[L]? = some (.cells #[.slice (some ⟨gb, off, none⟩) ps.length cp] 186) ∧ w.heap[gb]? = some (.cells cur 185 fr) := ⟨hF, hL, hrow⟩
  refine wp_region_held_drew (S := fun W => W.heap[F]? = some (.cells #[.func (.func g) #[] cap] 215) ∧ W.heap[L]? = some (.cells #[.slice (some ⟨gb, off, none⟩) ps.length cp] 186) ∧ W.heap[gb]? = some (.cells cur 185 fr)) (by kernel_rfl) hS0 (fun _ => ?_)
  refine wpAnyH_take (i := 0) (v := .func (.func g) #[] cap) rfl (by kernel_rfl) (by kernel_rfl) (by kernel_rfl) (fun _ _ _ h => h) (Or.inl ⟨by rfl, fun W hS => by have c := cell_of hS.1 0; simp at c; clear hS; go_simp⟩) hS0 ?_
  simp only [Act.put, List.setIfInBounds_toArray, List.set_cons_zero, List.set_cons_succ, List.getElem_toArray, List.getElem_cons_succ, List.getElem_cons_zero]
  refine wpAnyH_take (i := 1) (v := .slice (some ⟨gb, off, none⟩) ps.length cp) rfl (by kernel_rfl) (by kernel_rfl) (by kernel_rfl) (fun _ _ _ h => h) (Or.inl ⟨by rfl, fun W hS => by have c := cell_of hS.2.1 0; simp at c; clear hS; go_simp⟩) hS0 ?_
  simp only [Act.put, List.setIfInBounds_toArray, List.set_cons_zero, List.set_cons_succ, List.getElem_toArray, List.getElem_cons_succ, List.getElem_cons_zero]
  refine wpAnyH_take (i := 2) (v := .int .i64 i) rfl (by kernel_rfl) (by kernel_rfl) (by kernel_rfl) (fun _ _ _ h => h) (Or.inl ⟨by rfl, fun W hS => by clear hS; go_simp⟩) hS0 ?_
  simp only [Act.put, List.setIfInBounds_toArray, List.set_cons_zero, List.set_cons_succ, List.getElem_toArray, List.getElem_cons_succ, List.getElem_cons_zero]
  refine wpAnyH_take (i := 3) (v := .pointer (some ⟨gb, off + i * 2, none⟩)) rfl (by kernel_rfl) (by kernel_rfl) (by kernel_rfl) (fun _ _ _ h => h) (Or.inl ⟨by rfl, fun W hS => by clear hS; go_simp⟩) hS0 ?_
  simp only [Act.put, List.setIfInBounds_toArray, List.set_cons_zero, List.set_cons_succ, List.getElem_toArray, List.getElem_cons_succ, List.getElem_cons_zero]
  refine wpAnyH_take (i := 4) (v := .agg #[.string ps[i].k, .string ps[i].v]) rfl (by kernel_rfl) (by kernel_rfl) (by kernel_rfl) (fun _ _ _ h => h) (Or.inl ⟨by rfl, fun W hS => by have a0 := cell_of hS.2.2 (off + i * 2); rw [c0] at a0; have a1 := cell_of hS.2.2 (off + i * 2 + 1); rw [c1] at a1;clear hS; go_simp⟩) hS0 ?_
  simp only [Act.put, List.setIfInBounds_toArray, List.set_cons_zero, List.set_cons_succ, List.getElem_toArray, List.getElem_cons_succ, List.getElem_cons_zero]
  refine wpAnyH_ready (rs := [5]) (by kernel_rfl) (by simp) ?_
  refine AllReadyH.cons rfl (fun K hK => ?_) AllReadyH.nil
  go_simp
  refine (HF.out w.drew ((Kp.refl _ _).drew)).mono ?_
  rintro e w1 ⟨rfl, hK1⟩
  have hK1' : Kp [] w w1 := ((Kp.refl _ w).drew).trans hK1 (by simp)
  have hS1 := And.intro (hK1'.heap hF (by simp)) (And.intro (hK1'.heap hL (by simp)) (hK1'.heap hrow (by simp)))
  refine hK.out _ _ hS1 (fun _ => ?_)
  clear hK K
  try simp only [Act.put, List.setIfInBounds_toArray, List.set_cons_zero, List.set_cons_succ, List.getElem_toArray, List.getElem_cons_succ, List.getElem_cons_zero]
  refine wpAnyH_ready (rs := [6]) (by kernel_rfl) (by simp) ?_
  refine AllReadyH.cons rfl (fun K hK => ?_) AllReadyH.nil
  go_simp
  refine hK.out _ _ hS1 (fun _ => ?_)
  clear hK K
  refine wpAnyH_done (by kernel_rfl) ?_ _
  go_wp2
  go_ret
  exact ⟨rfl, hK1'⟩

set_option maxHeartbeats 400000 in
set_option maxRecDepth 10000 in
theorem firstP_ok (g : Nat) (cap : Array Value) (v : Value) (ps : List KV) (f : KV → Bool) (w : World)
    (hs : Slc w 185 2 v ps.length (pcells ps)) (hn : ps.length ≤ 1000000) (hup : ∀ i j (hi : i < ps.length) (hj : j < ps.length), i ≤ j → f ps[i] = true → f ps[j] = true)
    (hcf : ∀ (args : Array Value) (W : World), Sem.run Tryz.prog (callFunc g args) W = .ok (.enter g args) W)
    (hf : ∀ W, Kp [] w W → ∀ i (h : i < ps.length), Calls Tryz.prog g (#[.agg #[.string ps[i].k, .string ps[i].v]] ++ cap) W fun e W' => e = .returned (.bool (f ps[i])) ∧ Kp [] W W') :
    Calls Tryz.prog 146 #[v, .func (.func g) #[] cap] w fun e w' => e = .returned (.int .i64 (ps.findIdx f : Nat)) ∧ Kp [] w w' := by
  have hmf : ∀ (fn : Fn) (first cap : Array Value) (w : World), (Instr.makeFunc fn first cap).run Tryz.prog w = .ok (.func fn first cap) w := fun _ _ _ _ => rfl
  obtain ⟨bs, cp, hv⟩ : ∃ bs cp, v = .slice bs ps.length cp := by
    rcases hs.val with ⟨h0, b, c, h1, _⟩ | ⟨g, off, cap, cur, fr, h1, _⟩
    · rw [h0]; exact ⟨b, c, h1⟩
    · exact ⟨_, cap, h1⟩
  subst hv
  have HF : Hid (∀ W, Kp [] w W → ∀ i (h : i < ps.length), Calls Tryz.prog g (#[.agg #[.string ps[i].k, .string ps[i].v]] ++ cap) W fun e W' => e = .returned (.bool (f ps[i])) ∧ Kp [] W W') := hf
  have HU : Hid (∀ i j (hi : i < ps.length) (hj : j < ps.length), i ≤ j → f ps[i] = true → f ps[j] = true) := hup
  clear hf hup
  go_enter Tryz.func146, Tryz.ntmps146
  go_wp2_with fail
  obtain ⟨w1, hw1, hL1, hF1, hK1⟩ : ∃ w1, w1 = (w.alloc (Obj.cells #[.slice bs ps.length cp] 186)).alloc (Obj.cells #[.func (.func g) #[] cap] 215) ∧ w1.heap[w.heap.size]? = some (Obj.cells #[.slice bs ps.length cp] 186) ∧ w1.heap[w.heap.size + 1]? = some (Obj.cells #[.func (.func g) #[] cap] 215) ∧ Kp [] w w1 := by
    refine ⟨_, rfl, heap_old _ (heap_new _ _), ?_, ((Kp.refl _ _).alloc _).alloc _⟩
    have e := heap_new (w.alloc (Obj.cells #[.slice bs ps.length cp] 186)) (Obj.cells #[.func (.func g) #[] cap] 215)
    simpa using e
  rw [← hw1]
  clear hw1
  refine (search_ok 214 _ ps.length (fun i => ((ps[i]?.map f).getD false)) w1 hn ?_ ?_ ?_).mono ?_
  · intro i j hij hj hp
    have hi : i < ps.length := by omega
    simp only [List.getElem?_eq_getElem hi, List.getElem?_eq_getElem hj, Option.map_some, Option.getD_some] at *
    exact HU.out i j hi hj hij hp
  · intro args W
    simp [go_sem, Tryz.func214]
  · intro W hKW i hi
    refine (firstP1_ok g (w.heap.size + 1) w.heap.size cap _ ps f i W (hKW.heap hF1 (by simp)) (hKW.heap hL1 (by simp)) (hs.keep0 (hK1.trans hKW (by simp))) hi hn hcf (fun W' hK' => HF.out W' ((hK1.trans hKW (by simp)).trans hK' (by simp)) i hi)).mono ?_
    rintro e W' ⟨rfl, hK'⟩
    exact ⟨by simp [List.getElem?_eq_getElem hi], hK'⟩
  · rintro e w2 ⟨i, rfl, ⟨h1, h2, h3⟩, hK2⟩
    have e : i = ps.findIdx f := idx_of h1 (fun j hj hji => by
      have := h2 j hji
      simpa [List.getElem?_eq_getElem hj] using this) (fun h => by
      have := h3 h
      simpa [List.getElem?_eq_getElem h] using this)
    subst e
    have hK2' := hK1.trans hK2 (by simp)
    go_wp2
    go_ret
    exact ⟨rfl, hK2'⟩
set_option maxHeartbeats 400000 in
set_option maxRecDepth 10000 in
theorem firstL1_ok (g F L : Nat) (cap : Array Value) (v : Value) (ps : List HL) (f : HL → Bool) (i : Nat) (w : World) (hF : w.heap[F]? = some (.cells #[.func (.func g) #[] cap] 217)) (hL : w.heap[L]? = some (.cells #[v] 156))
    (hs : Slc w 87 4 v ps.length (lcells ps)) (hi : i < ps.length) (hn : ps.length ≤ 1000000)
    (hcf : ∀ (args : Array Value) (W : World), Sem.run Tryz.prog (callFunc g args) W = .ok (.enter g args) W)
    (hf : ∀ W, Kp [] w W → Calls Tryz.prog g (#[.agg #[.string ps[i].key, .int .i64 ps[i].b, .int .u64 ps[i].s, .pointer ps[i].ptr]] ++ cap) W fun e W' => e = .returned (.bool (f ps[i])) ∧ Kp [] W W') :
    Calls Tryz.prog 256 #[.int .i64 i, .pointer (some ⟨F, 0, none⟩), .pointer (some ⟨L, 0, none⟩)] w fun e w' => e = .returned (.bool (f ps[i])) ∧ Kp [] w w' := by
  obtain ⟨gb, off, cp, cur, fr, rfl, hcp, hrow, hcur⟩ := hs.link (by omega)
  obtain ⟨c0, c1, c2, c3⟩ := hcur i hi
  have HF : Hid (∀ W, Kp [] w W → Calls Tryz.prog g (#[.agg #[.string ps[i].key, .int .i64 ps[i].b, .int .u64 ps[i].s, .pointer ps[i].ptr]] ++ cap) W fun e W' => e = .returned (.bool (f ps[i])) ∧ Kp [] W W') := hf
  clear hf hs hcur
  go_enter Tryz.func256, Tryz.ntmps256
  go_wp2_with fail
  have hS0 : w.heap[F]? = some (.cells #[.func (.func g) #[] cap] 217) ∧ w.heap[L]? = some (.cells #[.slice (some ⟨gb, off, none⟩) ps.length cp] 156) ∧ w.heap[gb]? = some (.cells cur 87 fr) := ⟨hF, hL, hrow⟩
  refine wp_region_held_drew (S := fun W => W.heap[F]? = some (.cells #[.func (.func g) #[] cap] 217) ∧ W.heap[L]? = some (.cells #[.slice (some ⟨gb, off, none⟩) ps.length cp] 156) ∧ W.heap[gb]? = some (.cells cur 87 fr)) (by kernel_rfl) hS0 (fun _ => ?_)
  refine wpAnyH_take (i := 0) (v := .func (.func g) #[] cap) rfl (by kernel_rfl) (by kernel_rfl) (by kernel_rfl) (fun _ _ _ h => h) (Or.inl ⟨by rfl, fun W hS => by have c := cell_of hS.1 0; simp at c; clear hS; go_simp⟩) hS0 ?_
  simp only [Act.put, List.setIfInBounds_toArray, List.set_cons_zero, List.set_cons_succ, List.getElem_toArray, List.getElem_cons_succ, List.getElem_cons_zero]
  refine wpAnyH_take (i := 1) (v := .slice (some ⟨gb, off, none⟩) ps.length cp) rfl (by kernel_rfl) (by kernel_rfl) (by kernel_rfl) (fun _ _ _ h => h) (Or.inl ⟨by rfl, fun W hS => by have c := cell_of hS.2.1 0; simp at c; clear hS; go_simp⟩) hS0 ?_
  simp only [Act.put, List.setIfInBounds_toArray, List.set_cons_zero, List.set_cons_succ, List.getElem_toArray, List.getElem_cons_succ, List.getElem_cons_zero]
  refine wpAnyH_take (i := 2) (v := .int .i64 i) rfl (by kernel_rfl) (by kernel_rfl) (by kernel_rfl) (fun _ _ _ h => h) (Or.inl ⟨by rfl, fun W hS => by clear hS; go_simp⟩) hS0 ?_
  simp only [Act.put, List.setIfInBounds_toArray, List.set_cons_zero, List.set_cons_succ, List.getElem_toArray, List.getElem_cons_succ, List.getElem_cons_zero]
  refine wpAnyH_take (i := 3) (v := .pointer (some ⟨gb, off + i * 4, none⟩)) rfl (by kernel_rfl) (by kernel_rfl) (by kernel_rfl) (fun _ _ _ h => h) (Or.inl ⟨by rfl, fun W hS => by clear hS; go_simp⟩) hS0 ?_
  simp only [Act.put, List.setIfInBounds_toArray, List.set_cons_zero, List.set_cons_succ, List.getElem_toArray, List.getElem_cons_succ, List.getElem_cons_zero]
  refine wpAnyH_take (i := 4) (v := .agg #[.string ps[i].key, .int .i64 ps[i].b, .int .u64 ps[i].s, .pointer ps[i].ptr]) rfl (by kernel_rfl) (by kernel_rfl) (by kernel_rfl) (fun _ _ _ h => h) (Or.inl ⟨by rfl, fun W hS => by have a0 := cell_of hS.2.2 (off + i * 4); rw [c0] at a0; have a1 := cell_of hS.2.2 (off + i * 4 + 1); rw [c1] at a1; have a2 := cell_of hS.2.2 (off + i * 4 + 2); rw [c2] at a2; have a3 := cell_of hS.2.2 (off + i * 4 + 3); rw [c3] at a3;clear hS; go_simp⟩) hS0 ?_
  simp only [Act.put, List.setIfInBounds_toArray, List.set_cons_zero, List.set_cons_succ, List.getElem_toArray, List.getElem_cons_succ, List.getElem_cons_zero]
  refine wpAnyH_ready (rs := [5]) (by kernel_rfl) (by simp) ?_
  refine AllReadyH.cons rfl (fun K hK => ?_) AllReadyH.nil
  go_simp
  refine (HF.out w.drew ((Kp.refl _ _).drew)).mono ?_
  rintro e w1 ⟨rfl, hK1⟩
  have hK1' : Kp [] w w1 := ((Kp.refl _ w).drew).trans hK1 (by simp)
  have hS1 := And.intro (hK1'.heap hF (by simp)) (And.intro (hK1'.heap hL (by simp)) (hK1'.heap hrow (by simp)))
  refine hK.out _ _ hS1 (fun _ => ?_)
  clear hK K
  try simp only [Act.put, List.setIfInBounds_toArray, List.set_cons_zero, List.set_cons_succ, List.getElem_toArray, List.getElem_cons_succ, List.getElem_cons_zero]
  refine wpAnyH_ready (rs := [6]) (by kernel_rfl) (by simp) ?_
  refine AllReadyH.cons rfl (fun K hK => ?_) AllReadyH.nil
  go_simp
  refine hK.out _ _ hS1 (fun _ => ?_)
  clear hK K
  refine wpAnyH_done (by kernel_rfl) ?_ _
  go_wp2
  go_ret
  exact ⟨rfl, hK1'⟩

set_option maxHeartbeats 400000 in
set_option maxRecDepth 10000 in
theorem firstL_ok (g : Nat) (cap : Array Value) (v : Value) (ps : List HL) (f : HL → Bool) (w : World)
    (hs : Slc w 87 4 v ps.length (lcells ps)) (hn : ps.length ≤ 1000000) (hup : ∀ i j (hi : i < ps.length) (hj : j < ps.length), i ≤ j → f ps[i] = true → f ps[j] = true)
    (hcf : ∀ (args : Array Value) (W : World), Sem.run Tryz.prog (callFunc g args) W = .ok (.enter g args) W)
    (hf : ∀ W, Kp [] w W → ∀ i (h : i < ps.length), Calls Tryz.prog g (#[.agg #[.string ps[i].key, .int .i64 ps[i].b, .int .u64 ps[i].s, .pointer ps[i].ptr]] ++ cap) W fun e W' => e = .returned (.bool (f ps[i])) ∧ Kp [] W W') :
    Calls Tryz.prog 215 #[v, .func (.func g) #[] cap] w fun e w' => e = .returned (.int .i64 (ps.findIdx f : Nat)) ∧ Kp [] w w' := by
  have hmf : ∀ (fn : Fn) (first cap : Array Value) (w : World), (Instr.makeFunc fn first cap).run Tryz.prog w = .ok (.func fn first cap) w := fun _ _ _ _ => rfl
  obtain ⟨bs, cp, hv⟩ : ∃ bs cp, v = .slice bs ps.length cp := by
    rcases hs.val with ⟨h0, b, c, h1, _⟩ | ⟨g, off, cap, cur, fr, h1, _⟩
    · rw [h0]; exact ⟨b, c, h1⟩
    · exact ⟨_, cap, h1⟩
  subst hv
  have HF : Hid (∀ W, Kp [] w W → ∀ i (h : i < ps.length), Calls Tryz.prog g (#[.agg #[.string ps[i].key, .int .i64 ps[i].b, .int .u64 ps[i].s, .pointer ps[i].ptr]] ++ cap) W fun e W' => e = .returned (.bool (f ps[i])) ∧ Kp [] W W') := hf
  have HU : Hid (∀ i j (hi : i < ps.length) (hj : j < ps.length), i ≤ j → f ps[i] = true → f ps[j] = true) := hup
  clear hf hup
  go_enter Tryz.func215, Tryz.ntmps215
  go_wp2_with fail
  obtain ⟨w1, hw1, hL1, hF1, hK1⟩ : ∃ w1, w1 = (w.alloc (Obj.cells #[.slice bs ps.length cp] 156)).alloc (Obj.cells #[.func (.func g) #[] cap] 217) ∧ w1.heap[w.heap.size]? = some (Obj.cells #[.slice bs ps.length cp] 156) ∧ w1.heap[w.heap.size + 1]? = some (Obj.cells #[.func (.func g) #[] cap] 217) ∧ Kp [] w w1 := by
    refine ⟨_, rfl, heap_old _ (heap_new _ _), ?_, ((Kp.refl _ _).alloc _).alloc _⟩
    have e := heap_new (w.alloc (Obj.cells #[.slice bs ps.length cp] 156)) (Obj.cells #[.func (.func g) #[] cap] 217)
    simpa using e
  rw [← hw1]
  clear hw1
  refine (search_ok 256 _ ps.length (fun i => ((ps[i]?.map f).getD false)) w1 hn ?_ ?_ ?_).mono ?_
  · intro i j hij hj hp
    have hi : i < ps.length := by omega
    simp only [List.getElem?_eq_getElem hi, List.getElem?_eq_getElem hj, Option.map_some, Option.getD_some] at *
    exact HU.out i j hi hj hij hp
  · intro args W
    simp [go_sem, Tryz.func256]
  · intro W hKW i hi
    refine (firstL1_ok g (w.heap.size + 1) w.heap.size cap _ ps f i W (hKW.heap hF1 (by simp)) (hKW.heap hL1 (by simp)) (hs.keep0 (hK1.trans hKW (by simp))) hi hn hcf (fun W' hK' => HF.out W' ((hK1.trans hKW (by simp)).trans hK' (by simp)) i hi)).mono ?_
    rintro e W' ⟨rfl, hK'⟩
    exact ⟨by simp [List.getElem?_eq_getElem hi], hK'⟩
  · rintro e w2 ⟨i, rfl, ⟨h1, h2, h3⟩, hK2⟩
    have e : i = ps.findIdx f := idx_of h1 (fun j hj hji => by
      have := h2 j hji
      simpa [List.getElem?_eq_getElem hj] using this) (fun h => by
      have := h3 h
      simpa [List.getElem?_eq_getElem h] using this)
    subst e
    have hK2' := hK1.trans hK2 (by simp)
    go_wp2
    go_ret
    exact ⟨rfl, hK2'⟩
end Go.Proofs.YtdohpenfkdckiaaGreatDoor


namespace Go.Proofs.YtdohpenfkdckiaaGreatDoor
set_option linter.unusedSimpArgs false
set_option linter.unusedVariables false
open Go.RowKit

set_option maxHeartbeats 400000 in
set_option maxRecDepth 10000 in
theorem lastL1_ok (g F : Nat) (cap : Array Value) (p : HL) (r : Bool) (w : World) (hF : w.heap[F]? = some (.cells #[.func (.func g) #[] cap] 217))
    (hcf : ∀ (args : Array Value) (W : World), Sem.run Tryz.prog (callFunc g args) W = .ok (.enter g args) W)
    (hf : ∀ W, Kp [] w W → Calls Tryz.prog g (#[.agg #[.string p.key, .int .i64 p.b, .int .u64 p.s, .pointer p.ptr]] ++ cap) W fun e W' => e = .returned (.bool r) ∧ Kp [] W W') :
    Calls Tryz.prog 216 #[.agg #[.string p.key, .int .i64 p.b, .int .u64 p.s, .pointer p.ptr], .pointer (some ⟨F, 0, none⟩)] w fun e w' => e = .returned (.bool !r) ∧ Kp [] w w' := by
  have HF : Hid (∀ W, Kp [] w W → Calls Tryz.prog g (#[.agg #[.string p.key, .int .i64 p.b, .int .u64 p.s, .pointer p.ptr]] ++ cap) W fun e W' => e = .returned (.bool r) ∧ Kp [] W W') := hf
  clear hf
  have hFs := lt_of_heap hF
  have f0 := cell_of hF 0
  simp only [List.getElem?_toArray, List.getElem?_cons_zero, List.getElem?_cons_succ] at f0
  go_enter Tryz.func216, Tryz.ntmps216
  go_wp2_with fail
  refine (HF.out _ ((Kp.refl _ _).alloc _)).mono ?_
  rintro e w1 ⟨rfl, hK1⟩
  have hK1' : Kp [] w w1 := ((Kp.refl _ _).alloc _).trans hK1 (by simp)
  go_wp2
  go_ret
  exact ⟨rfl, hK1'⟩

set_option maxHeartbeats 400000 in
set_option maxRecDepth 10000 in
theorem lastL_ok (g : Nat) (cap : Array Value) (v : Value) (ps : List HL) (f : HL → Bool) (w : World)
    (hs : Slc w 87 4 v ps.length (lcells ps)) (hn : ps.length ≤ 1000000) (hdn : ∀ i j (hi : i < ps.length) (hj : j < ps.length), i ≤ j → f ps[j] = true → f ps[i] = true)
    (hcf : ∀ (args : Array Value) (W : World), Sem.run Tryz.prog (callFunc g args) W = .ok (.enter g args) W)
    (hf : ∀ W, Kp [] w W → ∀ i (h : i < ps.length), Calls Tryz.prog g (#[.agg #[.string ps[i].key, .int .i64 ps[i].b, .int .u64 ps[i].s, .pointer ps[i].ptr]] ++ cap) W fun e W' => e = .returned (.bool (f ps[i])) ∧ Kp [] W W') :
    Calls Tryz.prog 148 #[v, .func (.func g) #[] cap] w fun e w' => e = .returned (.int .i64 (ps.findIdx (fun p => !f p) - 1 : Nat)) ∧ Kp [] w w' := by
  have hmf : ∀ (fn : Fn) (first cap : Array Value) (w : World), (Instr.makeFunc fn first cap).run Tryz.prog w = .ok (.func fn first cap) w := fun _ _ _ _ => rfl
  have HF : Hid (∀ W, Kp [] w W → ∀ i (h : i < ps.length), Calls Tryz.prog g (#[.agg #[.string ps[i].key, .int .i64 ps[i].b, .int .u64 ps[i].s, .pointer ps[i].ptr]] ++ cap) W fun e W' => e = .returned (.bool (f ps[i])) ∧ Kp [] W W') := hf
  have HU : Hid (∀ i j (hi : i < ps.length) (hj : j < ps.length), i ≤ j → f ps[j] = true → f ps[i] = true) := hdn
  clear hf hdn
  go_enter Tryz.func148, Tryz.ntmps148
  go_wp2_with fail
  have hF1 := heap_new w (Obj.cells #[.func (.func g) #[] cap] 217)
  have hK1 : Kp [] w (w.alloc (Obj.cells #[.func (.func g) #[] cap] 217)) := (Kp.refl _ _).alloc _
  refine (firstL_ok 216 _ v ps (fun p => !f p) _ (hs.keep0 hK1) hn ?_ ?_ ?_).mono ?_
  · intro i j hi hj hij hp
    by_cases e : f ps[j] = true
    · rw [HU.out i j hi hj hij e] at hp; simp at hp
    · simpa using e
  · intro args W
    simp [go_sem, Tryz.func216]
  · intro W hKW i hi
    exact lastL1_ok g w.heap.size cap ps[i] (f ps[i]) W (hKW.heap hF1 (by simp)) hcf (fun W' hK' => HF.out W' ((hK1.trans hKW (by simp)).trans hK' (by simp)) i hi)
  · rintro e w2 ⟨rfl, hK2⟩
    have hK2' := hK1.trans hK2 (by simp)
    have hle : ps.findIdx (fun p => !f p) ≤ ps.length := List.findIdx_le_length
    go_wp2
    all_goals
      go_ret
      exact ⟨ret_int (by omega), hK2'⟩

/-- A node as it lies in memory. -/
def nobj (lvl : Int) (vp vl : Value) : Obj := .cells #[.int .i64 lvl, vp, vl] 213

/-- The keys of links rise. -/
def Rise (ls : List HL) : Prop := ls.Pairwise fun a b => kl a.key b.key = true
theorem Rise.at {ls : List HL} (h : Rise ls) {i j : Nat} (hi : i < ls.length) (hj : j < ls.length) (hij : i < j) : kl ls[i].key ls[j].key = true :=
  List.pairwise_iff_getElem.1 h i j hi hj hij

end Go.Proofs.YtdohpenfkdckiaaGreatDoor

