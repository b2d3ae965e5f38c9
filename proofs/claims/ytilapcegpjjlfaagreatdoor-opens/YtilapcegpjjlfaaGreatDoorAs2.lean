import Derived.Test.YtilapcegpjjlfaaGreatDoorAs
namespace Go.Proofs.YtilapcegpjjlfaaGreatDoor
set_option linter.unusedSimpArgs false
set_option linter.unusedVariables false
open Go.RowKit Go.Extern.Stop Go.Stop Go.Extern

theorem unwrap_ok (F : Nat) (call : ByteArray) (x : Value) (w : World) (hF : w.heap[F]? = some (.cells #[.string call, x] 199)) :
    Calls Tryz.prog 283 #[.pointer (some ⟨F, 0, none⟩)] w fun e w' => e = .returned x ∧ w' = w := by
  have c1 := cell_of hF 1
  simp at c1
  clear hF
  go_enter Tryz.func283, Tryz.ntmps283
  go_wp2
  go_ret
  exact ⟨rfl, rfl⟩

set_option maxHeartbeats 4000000 in
set_option maxRecDepth 10000 in
theorem as93_ok (F E a : Nat) (call : ByteArray) (k : Int) (w : World) (hF : w.heap[F]? = some (.cells #[.string call, .iface 59 (.int .i64 k)] 199)) (hE : w.heap[E]? = some (.cells #[.int .i64 0] 59)) (ha : w.heap[a]? = some (.cells #[.pointer (some ⟨E, 0, none⟩)] 96)) :
    Calls Tryz.prog 93 #[.iface 196 (.pointer (some ⟨F, 0, none⟩)), .iface 96 (.pointer (some ⟨E, 0, none⟩)), .agg #[.pointer (some ⟨5, 96, none⟩), .pointer (some ⟨a, 0, none⟩), .int .u64 150], .iface 209 (.agg #[.pointer (some ⟨5, 59, none⟩)])] w fun e w' => e = .returned (.bool true) ∧ w'.heap[E]? = some (.cells #[.int .i64 k] 59) ∧ Kp [E] w w' := by
  have h90 := @run_callFunc_extern Tryz.prog 90 _ (fun args => ReflectliteValue.unpack (args.getD 0 (.tuple #[]))) Tryz.func90 (by kernel_rfl) (by kernel_rfl) (by kernel_rfl) (by kernel_rfl)
  have h142 := @run_callFunc_extern Tryz.prog 142 _ ReflectliteType.typeOf Tryz.func142 (by kernel_rfl) (by kernel_rfl) (by kernel_rfl) (by kernel_rfl)
  have h285 := @run_callFunc_extern Tryz.prog 285 _ (ReflectliteType.relation "AssignableTo" ReflectliteType.assignableTo) Tryz.func285 (by kernel_rfl) (by kernel_rfl) (by kernel_rfl) (by kernel_rfl)
  have h143 := @run_callFunc_extern Tryz.prog 143 _ (ReflectliteValue.method (ReflectliteValue.valueError "reflectlite.Value.Elem" 0) ReflectliteValue.elem) Tryz.func143 (by kernel_rfl) (by kernel_rfl) (by kernel_rfl) (by kernel_rfl)
  have h144 := @run_callFunc_extern Tryz.prog 144 _ ReflectliteValue.set Tryz.func144 (by kernel_rfl) (by kernel_rfl) (by kernel_rfl) (by kernel_rfl)
  have tF := as_typeOfF
  have tE := as_typeOfE
  have mA := as_mAssignableTo
  have mU := as_mUnwrap
  have aF := as_assignF
  have aE := as_assignE
  have vE := as_valueOfE
  have ta1 : ∀ W : World, Sem.run Tryz.prog (Instr.typeAssert (.iface 196 (.pointer (some ⟨F, 0, none⟩))) 57 214 true) W = .ok (.tuple #[.nilIface, .bool false]) W := fun W => run_typeAssert_lacksB Tryz.underlying214 (by kernel_rfl) (by kernel_rfl) _ _ W
  have ta2 : ∀ W : World, Sem.run Tryz.prog (Instr.typeAssert (.iface 196 (.pointer (some ⟨F, 0, none⟩))) 57 217 true) W = .ok (.tuple #[.iface 196 (.pointer (some ⟨F, 0, none⟩)), .bool true]) W := fun W => run_typeAssert_hasB Tryz.underlying217 (by kernel_rfl) _ _ W
  have hEs := lt_of_heap hE
  have hFs := lt_of_heap hF
  have has := lt_of_heap ha
  go_enter Tryz.func93, Tryz.ntmps93
  go_wp2
  refine wp_loop_rounds 3 ?_
  rw [rounds_succ]
  go_wp2_with fail
  obtain ⟨W1, hW1, hK1, hs1⟩ : ∃ W1, W1 = w.alloc (Obj.cells #[.pointer (some ⟨5, 96, none⟩), .pointer (some ⟨a, 0, none⟩), .int .u64 150] 171) ∧ Kp [E] w W1 ∧ W1.heap.size = w.heap.size + 1 := ⟨_, rfl, (Kp.refl _ _).alloc _, by simp⟩
  have hF1 : W1.heap[F]? = some (.cells #[.string call, .iface 59 (.int .i64 k)] 199) := by rw [hW1]; exact heap_old _ hF
  have hE1 : W1.heap[E]? = some (.cells #[.int .i64 0] 59) := by rw [hW1]; exact heap_old _ hE
  have ha1 : W1.heap[a]? = some (.cells #[.pointer (some ⟨E, 0, none⟩)] 96) := by rw [hW1]; exact heap_old _ ha
  have hv1 : W1.heap[w.heap.size]? = some (Obj.cells #[.pointer (some ⟨5, 96, none⟩), .pointer (some ⟨a, 0, none⟩), .int .u64 150] 171) := by rw [hW1]; exact heap_new _ _
  rw [← hW1]
  clear hW1
  have v0 := cell_of hv1 0
  have v1 := cell_of hv1 1
  have v2 := cell_of hv1 2
  have a0 := cell_of ha1 0
  simp at v0 v1 v2 a0
  have eV := as_elemV ⟨a, 0, none⟩ ⟨E, 0, none⟩ W1 a0
  have hb2 := cell_of (heap_new W1 (.cells #[.int .i64 k] 59)) 0
  have he2 := cell_of (heap_old (.cells #[.int .i64 k] 59) hE1) 0
  have hfz2 := frozen_of (heap_old (.cells #[.int .i64 k] 59) hE1) 0
  simp at hb2 he2
  have sE := as_set ⟨E, 0, none⟩ ⟨W1.heap.size, 0, none⟩ k (.int .i64 0) (W1.alloc (.cells #[.int .i64 k] 59)) (by simp) (by simpa using he2) hfz2
  rw [hs1] at sE
  clear hb2 he2 hfz2
  refine (unwrap_ok F call _ _ hF1).mono ?_
  rintro e w2 ⟨rfl, rfl⟩
  go_wp2_with fail
  rw [rounds_succ]
  go_wp2
  go_ret
  refine ⟨rfl, ?_, ?_⟩
  · first
      | exact heap_set (heap_old _ hE1) 0 _
      | exact heap_old _ (heap_set hE1 0 _)
  · first
      | exact (hK1.alloc _).setCell (by simp) _
      | exact (hK1.setCell (by simp) _).alloc _

set_option maxHeartbeats 4000000 in
set_option maxRecDepth 10000 in
theorem as51_ok (F E : Nat) (call : ByteArray) (k : Int) (w : World) (hg : w.cell? ⟨0, 0, none⟩ = some errType) (hF : w.heap[F]? = some (.cells #[.string call, .iface 59 (.int .i64 k)] 199)) (hE : w.heap[E]? = some (.cells #[.int .i64 0] 59)) :
    Calls Tryz.prog 51 #[.iface 196 (.pointer (some ⟨F, 0, none⟩)), .iface 96 (.pointer (some ⟨E, 0, none⟩))] w fun e w' => e = .returned (.bool true) ∧ w'.heap[E]? = some (.cells #[.int .i64 k] 59) ∧ Kp [E] w w' := by
  have h90 := @run_callFunc_extern Tryz.prog 90 _ (fun args => ReflectliteValue.unpack (args.getD 0 (.tuple #[]))) Tryz.func90 (by kernel_rfl) (by kernel_rfl) (by kernel_rfl) (by kernel_rfl)
  have h91 := @run_callFunc_extern Tryz.prog 91 _ (ReflectliteValue.methodAny (ReflectliteValue.valueError "reflectlite.Value.Type" 0) (fun t _ _ _ => ReflectliteType.toType t)) Tryz.func91 (by kernel_rfl) (by kernel_rfl) (by kernel_rfl) (by kernel_rfl)
  have h92 := @run_callFunc_extern Tryz.prog 92 _ (ReflectliteValue.method (ReflectliteValue.valueError "reflectlite.Value.IsNil" 0) ReflectliteValue.isNil) Tryz.func92 (by kernel_rfl) (by kernel_rfl) (by kernel_rfl) (by kernel_rfl)
  have h266 := @run_callFunc_extern Tryz.prog 266 _ (ReflectliteType.abiMethod fun t => do pure (.int .u8 (← Rtype.kind t))) Tryz.func266 (by kernel_rfl) (by kernel_rfl) (by kernel_rfl) (by kernel_rfl)
  have h287 := @run_callFunc_extern Tryz.prog 287 _ (ReflectliteType.method ReflectliteType.elem) Tryz.func287 (by kernel_rfl) (by kernel_rfl) (by kernel_rfl) (by kernel_rfl)
  have h288 := @run_callFunc_extern Tryz.prog 288 _ (ReflectliteType.relation "Implements" ReflectliteType.implements_) Tryz.func288 (by kernel_rfl) (by kernel_rfl) (by kernel_rfl) (by kernel_rfl)
  have vO := as_valueOf
  have tY := as_type
  have mK := as_mKind
  have mE := as_mElem
  have mI := as_mImplements
  have kP := as_kindP
  have kE := as_kindE
  have eL := as_elem
  have iM := as_implements
  have hEs := lt_of_heap hE
  have hFs := lt_of_heap hF
  have hgl : 0 < w.heap.size := by omega
  have nN := as_isNil ⟨w.heap.size, 0, none⟩ ⟨E, 0, none⟩ ((w.alloc (.cells #[.pointer (some ⟨E, 0, none⟩)] 96)).alloc (.cells #[.pointer (some ⟨5, 96, none⟩), .pointer (some ⟨w.heap.size, 0, none⟩), .int .u64 150] 171)) (by simp)
  have hg2 : ((w.alloc (.cells #[.pointer (some ⟨E, 0, none⟩)] 96)).alloc (.cells #[.pointer (some ⟨5, 96, none⟩), .pointer (some ⟨w.heap.size, 0, none⟩), .int .u64 150] 171)).cell? ⟨0, 0, none⟩ = some (.iface 209 (.agg #[.pointer (some ⟨5, 57, none⟩)])) := by
    rw [World.cell?_alloc_lt _ _ ⟨0, 0, none⟩ (by simp), World.cell?_alloc_lt _ _ ⟨0, 0, none⟩ hgl]; exact hg
  clear hg
  go_enter Tryz.func51, Tryz.ntmps51
  go_wp2_with fail
  refine (as93_ok F E w.heap.size call k _ (heap_old _ (heap_old _ hF)) (heap_old _ (heap_old _ hE)) (heap_old _ (heap_new _ _))).mono ?_
  rintro e w1 ⟨rfl, hE1, hK1⟩
  have hK1' : Kp [E] w w1 := (((Kp.refl [E] w).alloc _).alloc _).trans hK1 (by simp)
  clear h90 h91 h92 h266 h287 h288 vO tY mK mE mI kP kE eL iM nN hg2 hK1
  go_wp2
  go_ret
  exact ⟨rfl, hE1, hK1'⟩
end Go.Proofs.YtilapcegpjjlfaaGreatDoor
