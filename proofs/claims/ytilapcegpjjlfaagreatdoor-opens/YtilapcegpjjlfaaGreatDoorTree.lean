import Derived.Test.YtilapcegpjjlfaaGreatDoorFmt
namespace Go.Proofs.YtilapcegpjjlfaaGreatDoor
set_option linter.unusedSimpArgs false
set_option linter.unusedVariables false
open Go.RowKit

/-- The empty tree on a volume. -/
def tagg (V : Nat) : Value := .agg #[.pointer (some ⟨V, 0, none⟩), .string ⟨#[]⟩, .int .i64 0, .int .u64 0, .pointer none]

set_option maxHeartbeats 400000 in
set_option maxRecDepth 10000 in
theorem at_ok (V : Nat) (w : World) :
    Calls Tryz.prog 61 #[.pointer (some ⟨V, 0, none⟩), .agg #[.int .i64 0, .int .u64 0]] w fun e w' => e = .returned (tagg V) ∧ Kp [] w w' := by
  go_enter Tryz.func61, Tryz.ntmps61
  go_wp2
  refine bodyPost_ret (results_cell_row Tryz.results61 _ _ (w.heap.size + 1) 116 #[.pointer (some ⟨V, 0, none⟩), .string ⟨#[]⟩, .int .i64 0, .int .u64 0, .pointer none] (0, 0) _ rfl ?_ Tryz.underlying116 rfl (by kernel_rfl)) rfl ⟨rfl, ((Kp.refl _ _).alloc _).alloc _⟩
  have e := heap_new (w.alloc (Obj.cells #[Value.int IntKind.i64 0, Value.int IntKind.u64 0] 111)) (Obj.cells #[.pointer (some ⟨V, 0, none⟩), .string ⟨#[]⟩, .int .i64 0, .int .u64 0, .pointer none] 116)
  simpa using e
theorem eq_nil_nil (d : Nat) (W : World) : Sem.run Tryz.prog (Op.equalIn (d + 1) 112 (Value.pointer none) (Value.pointer none)) W = .ok true W := by
  simp [Op.equalIn, run_underlying Tryz.underlying112]

set_option maxHeartbeats 400000 in
set_option maxRecDepth 10000 in
theorem empty_ok (V : Nat) (w : World) :
    Calls Tryz.prog 145 #[.agg #[.pointer (some ⟨V, 0, none⟩), .string ⟨#[]⟩, .int .i64 0, .int .u64 0, .pointer none]] w fun e w' => e = .returned (.bool true) ∧ Kp [] w w' := by
  have heq : ∀ W : World, Sem.run Tryz.prog (Op.equalIn 9999 112 (Value.pointer none) (Value.pointer none)) W = .ok true W := fun W => eq_nil_nil 9998 W
  go_enter Tryz.func145, Tryz.ntmps145
  go_wp2
  go_ret
  exact ⟨rfl, (Kp.refl _ _).alloc _⟩

set_option maxHeartbeats 400000 in
set_option maxRecDepth 10000 in
theorem check_ok (V : Nat) (w : World) :
    Calls Tryz.prog 96 #[.agg #[.pointer (some ⟨V, 0, none⟩), .string ⟨#[]⟩, .int .i64 0, .int .u64 0, .pointer none]] w fun e w' => e = .returned (.int .i64 0) ∧ Kp [] w w' := by
  go_enter Tryz.func96, Tryz.ntmps96
  go_wp2_with fail
  refine (empty_ok V _).mono ?_
  rintro e w1 ⟨rfl, hK1⟩
  have hc : w1.heap[w.heap.size + 1]? = some (Obj.cells #[Value.pointer (some { block := V, off := 0 }), Value.int IntKind.i64 0, Value.string { data := #[] }] 225) := hK1.heap (by
    have e := heap_new (w.alloc (Obj.cells #[Value.pointer (some { block := V, off := 0 }), Value.string { data := #[] }, Value.int IntKind.i64 0, Value.int IntKind.u64 0, Value.pointer none] 116)) (Obj.cells #[Value.pointer (some { block := V, off := 0 }), Value.int IntKind.i64 0, Value.string { data := #[] }] 225)
    simpa using e) (by simp)
  have hK1' : Kp [] w w1 := (((Kp.refl [] w).alloc _).alloc _).trans hK1 (by simp)
  clear hK1
  have c1 := cell_of hc 1
  simp at c1
  go_wp2
  go_ret
  exact ⟨rfl, hK1'⟩
end Go.Proofs.YtilapcegpjjlfaaGreatDoor
