import Derived.Test.YtilapcegpjjlfaaGreatDoorOn
namespace Go.Proofs.YtilapcegpjjlfaaGreatDoor
set_option linter.unusedSimpArgs false
set_option linter.unusedVariables false
open Go.RowKit

set_option maxHeartbeats 400000 in
set_option maxRecDepth 10000 in
theorem wrong_ok (k : Int) (w : World) :
    Calls Tryz.prog 135 #[.iface 222 (.agg #[.iface 59 (.int .i64 k)])] w fun e w' => e = .returned (.iface 59 (.int .i64 k)) ∧ Kp [] w w' := by
  have hta : ∀ W : World, Sem.run Tryz.prog (Instr.typeAssert (Value.iface 222 (Value.agg #[Value.iface 59 (Value.int IntKind.i64 k)])) 20 222 true) W = .ok (.tuple #[.agg #[.iface 59 (.int .i64 k)], .bool true]) W := fun W => by kernel_rfl
  go_enter Tryz.func135, Tryz.ntmps135
  go_wp2
  go_ret
  exact ⟨rfl, (Kp.refl _ _).alloc _⟩
theorem catch_idle (p q : Addr) (w : World) :
    CallsD Tryz.prog 134 #[.pointer (some p), .pointer (some q)] .returning w fun e u' w' => e = .returned (.tuple #[]) ∧ u' = .returning ∧ w' = w := by
  refine callsD_of_wpS Tryz.func134 rfl fun c₀ cs hu => ?_
  apply wpS_seq
  apply wpS_region
  simp [wpOpsS, go_sem, recoverD, hu, Tryz.ntmps134, Exit.thenS, Array.replicate]
  refine wpS_of_wp ?_
  go_wp2
  cases c₀
  simp_all [bodyPostS, results, Tryz.results134]

set_option maxHeartbeats 400000 in
set_option maxRecDepth 10000 in
theorem catch_thrown (B E : Nat) (k : Int) (call : ByteArray) (w : World) (hp : w.heap[B]? = some (.cells #[.string call] 9)) (hBE : B ≠ E) (hE : w.heap[E]? = some (.cells #[.nilIface] 57)) :
    CallsD Tryz.prog 134 #[.pointer (some ⟨B, 0, none⟩), .pointer (some ⟨E, 0, none⟩)] (.panicking [{ v := .iface 222 (.agg #[.iface 59 (.int .i64 k)]), recovered := false }]) w fun e u' w' =>
      e = .returned (.tuple #[]) ∧ u' = .panicking [{ v := .iface 222 (.agg #[.iface 59 (.int .i64 k)]), recovered := true }] ∧ ∃ F, w.heap.size ≤ F ∧ w'.heap[F]? = some (.cells #[.string call, .iface 59 (.int .i64 k)] 199) ∧ w'.heap[E]? = some (.cells #[.iface 196 (.pointer (some ⟨F, 0, none⟩))] 57) ∧ Kp [E] w w' := by
  refine callsD_of_wpS Tryz.func134 rfl fun c₀ cs hu => ?_
  apply wpS_seq
  apply wpS_region
  simp [wpOpsS, go_sem, recoverD, hu, Tryz.ntmps134, Exit.thenS, Array.replicate]
  refine wpS_of_wp ?_
  go_wp2_with fail
  refine wp_region_held_drew (S := fun W => W.heap[B]? = some (.cells #[.string call] 9)) (by kernel_rfl) hp (fun _ => ?_)
  refine wpAnyH_take (i := 1) (v := .iface 222 (.agg #[.iface 59 (.int .i64 k)])) rfl (by kernel_rfl) (by kernel_rfl) (by kernel_rfl) (fun _ _ _ h => h) (Or.inl ⟨by rfl, fun W hS => rfl⟩) hp ?_
  simp only [Act.put, List.setIfInBounds_toArray, List.set_cons_zero, List.set_cons_succ, List.getElem_toArray, List.getElem_cons_succ, List.getElem_cons_zero]
  refine wpAnyH_take (i := 0) (v := .string call) rfl (by kernel_rfl) (by kernel_rfl) (by kernel_rfl) (fun _ _ _ h => h) (Or.inl ⟨by rfl, fun W hS => by have c := cell_of hS 0; simp at c; clear hS; go_simp⟩) hp ?_
  simp only [Act.put, List.setIfInBounds_toArray, List.set_cons_zero, List.set_cons_succ, List.getElem_toArray, List.getElem_cons_succ, List.getElem_cons_zero]
  refine wpAnyH_ready (rs := [2]) (by kernel_rfl) (by simp) ?_
  refine AllReadyH.cons rfl (fun K hK => ?_) AllReadyH.nil
  go_simp
  refine (wrong_ok k _).mono ?_
  rintro e w2 ⟨rfl, hK2⟩
  have hp2 := hK2.heap (k := B) hp (by simp)
  have hE2 := hK2.heap (k := E) hE (by simp)
  have hK2' : Kp [E] w w2 := ((Kp.refl [E] w).drew).trans hK2 (by simp)
  have hs2 := hK2'.size
  clear hK2
  refine hK.out _ _ hp2 (fun _ => ?_)
  clear hK K
  try simp only [Act.put, List.setIfInBounds_toArray, List.set_cons_zero, List.set_cons_succ, List.getElem_toArray, List.getElem_cons_succ, List.getElem_cons_zero]
  refine wpAnyH_take (i := 3) (v := .agg #[.string call, .iface 59 (.int .i64 k)]) rfl (by kernel_rfl) (by kernel_rfl) (by kernel_rfl) (fun _ _ _ h => h) (Or.inl ⟨by rfl, fun W hS => by clear hS; go_simp⟩) hp2 ?_
  simp only [Act.put, List.setIfInBounds_toArray, List.set_cons_zero, List.set_cons_succ, List.getElem_toArray, List.getElem_cons_succ, List.getElem_cons_zero]
  refine wpAnyH_ready (rs := [4]) (by kernel_rfl) (by simp) ?_
  refine AllReadyH.cons rfl (fun K hK => ?_) AllReadyH.nil
  go_simp
  refine hK.out _ _ (heap_old _ hp2) (fun _ => ?_)
  clear hK K
  try simp only [Act.put, List.setIfInBounds_toArray, List.set_cons_zero, List.set_cons_succ, List.getElem_toArray, List.getElem_cons_succ, List.getElem_cons_zero]
  have hp3 := heap_old (Obj.cells #[.string call, .iface 59 (.int .i64 k)] 199) hp2
  have hE3 := heap_old (Obj.cells #[.string call, .iface 59 (.int .i64 k)] 199) hE2
  have hF3 := heap_new w2 (Obj.cells #[.string call, .iface 59 (.int .i64 k)] 199)
  have hK3 := hK2'.alloc (Obj.cells #[.string call, .iface 59 (.int .i64 k)] 199)
  refine wpAnyH_take (i := 5) (v := .iface 196 (.pointer (some ⟨w2.heap.size, 0, none⟩))) rfl (by kernel_rfl) (by kernel_rfl) (by kernel_rfl) (fun _ _ _ h => h) (Or.inl ⟨by rfl, fun W hS => by clear hS; go_simp⟩) hp3 ?_
  simp only [Act.put, List.setIfInBounds_toArray, List.set_cons_zero, List.set_cons_succ, List.getElem_toArray, List.getElem_cons_succ, List.getElem_cons_zero]
  generalize w2.alloc (Obj.cells #[Value.string call, Value.iface 59 (Value.int .i64 k)] 199) = W3 at *
  have hF3s := lt_of_heap hF3
  have hE2s := lt_of_heap hE2
  have e0 := cell_of hE3 0
  simp at e0
  have ef := frozen_of hE3 0
  refine wpAnyH_ready (rs := [6]) (by kernel_rfl) (by simp) ?_
  refine AllReadyH.cons rfl (fun K hK => ?_) AllReadyH.nil
  go_simp
  refine hK.out _ _ ((heap_set_other hBE _ _).trans hp3) (fun _ => ?_)
  clear hK K
  refine wpAnyH_done (by kernel_rfl) ?_ _
  exact ⟨rfl, _, rfl, _, results_none Tryz.results134 _ _ _, rfl, rfl, w2.heap.size, hs2, (heap_set_other (by omega) _ _).trans hF3, heap_set hE3 0 _, hK3.setCell (by simp) _⟩

set_option maxHeartbeats 400000 in
set_option maxRecDepth 10000 in
/-- Catch, where the work ends. -/
theorem catch_done (f : Nat) (cap : Array Value) (call : ByteArray) (w : World) (R : World → Prop) (hcf : ∀ W : World, Sem.run Tryz.prog (callFunc f cap) W = .ok (.enter f cap) W)
    (hw : Calls Tryz.prog f cap ((w.alloc (.cells #[.string call] 9)).alloc (.cells #[.nilIface] 57)) fun e w' => e = .returned (.tuple #[]) ∧ R w' ∧ w'.heap[w.heap.size + 1]? = some (.cells #[.nilIface] 57)) :
    Calls Tryz.prog 84 #[.string call, .func (.func f) #[] cap] w fun e w' => e = .returned .nilIface ∧ ∃ w1, R w1 ∧ w' = w1.setCell ⟨w.heap.size + 1, 0, none⟩ .nilIface := by
  have hmf : ∀ (fn : Fn) (first cap : Array Value) (w : World), (Instr.makeFunc fn first cap).run Tryz.prog w = .ok (.func fn first cap) w := fun _ _ _ _ => rfl
  have HW : Hid (Calls Tryz.prog f cap ((w.alloc (.cells #[.string call] 9)).alloc (.cells #[.nilIface] 57)) fun e w' => e = .returned (.tuple #[]) ∧ R w' ∧ w'.heap[w.heap.size + 1]? = some (.cells #[.nilIface] 57)) := hw
  clear hw
  go_enter_defers Tryz.func84, Tryz.ntmps84
  go_wp2_with fail
  refine (show Calls _ _ _ _ _ from HW.out).mono ?_
  rintro e w1 ⟨rfl, hR, hE⟩
  have e0 := cell_of hE 0
  simp at e0
  have ef := frozen_of hE 0
  go_wp2
  refine leaves_cons (f := 134) (args := #[.pointer (some ⟨w.heap.size, 0, none⟩), .pointer (some ⟨w.heap.size + 1, 0, none⟩)]) (by simp) (by simp [go_sem]) ?_
  refine (catch_idle ⟨w.heap.size, 0, none⟩ ⟨w.heap.size + 1, 0, none⟩ _).mono ?_
  rintro e u' w'' ⟨rfl, rfl, rfl⟩
  simp [Leaves, settle, results, Tryz.results84, go_sem, e0]
  exact ⟨w1, hR, rfl⟩

set_option maxHeartbeats 400000 in
set_option maxRecDepth 10000 in
/-- Catch, where the work throws. -/
theorem catch_bad (f : Nat) (cap : Array Value) (call : ByteArray) (k : Int) (w : World) (hcf : ∀ W : World, Sem.run Tryz.prog (callFunc f cap) W = .ok (.enter f cap) W)
    (S : List Nat) (hw : Calls Tryz.prog f cap ((w.alloc (.cells #[.string call] 9)).alloc (.cells #[.nilIface] 57)) fun e w' => e = .panicked [{ v := .iface 222 (.agg #[.iface 59 (.int .i64 k)]), recovered := false }] ∧ Kp S ((w.alloc (.cells #[.string call] 9)).alloc (.cells #[.nilIface] 57)) w')
    (hS : ∀ i, i ∈ S → i < w.heap.size) :
    Calls Tryz.prog 84 #[.string call, .func (.func f) #[] cap] w fun e w' => ∃ F, e = .returned (.iface 196 (.pointer (some ⟨F, 0, none⟩))) ∧ w.heap.size ≤ F ∧ w'.heap[F]? = some (.cells #[.string call, .iface 59 (.int .i64 k)] 199) ∧ Kp S w w' := by
  have hmf : ∀ (fn : Fn) (first cap : Array Value) (w : World), (Instr.makeFunc fn first cap).run Tryz.prog w = .ok (.func fn first cap) w := fun _ _ _ _ => rfl
  have HW : Hid (Calls Tryz.prog f cap ((w.alloc (.cells #[.string call] 9)).alloc (.cells #[.nilIface] 57)) fun e w' => e = .panicked [{ v := .iface 222 (.agg #[.iface 59 (.int .i64 k)]), recovered := false }] ∧ Kp S ((w.alloc (.cells #[.string call] 9)).alloc (.cells #[.nilIface] 57)) w') := hw
  clear hw
  have HS : Hid (∀ i, i ∈ S → i < w.heap.size) := hS
  clear hS
  go_enter_defers Tryz.func84, Tryz.ntmps84
  go_wp2_with fail
  refine (show Calls _ _ _ _ _ from HW.out).mono ?_
  rintro e w1 ⟨rfl, hK1⟩
  have hE : w1.heap[w.heap.size + 1]? = some (.cells #[.nilIface] 57) := hK1.heap (by simpa using heap_new (w.alloc (.cells #[.string call] 9)) (.cells #[.nilIface] 57)) (fun h => by have := HS.out _ h; omega)
  have hB : w1.heap[w.heap.size]? = some (.cells #[.string call] 9) := hK1.heap (heap_old _ (heap_new _ _)) (fun h => by have := HS.out _ h; omega)
  have hK1' : Kp S w w1 := (((Kp.refl S w).alloc _).alloc _).trans hK1 (fun i h _ => h)
  have hs1 := hK1'.size
  clear hK1
  go_wp2
  refine leaves_cons (f := 134) (args := #[.pointer (some ⟨w.heap.size, 0, none⟩), .pointer (some ⟨w.heap.size + 1, 0, none⟩)]) (by simp) (by simp [go_sem]) ?_
  refine (catch_thrown w.heap.size (w.heap.size + 1) k call _ hB (by omega) hE).mono ?_
  rintro e u' w2 ⟨rfl, rfl, F, hF, hF2, hE2, hK2⟩
  have e0 := cell_of hE2 0
  simp at e0
  simp [Leaves, settle, results, Tryz.results84, go_sem, e0]
  exact ⟨by omega, hF2, hK1'.trans hK2 (fun i hi hlt => by simp at hi; omega)⟩
end Go.Proofs.YtilapcegpjjlfaaGreatDoor
