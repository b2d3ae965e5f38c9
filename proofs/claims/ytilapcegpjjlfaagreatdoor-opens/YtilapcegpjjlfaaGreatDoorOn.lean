import Derived.Test.YtilapcegpjjlfaaGreatDoorLay
import Derived.Defers
import Derived.Recover
import Derived.WalkSmall
namespace Go.Proofs.YtilapcegpjjlfaaGreatDoor
set_option linter.unusedSimpArgs false
set_option linter.unusedVariables false
open Go.RowKit

theorem count_idle (p : Addr) (w : World) :
    CallsD Tryz.prog 172 #[.pointer (some p)] .returning w fun e u' w' => e = .returned (.tuple #[]) ∧ u' = .returning ∧ w' = w := by
  refine callsD_of_wpS Tryz.func172 rfl fun c₀ cs hu => ?_
  apply wpS_seq
  apply wpS_region
  simp [wpOpsS, go_sem, recoverD, hu, Tryz.ntmps172, Exit.thenS]
  refine wpS_cond (t := false) (by simp [Act.eval, Array.replicate]) ?_
  simp only [Bool.false_eq_true, if_false]
  refine wpS_of_wp (wp_skip ?_)
  cases c₀
  simp_all [bodyPostS, results, Tryz.results172]

set_option maxHeartbeats 400000 in
set_option maxRecDepth 10000 in
theorem count_ok (A n C : Nat) (cache : Value) (calls writes : Int) (w : World) (h : w.heap[A]? = some (dobj n C cache calls writes)) :
    Calls Tryz.prog 136 #[.iface 37 (.pointer (some ⟨A, 0, none⟩))] w fun e w' => e = .returned (.int .i64 n) ∧ Kp [] w w' := by
  have hmf : ∀ (fn : Fn) (first cap : Array Value) (w : World), (Instr.makeFunc fn first cap).run Tryz.prog w = .ok (.func fn first cap) w := fun _ _ _ _ => rfl
  have hA := lt_of_heap h
  go_enter_defers Tryz.func136, Tryz.ntmps136
  go_wp2_with fail
  refine (blocks_ok A n C cache calls writes _ (heap_old _ h)).mono ?_
  rintro e w1 ⟨rfl, rfl⟩
  go_wp2
  refine leaves_cons (f := 172) (args := #[.pointer (some ⟨w.heap.size, 0, none⟩)]) (by simp) (by simp [go_sem]) ?_
  refine (count_idle ⟨w.heap.size, 0, none⟩ _).mono ?_
  rintro e u' w'' ⟨rfl, rfl, rfl⟩
  simp [Leaves, settle, results, Tryz.results136, go_sem]
  exact (Kp.refl _ _).alloc _

set_option maxHeartbeats 400000 in
set_option maxRecDepth 10000 in
theorem on_ok (A n C : Nat) (cache : Value) (calls writes : Int) (w : World) (h : w.heap[A]? = some (dobj n C cache calls writes)) (h8 : 8 ≤ n) (h400 : n ≤ 400) :
    Calls Tryz.prog 86 #[.iface 37 (.pointer (some ⟨A, 0, none⟩))] w fun e w' => ∃ V, e = .returned (.pointer (some ⟨V, 0, none⟩)) ∧ w.heap.size ≤ V ∧ w'.heap[V]? = some (vobj A n) ∧ Kp [] w w' := by
  go_enter Tryz.func86, Tryz.ntmps86
  go_wp2_with fail
  refine (count_ok A n C cache calls writes _ h).mono ?_
  rintro e w1 ⟨rfl, hK1⟩
  have hd : decide ((n : Int) < 8) = false := by simp; omega
  have hd2 : decide ((400 : Int) < (n : Int)) = false := by simp; omega
  have hs1 := hK1.size
  go_wp2
  go_ret
  exact ⟨_, rfl, hs1, heap_new _ _, hK1.alloc _⟩

set_option maxHeartbeats 400000 in
set_option maxRecDepth 10000 in
theorem on_bad (A n C : Nat) (cache : Value) (calls writes : Int) (w : World) (h : w.heap[A]? = some (dobj n C cache calls writes)) (hb : n < 8 ∨ 400 < n) :
    Calls Tryz.prog 86 #[.iface 37 (.pointer (some ⟨A, 0, none⟩))] w fun e w' => e = .panicked [{ v := .iface 222 (.agg #[.iface 59 (.int .i64 10)]), recovered := false }] ∧ Kp [] w w' := by
  go_enter Tryz.func86, Tryz.ntmps86
  go_wp2_with fail
  refine (count_ok A n C cache calls writes _ h).mono ?_
  rintro e w1 ⟨rfl, hK1⟩
  rcases hb with hb | hb
  · have hd : decide ((n : Int) < 8) = true := by simp; omega
    go_wp2
    exact ⟨rfl, rfl, rfl, hK1⟩
  · have hd : decide ((n : Int) < 8) = false := by simp; omega
    have hd2 : decide ((400 : Int) < (n : Int)) = true := by simp; omega
    go_wp2
    exact ⟨rfl, rfl, rfl, hK1⟩
end Go.Proofs.YtilapcegpjjlfaaGreatDoor
