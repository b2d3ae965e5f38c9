import Derived.Test.YtilapcegpjjlfaaGreatDoorDisk3
namespace Go.Proofs.YtilapcegpjjlfaaGreatDoor
set_option linter.unusedSimpArgs false
set_option linter.unusedVariables false
open Go.RowKit

def zero8 : Value := .int .u8 0
theorem info88 : (Tryz.prog.info? 88).map (fun i => (i.zero, i.size, i.bytes)) = some (some (.agg Tryz.zeroCells88), 128, 128) := by kernel_rfl
theorem zall88 : ∀ v ∈ Tryz.zeroCells88.toList, v = .int .u8 0 := by
  have h : Tryz.zeroCells88.toList = List.replicate 128 (.int .u8 0) := by kernel_rfl
  intro v hv
  rw [h] at hv
  exact List.eq_of_mem_replicate hv
theorem zsize88 : Tryz.zeroCells88.size = 128 := by kernel_rfl

set_option maxHeartbeats 400000 in
set_option maxRecDepth 10000 in
theorem newDisk_nat (m : Nat) (w : World) (hm : m < 1000) (k : Int) (hk0 : 0 ≤ k) (hk : k % 1000 = m) :
    Calls Tryz.prog 23 #[.int .i64 k] w fun e w' => e = .returned (.pointer (some ⟨w.heap.size + 1, 0, none⟩)) ∧ ∃ Z : Array Value, Z.size = m * 128 ∧ (∀ v ∈ Z.toList, v = .int .u8 0) ∧
      w' = (w.alloc (.cells Z 88)).alloc (dobj m w.heap.size (.slice none 0 0) 0 0) := by
  go_enter Tryz.func23, Tryz.ntmps23
  have hlt : ¬ k < 0 := by omega
  go_wp2
  obtain ⟨Z, hZ, hZ0, hr⟩ := run_makeZ (P := Tryz.prog) (.agg Tryz.zeroCells88) (.int .u8 0) 128 128 Tryz.underlying84 info88 zall88 (by simp [Value.cells, zsize88]) .i64 .i64 m (by omega) (by omega) w
  rw [hr]
  clear hr
  go_wp2
  go_ret
  exact ⟨rfl, Z, hZ, hZ0, rfl⟩
end Go.Proofs.YtilapcegpjjlfaaGreatDoor
