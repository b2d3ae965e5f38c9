import Derived.Test.YtilapcegpjjlfaaGreatDoorAs2
namespace Go.Proofs.YtilapcegpjjlfaaGreatDoor
set_option linter.unusedSimpArgs false
set_option linter.unusedVariables false
open Go.RowKit
theorem told_nil (w : World) : Calls Tryz.prog 29 #[.nilIface] w fun e w' => e = .returned (.int .i64 0) ∧ w' = w := by
  go_enter Tryz.func29, Tryz.ntmps29
  go_wp2
  go_ret
  exact ⟨rfl, rfl⟩
set_option maxHeartbeats 400000 in
set_option maxRecDepth 10000 in
theorem told_fault (F : Nat) (call : ByteArray) (k : Int) (w : World) (hg : w.cell? ⟨0, 0, none⟩ = some errType) (hF : w.heap[F]? = some (.cells #[.string call, .iface 59 (.int .i64 k)] 199)) :
    Calls Tryz.prog 29 #[.iface 196 (.pointer (some ⟨F, 0, none⟩))] w fun e w' => e = .returned (.int .i64 k) ∧ Kp [] w w' := by
  have hFs := lt_of_heap hF
  have hgl : 0 < w.heap.size := by omega
  go_enter Tryz.func29, Tryz.ntmps29
  go_wp2_with fail
  refine (as51_ok F w.heap.size call k _ (by rw [World.cell?_alloc_lt _ _ ⟨0, 0, none⟩ hgl]; exact hg) (heap_old _ hF) (heap_new _ _)).mono ?_
  rintro e w1 ⟨rfl, hE1, hK1⟩
  have hK1' : Kp [] w w1 := ((Kp.refl [] w).alloc _).trans hK1 (by intro i hi hlt; simp at hi; omega)
  have c0 := cell_of hE1 0
  simp at c0
  clear hK1 hg
  go_wp2
  go_ret
  exact ⟨rfl, hK1'⟩
end Go.Proofs.YtilapcegpjjlfaaGreatDoor
