import Derived.Test.YtilapcegpjjlfaaGreatDoorTree
namespace Go.Proofs.YtilapcegpjjlfaaGreatDoor
set_option linter.unusedSimpArgs false
set_option linter.unusedVariables false
open Go.RowKit

/-- What a store keeps: nobody holds its lock, nothing is poisoned; its committed head is of an empty tree. -/
def sobj (V : Nat) (N : Int) (room reading : Int) : Obj :=
  .cells #[.int .i32 0, .int .u32 0, .pointer (some ⟨V, 0, none⟩), .int .u64 N, .int .i64 0, .int .u64 0, .int .i64 room, .bool false, .bool false, .int .i64 reading] 128

set_option maxHeartbeats 400000 in
theorem vblocks_ok (V A n : Nat) (w : World) (hV : w.heap[V]? = some (vobj A n)) :
    Calls Tryz.prog 98 #[.pointer (some ⟨V, 0, none⟩)] w fun e w' => e = .returned (.int .i64 n) ∧ w' = w := by
  have c1 := cell_of hV 1
  simp at c1
  clear hV
  go_enter Tryz.func98, Tryz.ntmps98
  go_wp2
  go_ret
  exact ⟨rfl, rfl⟩

set_option maxHeartbeats 1000000 in
set_option maxRecDepth 10000 in
theorem open1_ok (D X A n C : Nat) (calls writes : Int) (l : List UInt8) (N : Int) (w : World) (hD : w.heap[D]? = some (.cells #[.iface 37 (.pointer (some ⟨A, 0, none⟩))] 162)) (hX : w.heap[X]? = some (.cells #[.pointer none] 41)) (h : w.heap[A]? = some (dobj n C (.slice none 0 0) calls writes)) (h0 : 0 ≤ calls) (h1 : calls ≤ 999999000)
    (h8 : 8 ≤ n) (h400 : n ≤ 400) (hC : w.heap[C]? = some (.cells (enc l) 88)) (hs : l.length = n * 128) (hAC : C ≠ A) (hXA : X ≠ A) (hf : Formatted l N) :
    Calls Tryz.prog 94 #[.pointer (some ⟨D, 0, none⟩), .pointer (some ⟨X, 0, none⟩)] w fun e w' => e = .returned (.tuple #[]) ∧
      w'.heap[A]? = some (dobj n C (.slice none 0 0) (calls + 3) writes) ∧ (∃ V St Db, w.heap.size ≤ V ∧ w.heap.size ≤ St ∧ w.heap.size ≤ Db ∧ w'.heap[V]? = some (vobj A n) ∧ w'.heap[St]? = some (sobj V N ((n : Int) - 2) 0) ∧ w'.heap[Db]? = some (.cells #[.pointer (some ⟨St, 0, none⟩)] 106) ∧ w'.heap[X]? = some (.cells #[.pointer (some ⟨Db, 0, none⟩)] 41)) ∧ Kp [A, X] w w' := by
  have hDs := lt_of_heap hD
  have hXs := lt_of_heap hX
  have hA := lt_of_heap h
  have hCs := lt_of_heap hC
  have c0 := cell_of hD 0
  simp at c0
  go_enter Tryz.func94, Tryz.ntmps94
  go_wp2_with fail
  refine (on_ok A n C (.slice none 0 0) calls writes _ h h8 h400).mono ?_
  rintro e w1 ⟨V, rfl, hVs, hV1, hK1⟩
  have hA1 := hK1.heap h (by simp)
  have hC1 := hK1.heap hC (by simp)
  have hX1 := hK1.heap hX (by simp)
  have hK1' : Kp [A, X] w w1 := hK1.mono (by simp)
  have HVA : Hid (V ≠ A) := by show V ≠ A; omega
  have HXA : Hid (X ≠ A) := hXA
  clear hK1 hXA
  go_wp2_with fail
  refine (newest_some V A n C calls writes l N w1 hV1 hA1 h0 (by omega) h8 (by omega) hC1 hs hAC HVA.out hf).mono ?_
  rintro e w2 ⟨rfl, hA2, hK2⟩
  have hV2 := hK2.heap hV1 (by simp [HVA.out])
  have hX2 := hK2.heap hX1 (by simp [HXA.out])
  have hK2' : Kp [A, X] w w2 := hK1'.trans hK2 (by simp +contextual)
  have hs1 := hK1'.size
  have hs2 := hK2.size
  have hVl := lt_of_heap hV1
  clear hK2 hK1' hA1 hC1 hV1 hX1 c0
  go_wp2_with fail
  obtain ⟨H, hHd⟩ : ∃ H, H = w2.heap.size := ⟨_, rfl⟩
  rw [← hHd]
  obtain ⟨W3, hW3, hK3, hA3, hX3, hV3, hH3⟩ : ∃ W3, W3 = w2.alloc (Obj.cells #[Value.int IntKind.u64 N, Value.int IntKind.i64 0, Value.int IntKind.u64 0] 126) ∧ Kp [A, X] w W3 ∧ W3.heap[A]? = some (dobj n C (.slice none 0 0) (calls + 2) writes) ∧ W3.heap[X]? = some (.cells #[.pointer none] 41) ∧ W3.heap[V]? = some (vobj A n) ∧ W3.heap[H]? = some (.cells #[.int .u64 N, .int .i64 0, .int .u64 0] 126) :=
    ⟨_, rfl, hK2'.alloc _, heap_old _ hA2, heap_old _ hX2, heap_old _ hV2, by rw [hHd]; exact heap_new _ _⟩
  rw [← hW3]
  have hHb : w2.heap.size ≤ H := by omega
  clear hW3 hK2' hA2 hX2 hV2 hHd
  have hHs := lt_of_heap hH3
  refine (at_ok V _).mono ?_
  rintro e W4 ⟨rfl, hK40⟩
  have hA4 := hK40.heap hA3 (by simp)
  have hX4 := hK40.heap hX3 (by simp)
  have hV4 := hK40.heap hV3 (by simp)
  have hH4 := hK40.heap hH3 (by simp)
  have hK4 : Kp [A, X] w W4 := hK3.trans hK40 (by simp)
  have hs4 := hK40.size
  clear hK40 hA3 hX3 hV3 hH3 hK3
  go_wp2_with fail
  refine (check_ok V _).mono ?_
  rintro e W5 ⟨rfl, hK50⟩
  have hA5 := hK50.heap hA4 (by simp)
  have hX5 := hK50.heap hX4 (by simp)
  have hV5 := hK50.heap hV4 (by simp)
  have hH5 := hK50.heap hH4 (by simp)
  have hK5 : Kp [A, X] w W5 := hK4.trans hK50 (by simp)
  have hs5 := hK50.size
  clear hK50 hA4 hX4 hV4 hH4 hK4
  go_wp2_with fail
  refine (settle_none V A n C (calls + 2) writes _ hV5 hA5 (by omega) (by omega)).mono ?_
  rintro e W6 ⟨rfl, hA6, hK60⟩
  rw [show calls + 2 + 1 = calls + 3 from by omega] at hA6
  have hX6 := hK60.heap hX5 (by simp [HXA.out])
  have hV6 := hK60.heap hV5 (by simp [HVA.out])
  have hH6 := hK60.heap hH5 (by simp; omega)
  have hK6 : Kp [A, X] w W6 := hK5.trans hK60 (by simp +contextual)
  have hs6 := hK60.size
  have hXH : X ≠ H := by omega
  have HXH : Hid (X ≠ H) := hXH
  have HXV : Hid (X ≠ V) := by show X ≠ V; omega
  have hsW6 := hK6.size
  clear hK60 hA5 hX5 hV5 hH5 hK5 hXH
  have hw2 : IntKind.i64.wrap ((n : Int) - 2) = (n : Int) - 2 := by simp only [IntKind.wrap_i64]; omega
  go_wp2_with fail
  refine wp_region_held_drew (S := fun W => W.heap[H]? = some (.cells #[.int .u64 N, .int .i64 0, .int .u64 0] 126)) (by kernel_rfl) hH6 (fun _ => ?_)
  refine wpAnyH_take (i := 0) (v := .pointer (some ⟨V, 0, none⟩)) rfl (by kernel_rfl) (by kernel_rfl) (by kernel_rfl) (fun _ _ _ h => h) (Or.inl ⟨by rfl, fun W hS => rfl⟩) hH6 ?_
  simp only [Act.put, List.setIfInBounds_toArray, List.set_cons_zero, List.set_cons_succ, List.getElem_toArray, List.getElem_cons_succ, List.getElem_cons_zero]
  refine wpAnyH_take (i := 1) (v := .agg #[.int .u64 N, .int .i64 0, .int .u64 0]) rfl (by kernel_rfl) (by kernel_rfl) (by kernel_rfl) (fun _ _ _ h => h) (Or.inl ⟨by rfl, fun W hS => exec_loadW (t := 126) rfl (by kernel_rfl) 3 (by kernel_rfl) H rfl hS rfl⟩) hH6 ?_
  simp only [Act.put, List.setIfInBounds_toArray, List.set_cons_zero, List.set_cons_succ, List.getElem_toArray, List.getElem_cons_succ, List.getElem_cons_zero]
  refine wpAnyH_take (i := 2) (v := .pointer (some ⟨V, 0, none⟩)) rfl (by kernel_rfl) (by kernel_rfl) (by kernel_rfl) (fun _ _ _ h => h) (Or.inl ⟨by rfl, fun W hS => rfl⟩) hH6 ?_
  simp only [Act.put, List.setIfInBounds_toArray, List.set_cons_zero, List.set_cons_succ, List.getElem_toArray, List.getElem_cons_succ, List.getElem_cons_zero]
  refine wpAnyH_take (i := 5) (v := .int .i64 0) rfl (by kernel_rfl) (by kernel_rfl) (by kernel_rfl) (fun _ _ _ h => h) (Or.inl ⟨by rfl, fun W hS => rfl⟩) hH6 ?_
  simp only [Act.put, List.setIfInBounds_toArray, List.set_cons_zero, List.set_cons_succ, List.getElem_toArray, List.getElem_cons_succ, List.getElem_cons_zero]
  refine wpAnyH_ready (rs := [3]) (by kernel_rfl) (by simp) ?_
  refine AllReadyH.cons rfl (fun K hK => ?_) AllReadyH.nil
  go_simp
  refine (vblocks_ok V A n _ (show W6.drew.heap[V]? = _ from hV6)).mono ?_
  rintro e W7 ⟨rfl, rfl⟩
  refine hK.out _ _ hH6 (fun _ => ?_)
  clear hK K
  try simp only [Act.put, List.setIfInBounds_toArray, List.set_cons_zero, List.set_cons_succ, List.getElem_toArray, List.getElem_cons_succ, List.getElem_cons_zero]
  refine wpAnyH_take (i := 4) (v := .int .i64 ((n : Int) - 2)) rfl (by kernel_rfl) (by kernel_rfl) (by kernel_rfl) (fun _ _ _ h => h) (Or.inl ⟨by rfl, fun W hS => by clear hS; go_simp⟩) hH6 ?_
  simp only [Act.put, List.setIfInBounds_toArray, List.set_cons_zero, List.set_cons_succ, List.getElem_toArray, List.getElem_cons_succ, List.getElem_cons_zero]
  refine wpAnyH_take (i := 6) (v := .int .i64 ((n : Int) - 2)) rfl (by kernel_rfl) (by kernel_rfl) (by kernel_rfl) (fun _ _ _ h => h) (Or.inl ⟨by rfl, fun W hS => by clear hS; go_simp⟩) hH6 ?_
  simp only [Act.put, List.setIfInBounds_toArray, List.set_cons_zero, List.set_cons_succ, List.getElem_toArray, List.getElem_cons_succ, List.getElem_cons_zero]
  refine wpAnyH_take (i := 7) (v := .agg #[.int .i32 0, .int .u32 0, .pointer (some ⟨V, 0, none⟩), .int .u64 N, .int .i64 0, .int .u64 0, .int .i64 ((n : Int) - 2), .bool false, .bool false, .int .i64 0]) rfl (by kernel_rfl) (by kernel_rfl) (by kernel_rfl) (fun _ _ _ h => h) (Or.inl ⟨by rfl, fun W hS => by clear hS; go_simp⟩) hH6 ?_
  simp only [Act.put, List.setIfInBounds_toArray, List.set_cons_zero, List.set_cons_succ, List.getElem_toArray, List.getElem_cons_succ, List.getElem_cons_zero]
  refine wpAnyH_ready (rs := [8]) (by kernel_rfl) (by simp) ?_
  refine AllReadyH.cons rfl (fun K hK => ?_) AllReadyH.nil
  go_simp
  obtain ⟨W8, hW8, hK8, hA8, hX8, hV8, hH8, hS8, hs8⟩ : ∃ W8, W8 = (W6.alloc (Obj.cells #[.int .i32 0, .int .u32 0, .pointer (some ⟨V, 0, none⟩), .int .u64 N, .int .i64 0, .int .u64 0, .int .i64 ((n : Int) - 2), .bool false, .bool false, .int .i64 0] 128)).drew ∧ Kp [A, X] w W8 ∧ W8.heap[A]? = some (dobj n C (.slice none 0 0) (calls + 3) writes) ∧ W8.heap[X]? = some (.cells #[.pointer none] 41) ∧ W8.heap[V]? = some (vobj A n) ∧ W8.heap[H]? = some (.cells #[.int .u64 N, .int .i64 0, .int .u64 0] 126) ∧ W8.heap[W6.heap.size]? = some (sobj V N ((n : Int) - 2) 0) ∧ W8.heap.size = W6.heap.size + 1 :=
    ⟨_, rfl, (hK6.alloc _).drew, heap_old _ hA6, heap_old _ hX6, heap_old _ hV6, heap_old _ hH6, heap_new W6 _, by simp⟩
  rw [← hW8]
  clear hW8 hK6 hA6 hX6 hV6
  refine hK.out _ _ hH8 (fun _ => ?_)
  clear hK K
  try simp only [Act.put, List.setIfInBounds_toArray, List.set_cons_zero, List.set_cons_succ, List.getElem_toArray, List.getElem_cons_succ, List.getElem_cons_zero]
  refine wpAnyH_take (i := 9) (v := .agg #[.pointer (some ⟨W6.heap.size, 0, none⟩)]) rfl (by kernel_rfl) (by kernel_rfl) (by kernel_rfl) (fun _ _ _ h => h) (Or.inl ⟨by rfl, fun W hS => by clear hS; go_simp⟩) hH8 ?_
  simp only [Act.put, List.setIfInBounds_toArray, List.set_cons_zero, List.set_cons_succ, List.getElem_toArray, List.getElem_cons_succ, List.getElem_cons_zero]
  refine wpAnyH_ready (rs := [10]) (by kernel_rfl) (by simp) ?_
  refine AllReadyH.cons rfl (fun K hK => ?_) AllReadyH.nil
  go_simp
  obtain ⟨W9, hW9, hK9, hA9, hX9, hV9, hH9, hS9, hD9⟩ : ∃ W9, W9 = W8.alloc (Obj.cells #[.pointer (some ⟨W6.heap.size, 0, none⟩)] 106) ∧ Kp [A, X] w W9 ∧ W9.heap[A]? = some (dobj n C (.slice none 0 0) (calls + 3) writes) ∧ W9.heap[X]? = some (.cells #[.pointer none] 41) ∧ W9.heap[V]? = some (vobj A n) ∧ W9.heap[H]? = some (.cells #[.int .u64 N, .int .i64 0, .int .u64 0] 126) ∧ W9.heap[W6.heap.size]? = some (sobj V N ((n : Int) - 2) 0) ∧ W9.heap[W8.heap.size]? = some (Obj.cells #[.pointer (some ⟨W6.heap.size, 0, none⟩)] 106) :=
    ⟨_, rfl, hK8.alloc _, heap_old _ hA8, heap_old _ hX8, heap_old _ hV8, heap_old _ hH8, heap_old _ hS8, heap_new W8 _⟩
  rw [← hW9]
  clear hW9 hK8 hA8 hX8 hV8 hS8
  refine hK.out _ _ hH9 (fun _ => ?_)
  clear hK K
  try simp only [Act.put, List.setIfInBounds_toArray, List.set_cons_zero, List.set_cons_succ, List.getElem_toArray, List.getElem_cons_succ, List.getElem_cons_zero]
  have x0 := cell_of hX9 0
  simp at x0
  have xf := frozen_of hX9 0
  refine wpAnyH_ready (rs := [11]) (by kernel_rfl) (by simp) ?_
  refine AllReadyH.cons rfl (fun K hK => ?_) AllReadyH.nil
  go_simp
  refine hK.out _ _ ((heap_set_other (fun e => HXH.out e.symm) _ _).trans hH9) (fun _ => ?_)
  clear hK K
  refine wpAnyH_done (by kernel_rfl) ?_ _
  have hXw : X < w.heap.size := hXs
  go_wp2
  go_end0
  have hXl := hK9.size
  rw [hs8] at hD9
  refine ⟨rfl, (heap_set_other (fun e => HXA.out e.symm) _ _).trans hA9, ⟨V, W6.heap.size, W6.heap.size + 1, hVs, by omega, by omega, (heap_set_other (fun e => HXV.out e.symm) _ _).trans hV9, (heap_set_other (by omega) _ _).trans hS9, (heap_set_other (by omega) _ _).trans hD9, heap_set hX9 0 _⟩, hK9.setCell (by simp) _⟩

theorem open1_size (D X A n C : Nat) (cache : Value) (calls writes : Int) (w : World) (hD : w.heap[D]? = some (.cells #[.iface 37 (.pointer (some ⟨A, 0, none⟩))] 162)) (h : w.heap[A]? = some (dobj n C cache calls writes)) (hb : n < 8 ∨ 400 < n) :
    Calls Tryz.prog 94 #[.pointer (some ⟨D, 0, none⟩), .pointer (some ⟨X, 0, none⟩)] w fun e w' => e = .panicked [{ v := .iface 222 (.agg #[.iface 59 (.int .i64 10)]), recovered := false }] ∧ Kp [] w w' := by
  have c0 := cell_of hD 0
  simp at c0
  go_enter Tryz.func94, Tryz.ntmps94
  go_wp2_with fail
  refine (on_bad A n C cache calls writes _ h hb).mono ?_
  rintro e w1 ⟨rfl, hK1⟩
  go_wp2
  exact ⟨rfl, rfl, hK1⟩

set_option maxHeartbeats 1000000 in
set_option maxRecDepth 10000 in
theorem open1_none (D X A n C : Nat) (calls writes : Int) (l : List UInt8) (w : World) (hD : w.heap[D]? = some (.cells #[.iface 37 (.pointer (some ⟨A, 0, none⟩))] 162)) (h : w.heap[A]? = some (dobj n C (.slice none 0 0) calls writes)) (h0 : 0 ≤ calls) (h1 : calls ≤ 999999000)
    (h8 : 8 ≤ n) (h400 : n ≤ 400) (hC : w.heap[C]? = some (.cells (enc l) 88)) (hs : l.length = n * 128) (hAC : C ≠ A) (hf : Fresh l) :
    Calls Tryz.prog 94 #[.pointer (some ⟨D, 0, none⟩), .pointer (some ⟨X, 0, none⟩)] w fun e w' => e = .panicked [{ v := .iface 222 (.agg #[.iface 59 (.int .i64 9)]), recovered := false }] ∧ w'.heap[A]? = some (dobj n C (.slice none 0 0) (calls + 2) writes) ∧ Kp [A] w w' := by
  have hDs := lt_of_heap hD
  have hA := lt_of_heap h
  have hCs := lt_of_heap hC
  have c0 := cell_of hD 0
  simp at c0
  go_enter Tryz.func94, Tryz.ntmps94
  go_wp2_with fail
  refine (on_ok A n C (.slice none 0 0) calls writes _ h h8 h400).mono ?_
  rintro e w1 ⟨V, rfl, hVs, hV1, hK1⟩
  have hA1 := hK1.heap h (by simp)
  have hC1 := hK1.heap hC (by simp)
  have HVA : Hid (V ≠ A) := by show V ≠ A; omega
  go_wp2_with fail
  refine (newest_none V A n C calls writes l w1 hV1 hA1 h0 (by omega) h8 (by omega) hC1 hs hAC HVA.out hf).mono ?_
  rintro e w2 ⟨rfl, hA2, hK2⟩
  have hK2' : Kp [A] w w2 := (hK1.mono (S' := [A]) (by simp)).trans hK2 (by simp)
  clear hK2 hK1 c0
  go_wp2
  exact ⟨rfl, rfl, rfl, heap_old _ hA2, hK2'.alloc _⟩
end Go.Proofs.YtilapcegpjjlfaaGreatDoor
