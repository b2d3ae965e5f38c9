import Derived.Test.YtilapcegpjjlfaaGreatDoorBlk
namespace Go.Proofs.YtilapcegpjjlfaaGreatDoor
set_option linter.unusedSimpArgs false
set_option linter.unusedVariables false
open Go.RowKit

/-- A disk without a head tells none. -/
theorem find_none (V A n C : Nat) (calls writes : Int) (i : Nat) (l : List UInt8) (w : World) (hV : w.heap[V]? = some (vobj A n)) (h : w.heap[A]? = some (dobj n C (.slice none 0 0) calls writes)) (h0 : 0 ≤ calls) (h1 : calls ≤ 1000000000)
    (hi : i < n) (hn : n ≤ 1000) (hC : w.heap[C]? = some (.cells (enc l) 88)) (hs : l.length = n * 128) (hAC : C ≠ A) (hVA : V ≠ A) (hb : blockOf l i = zeroBlock) :
    Calls Tryz.prog 137 #[.pointer (some ⟨V, 0, none⟩), .int .i64 i] w fun e w' => e = .returned (.tuple #[.agg #[.int .u64 0, .int .i64 0, .int .u64 0], .bool false]) ∧
      w'.heap[A]? = some (dobj n C (.slice none 0 0) (calls + 1) writes) ∧ Kp [A] w w' :=
  (find_ok V A n C calls writes i l 0 0 0 w hV h h0 h1 hi hn hC hs hAC hVA (by rw [hb]; exact zero_number) (by rw [hb]; exact zero_block) (by rw [hb]; exact zero_sum) (by decide) (by decide) (by decide) (by decide) false (by rw [hb, zero_differs]; simp)).mono fun e w' hr => ⟨by simpa [hagg] using hr.1, hr.2⟩
theorem find_some (V A n C : Nat) (calls writes : Int) (i : Nat) (l : List UInt8) (N : Int) (w : World) (hV : w.heap[V]? = some (vobj A n)) (h : w.heap[A]? = some (dobj n C (.slice none 0 0) calls writes)) (h0 : 0 ≤ calls) (h1 : calls ≤ 1000000000)
    (hi : i < n) (hn : n ≤ 1000) (hC : w.heap[C]? = some (.cells (enc l) 88)) (hs : l.length = n * 128) (hAC : C ≠ A) (hVA : V ≠ A) (hb : blockOf l i = headBlock N) (hN : N % 2 = i) (hN0 : 0 ≤ N) (hN1 : N ≤ 1000000000) :
    Calls Tryz.prog 137 #[.pointer (some ⟨V, 0, none⟩), .int .i64 i] w fun e w' => e = .returned (.tuple #[.agg #[.int .u64 N, .int .i64 0, .int .u64 0], .bool true]) ∧
      w'.heap[A]? = some (dobj n C (.slice none 0 0) (calls + 1) writes) ∧ Kp [A] w w' :=
  (find_ok V A n C calls writes i l N 0 0 w hV h h0 h1 hi hn hC hs hAC hVA (by rw [hb]; exact head_number N hN0 hN1) (by rw [hb]; exact head_block N) (by rw [hb]; exact head_sum N) hN0 (by decide) (by decide) (by decide) true (by rw [hb, headBlock_take]; simp [hN])).mono fun e w' hr => ⟨by simpa [hagg] using hr.1, hr.2⟩

set_option maxHeartbeats 400000 in
set_option maxRecDepth 10000 in
theorem newest_none (V A n C : Nat) (calls writes : Int) (l : List UInt8) (w : World) (hV : w.heap[V]? = some (vobj A n)) (h : w.heap[A]? = some (dobj n C (.slice none 0 0) calls writes)) (h0 : 0 ≤ calls) (h1 : calls ≤ 999999999)
    (hn2 : 8 ≤ n) (hn : n ≤ 1000) (hC : w.heap[C]? = some (.cells (enc l) 88)) (hs : l.length = n * 128) (hAC : C ≠ A) (hVA : V ≠ A) (hf : Fresh l) :
    Calls Tryz.prog 87 #[.pointer (some ⟨V, 0, none⟩)] w fun e w' => e = .returned (.tuple #[.agg #[.int .u64 0, .int .i64 0, .int .u64 0], .bool false]) ∧
      w'.heap[A]? = some (dobj n C (.slice none 0 0) (calls + 2) writes) ∧ Kp [A] w w' := by
  have hVs := lt_of_heap hV
  have hA := lt_of_heap h
  have hCs := lt_of_heap hC
  go_enter Tryz.func87, Tryz.ntmps87
  go_wp2_with fail
  refine (find_none V A n C calls writes 0 l _ (heap_old _ hV) (heap_old _ h) h0 (by omega) (by omega) hn (heap_old _ hC) hs hAC hVA hf.b0).mono ?_
  rintro e w1 ⟨rfl, hA1, hK1⟩
  have hR1 := hK1.heap (heap_new w (Obj.cells #[Value.int IntKind.u64 0, Value.int IntKind.i64 0, Value.int IntKind.u64 0] 126)) (by simp; omega)
  have hV1 := hK1.heap (heap_old _ hV) (by simp [hVA])
  have hC1 := hK1.heap (heap_old _ hC) (by simp [hAC])
  have hK1' : Kp [A] w w1 := ((Kp.refl _ _).alloc _).trans hK1 (by simp)
  have hA1s := lt_of_heap hA1
  have hR1s := lt_of_heap hR1
  clear hK1
  go_wp2_with fail
  refine (find_none V A n C (calls + 1) writes 1 l _ (heap_old _ hV1) (heap_old _ hA1) (by omega) (by omega) (by omega) hn (heap_old _ hC1) hs hAC hVA hf.b1).mono ?_
  rintro e w2 ⟨rfl, hA2, hK2⟩
  have hR2 := hK2.heap (heap_old _ hR1) (by simp; omega)
  have hH2 := hK2.heap (heap_new w1 (Obj.cells #[Value.int IntKind.u64 0, Value.int IntKind.i64 0, Value.int IntKind.u64 0] 126)) (by simp; omega)
  have hK2' : Kp [A] w w2 := hK1'.trans (((Kp.refl [A] _).alloc _).trans hK2 (by simp)) (by simp)
  have hH2s := lt_of_heap hH2
  have hR2s := lt_of_heap hR2
  have hA2s := lt_of_heap hA2
  rw [show calls + 1 + 1 = calls + 2 from by omega] at hA2
  clear hK2 hK1' hR1 hV1 hC1 hA1
  have r0 := cell_of hR2 0
  have r1 := cell_of hR2 1
  have r2 := cell_of hR2 2
  have s0 := cell_of hH2 0
  have s1 := cell_of hH2 1
  have s2 := cell_of hH2 2
  simp at r0 r1 r2 s0 s1 s2
  have rf := frozen_of hR2 0
  have rf1 := frozen_of hR2 1
  have rf2 := frozen_of hR2 2
  go_wp2
  have hfin := heap_old (Obj.cells #[Value.int IntKind.u64 0, Value.int IntKind.i64 0, Value.int IntKind.u64 0] 126) (heap_set (heap_set (heap_set hR2 0 (.int .u64 0)) 1 (.int .i64 0)) 2 (.int .u64 0))
  refine bodyPost_ret (results_cell_tmp_row Tryz.results87 _ _ w.heap.size 126 _ _ _ rfl hfin Tryz.underlying126 rfl (by kernel_rfl)) rfl ⟨rfl, ?_, (((hK2'.setCell (by simp) _).setCell (by simp) _).setCell (by simp) _).alloc _⟩
  exact heap_old _ ((heap_set_other (by omega) _ _).trans ((heap_set_other (by omega) _ _).trans ((heap_set_other (by omega) _ _).trans hA2)))

set_option maxHeartbeats 400000 in
set_option maxRecDepth 10000 in
theorem newest_some (V A n C : Nat) (calls writes : Int) (l : List UInt8) (N : Int) (w : World) (hV : w.heap[V]? = some (vobj A n)) (h : w.heap[A]? = some (dobj n C (.slice none 0 0) calls writes)) (h0 : 0 ≤ calls) (h1 : calls ≤ 999999999)
    (hn2 : 8 ≤ n) (hn : n ≤ 1000) (hC : w.heap[C]? = some (.cells (enc l) 88)) (hs : l.length = n * 128) (hAC : C ≠ A) (hVA : V ≠ A) (hf : Formatted l N) :
    Calls Tryz.prog 87 #[.pointer (some ⟨V, 0, none⟩)] w fun e w' => e = .returned (.tuple #[.agg #[.int .u64 N, .int .i64 0, .int .u64 0], .bool true]) ∧
      w'.heap[A]? = some (dobj n C (.slice none 0 0) (calls + 2) writes) ∧ Kp [A] w w' := by
  have hVs := lt_of_heap hV
  have hA := lt_of_heap h
  have hCs := lt_of_heap hC
  have hNhi := hf.high
  have hNlo := hf.low
  have hodd : (N - 1) % 2 = ((1 : Nat) : Int) := by have := hf.even; omega
  have HO : Hid ((N - 1) % 2 = ((1 : Nat) : Int)) := hodd
  clear hodd
  go_enter Tryz.func87, Tryz.ntmps87
  go_wp2_with fail
  refine (find_some V A n C calls writes 0 l N _ (heap_old _ hV) (heap_old _ h) h0 (by omega) (by omega) hn (heap_old _ hC) hs hAC hVA hf.b0 hf.even (by omega) hNhi).mono ?_
  rintro e w1 ⟨rfl, hA1, hK1⟩
  have hR1 := hK1.heap (heap_new w (Obj.cells #[Value.int IntKind.u64 0, Value.int IntKind.i64 0, Value.int IntKind.u64 0] 126)) (by simp; omega)
  have hV1 := hK1.heap (heap_old _ hV) (by simp [hVA])
  have hC1 := hK1.heap (heap_old _ hC) (by simp [hAC])
  have hK1' : Kp [A] w w1 := ((Kp.refl _ _).alloc _).trans hK1 (by simp)
  have hA1s := lt_of_heap hA1
  have hR1s := lt_of_heap hR1
  clear hK1
  go_wp2_with fail
  refine (find_some V A n C (calls + 1) writes 1 l (N - 1) _ (heap_old _ hV1) (heap_old _ hA1) (by omega) (by omega) (by omega) hn (heap_old _ hC1) hs hAC hVA hf.b1 HO.out (by omega) (by omega)).mono ?_
  rintro e w2 ⟨rfl, hA2, hK2⟩
  have hR2 := hK2.heap (heap_old _ hR1) (by simp; omega)
  have hH2 := hK2.heap (heap_new w1 (Obj.cells #[Value.int IntKind.u64 N, Value.int IntKind.i64 0, Value.int IntKind.u64 0] 126)) (by simp; omega)
  have hK2' : Kp [A] w w2 := hK1'.trans (((Kp.refl [A] _).alloc _).trans hK2 (by simp)) (by simp)
  have hH2s := lt_of_heap hH2
  have hR2s := lt_of_heap hR2
  have hA2s := lt_of_heap hA2
  rw [show calls + 1 + 1 = calls + 2 from by omega] at hA2
  clear hK2 hK1' hR1 hV1 hC1 hA1
  have r0 := cell_of hR2 0
  have r1 := cell_of hR2 1
  have r2 := cell_of hR2 2
  have s0 := cell_of hH2 0
  have s1 := cell_of hH2 1
  have s2 := cell_of hH2 2
  simp at r0 r1 r2 s0 s1 s2
  have rf := frozen_of hR2 0
  have rf1 := frozen_of hR2 1
  have rf2 := frozen_of hR2 2
  go_wp2_with fail
  refine (newer_ok (N - 1) N 0 0 0 0 _ (by omega) (by omega) (by omega) hNhi).mono ?_
  rintro e w3 ⟨rfl, hB3⟩
  have hB3' := Kp.of_below hB3 (Nat.le_refl _)
  have hR3 := hB3'.heap (heap_old _ hR2) (by simp)
  have hA3 := hB3'.heap (heap_old _ hA2) (by simp)
  have hH3 := hB3'.heap (heap_old _ hH2) (by simp)
  have hK3 : Kp [A] w w3 := (hK2'.alloc _).trans hB3' (by simp)
  clear hB3 hB3' r0 r1 r2 s0 s1 s2 rf rf1 rf2
  have r0 := cell_of hR3 0
  have r1 := cell_of hR3 1
  have r2 := cell_of hR3 2
  have s0 := cell_of hH3 0
  have s1 := cell_of hH3 1
  have s2 := cell_of hH3 2
  simp at r0 r1 r2 s0 s1 s2
  have rf := frozen_of hR3 0
  have rf1 := frozen_of hR3 1
  have rf2 := frozen_of hR3 2
  go_wp2
  have hfin := heap_set (heap_set (heap_set hR3 0 (.int .u64 N)) 1 (.int .i64 0)) 2 (.int .u64 0)
  refine bodyPost_ret (results_cell_tmp_row Tryz.results87 _ _ w.heap.size 126 _ _ _ rfl hfin Tryz.underlying126 rfl (by kernel_rfl)) rfl ⟨rfl, ?_, ((hK3.setCell (by simp) _).setCell (by simp) _).setCell (by simp) _⟩
  exact (heap_set_other (by omega) _ _).trans ((heap_set_other (by omega) _ _).trans ((heap_set_other (by omega) _ _).trans hA3))
end Go.Proofs.YtilapcegpjjlfaaGreatDoor
