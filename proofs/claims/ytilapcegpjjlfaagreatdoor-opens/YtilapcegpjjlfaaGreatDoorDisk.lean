import Derived.Test.YtilapcegpjjlfaaGreatDoorRows
import Derived.Test.YtilapcegpjjlfaaGreatDoorMem
import Derived.Test.YtilapcegpjjlfaaGreatDoorCode
import Derived.Test.YtilapcegpjjlfaaGreatDoorLaws
namespace Go.Proofs.YtilapcegpjjlfaaGreatDoor
set_option linter.unusedSimpArgs false
set_option linter.unusedVariables false
open Go.RowKit

/-- A disk in memory: n blocks in block C, what is not flushed, how many calls and writes; it tells no error. -/
def dobj (n C : Nat) (cache : Value) (calls writes : Int) : Obj :=
  .cells #[.slice (some ⟨C, 0, none⟩) n n, cache, .int .i64 calls, .int .i64 writes, .int .i64 0, .int .i64 (-1), .int .i64 0, .int .i64 0] 87

set_option maxHeartbeats 400000 in
theorem fails_ok (A n C : Nat) (cache : Value) (calls writes : Int) (w : World) (h : w.heap[A]? = some (dobj n C cache calls writes)) (h0 : 0 ≤ calls) (h1 : calls ≤ 1000000000) :
    Calls Tryz.prog 273 #[.pointer (some ⟨A, 0, none⟩)] w fun e w' => e = .returned (.bool false) ∧ w' = w.setCell ⟨A, 2, none⟩ (.int .i64 (calls + 1)) := by
  have c2 := cell_of h 2
  have c5 := cell_of h 5
  have c6 := cell_of h 6
  have c7 := cell_of h 7
  simp at c2 c5 c6 c7
  have f2 := frozen_of h 2
  clear h
  have hd : decide (calls < 0) = false := by simp; omega
  go_enter Tryz.func273, Tryz.ntmps273
  go_wp2
  go_ret
  exact ⟨rfl, rfl⟩
set_option maxHeartbeats 400000 in
theorem none_ok (A n C : Nat) (cache : Value) (calls writes : Int) (i : Int) (w : World) (h : w.heap[A]? = some (dobj n C cache calls writes)) (h0 : 0 ≤ i) (h1 : i < n) :
    Calls Tryz.prog 274 #[.pointer (some ⟨A, 0, none⟩), .int .i64 i] w fun e w' => e = .returned (.bool false) ∧ w' = w := by
  have c0 := cell_of h 0
  simp at c0
  clear h
  go_enter Tryz.func274, Tryz.ntmps274
  go_wp2
  go_ret
  exact ⟨rfl, rfl⟩
set_option maxHeartbeats 400000 in
theorem blocks_ok (A n C : Nat) (cache : Value) (calls writes : Int) (w : World) (h : w.heap[A]? = some (dobj n C cache calls writes)) :
    Calls Tryz.prog 269 #[.pointer (some ⟨A, 0, none⟩)] w fun e w' => e = .returned (.int .i64 n) ∧ w' = w := by
  have c0 := cell_of h 0
  simp at c0
  clear h
  go_enter Tryz.func269, Tryz.ntmps269
  go_wp2
  go_ret
  exact ⟨rfl, rfl⟩
set_option maxHeartbeats 400000 in
theorem told_ok (A n C : Nat) (cache : Value) (calls writes : Int) (w : World) (h : w.heap[A]? = some (dobj n C cache calls writes)) :
    Calls Tryz.prog 27 #[.pointer (some ⟨A, 0, none⟩)] w fun e w' => e = .returned (.int .i64 0) ∧ w' = w := by
  have c0 := cell_of h 4
  simp at c0
  clear h
  go_enter Tryz.func27, Tryz.ntmps27
  go_wp2
  go_ret
  exact ⟨rfl, rfl⟩

/-- All cells are bytes. -/
def allBytes (cs : Array Value) : Prop := ∀ v ∈ cs.toList, ∃ x, v = .int .u8 x
theorem allBytes.one {cs : Array Value} (h : allBytes cs) : ∀ v ∈ cs.toList, v.oneCell' = true := fun v hv => by obtain ⟨x, rfl⟩ := h v hv; rfl
theorem allBytes_piece {cs : Array Value} (h : allBytes cs) (o n : Nat) : allBytes (piece cs o n) := fun v hv => h v (List.mem_of_mem_drop (List.mem_of_mem_take (by simpa [piece] using hv)))
theorem allBytes_laidOver {cs p : Array Value} (h : allBytes cs) (hp : allBytes p) (o : Nat) : allBytes (laidOver cs o p) := fun v hv => by
  simp only [laidOver, List.mem_append] at hv
  rcases hv with (hv | hv) | hv
  · exact h v (List.mem_of_mem_take hv)
  · exact hp v hv
  · exact h v (List.mem_of_mem_drop hv)
theorem laidOver_whole {cs p : Array Value} (h : cs.size = p.size) : laidOver cs 0 p = p := by
  have e : cs.toList.drop p.size = [] := List.drop_of_length_le (by simp [h])
  simp [laidOver, e]
theorem Tryz.size5 : (Tryz.prog.info? 5).map (·.size) = some 1 := by kernel_rfl

set_option maxHeartbeats 400000 in
set_option maxRecDepth 10000 in
theorem read_ok (A n C : Nat) (calls writes : Int) (i : Nat) (cs : Array Value) (w : World) (h : w.heap[A]? = some (dobj n C (.slice none 0 0) calls writes)) (h0 : 0 ≤ calls) (h1 : calls ≤ 1000000000)
    (hi : i < n) (hn : n ≤ 1000) (hC : w.heap[C]? = some (.cells cs 88)) (hs : cs.size = n * 128) (hby : allBytes cs) (hAC : C ≠ A) :
    Calls Tryz.prog 271 #[.pointer (some ⟨A, 0, none⟩), .int .i64 i] w fun e w' => ∃ g, e = .returned (.tuple #[.slice (some ⟨g, 0, none⟩) 128 128, .nilIface]) ∧ w.heap.size ≤ g ∧
      w'.heap[g]? = some (.cells (piece cs (i * 128) 128) 5) ∧ w'.heap[A]? = some (dobj n C (.slice none 0 0) (calls + 1) writes) ∧ Kp [A] w w' := by
  have c0 := cell_of h 0
  have c1 := cell_of h 1
  simp at c0 c1
  have hA := lt_of_heap h
  have hCs := lt_of_heap hC
  go_enter Tryz.func271, Tryz.ntmps271
  go_wp2_with fail
  refine (fails_ok A n C _ calls writes _ h h0 h1).mono ?_
  rintro e w1 ⟨rfl, rfl⟩
  go_wp2_with fail
  refine (none_ok A n C (.slice none 0 0) (calls + 1) writes i _ (heap_set h 2 _) (by omega) (by omega)).mono ?_
  rintro e w1 ⟨rfl, rfl⟩
  go_wp2_with (refine wpList_makeZ (.int .u8 0) (.int .u8 0) 1 1 Tryz.underlying158 Tryz.info5 (by simp [Value.cells]) (by simp [Value.cells]) .i64 .i64 128 rfl rfl (by decide) (by decide) ?_; intro Z hZ hZ0)
  have hN : ((w.setCell ⟨A, 2, none⟩ (.int .i64 (calls + 1))).alloc (.cells Z 5)).heap[w.heap.size]? = some (.cells Z 5) := by
    simpa using heap_new (w.setCell ⟨A, 2, none⟩ (.int .i64 (calls + 1))) (.cells Z 5)
  have hC' := heap_old (.cells Z 5) ((heap_set_other hAC 2 (.int .i64 (calls + 1))).trans hC)
  rw [run_copyA (n := 128) 3 Tryz.underlying158 Tryz.size5 rfl hN hC' (by omega) (by omega) (allBytes_piece hby _ _).one]
  obtain ⟨W1, hW1, hK1, hA1, hG1⟩ : ∃ W1, W1 = ((w.setCell ⟨A, 2, none⟩ (.int .i64 (calls + 1))).alloc (.cells Z 5)).setRow w.heap.size (laidOver Z 0 (piece cs (i * 128) 128)) ∧ Kp [A] w W1 ∧
      W1.heap[A]? = some (dobj n C (.slice none 0 0) (calls + 1) writes) ∧ W1.heap[w.heap.size]? = some (.cells (piece cs (i * 128) 128) 5) :=
    ⟨_, rfl, (((Kp.refl _ _).setCell (by simp) _).alloc _).setRow (by simp) _, (setRow_other _ _ _ _ (by omega)).trans (heap_old _ (heap_set h 2 _)), by
      rw [setRow_heap _ _ _ _ _ _ hN, laidOver_whole (by rw [piece_size (by omega)]; omega)]⟩
  rw [← hW1]
  clear hW1 hN hC' c0 c1 h
  have c1 := cell_of hA1 1
  simp at c1
  go_wp2
  refine wp_loop_rounds 1 ?_
  rw [rounds_succ]
  go_wp2
  go_ret2
  exact ⟨_, rfl, Nat.le_refl _, hG1, hA1, hK1⟩
end Go.Proofs.YtilapcegpjjlfaaGreatDoor
