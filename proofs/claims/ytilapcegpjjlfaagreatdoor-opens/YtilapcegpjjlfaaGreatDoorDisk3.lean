import Derived.Test.YtilapcegpjjlfaaGreatDoorDisk2
import Derived.Deep.RegionHeld
namespace Go.Proofs.YtilapcegpjjlfaaGreatDoor
set_option linter.unusedSimpArgs false
set_option linter.unusedVariables false
open Go.RowKit

/-- What the one write that is not flushed says. -/
structure Cached (w : World) (v : Value) (i : Nat) (bs : Array Value) : Prop where
  own : w.ownsRow 0 160 129 v 1 (.int .i64 i :: bs.toList)
  size : bs.size = 128
  bytes : allBytes bs

theorem Cached.form {w : World} {v : Value} {i : Nat} {bs : Array Value} (h : Cached w v i bs) : ∃ g cap cur, v = .slice (some ⟨g, 0, none⟩) 1 cap ∧ w.heap[g]? = some (.cells cur 160) ∧ 129 ≤ cur.size ∧ piece cur 0 129 = (.int .i64 (i : Int) :: bs.toList).toArray := by
  obtain ⟨_, h2⟩ := h.own
  rcases h2 with ⟨_, h0⟩ | ⟨g, cap, cur, rfl, _, hg, h1, _, hs, ht⟩
  · cases h0
  · exact ⟨g, cap, cur, rfl, hg, by omega, by simpa [piece] using ht⟩

set_option maxHeartbeats 400000 in
set_option maxRecDepth 10000 in
theorem flush_none (A n C : Nat) (calls writes : Int) (w : World) (h : w.heap[A]? = some (dobj n C (.slice none 0 0) calls writes)) (h0 : 0 ≤ calls) (h1 : calls ≤ 1000000000) :
    Calls Tryz.prog 270 #[.pointer (some ⟨A, 0, none⟩)] w fun e w' => e = .returned .nilIface ∧ w'.heap[A]? = some (dobj n C (.slice none 0 0) (calls + 1) writes) ∧ Kp [A] w w' := by
  have c1 := cell_of h 1
  simp at c1
  have f1 := frozen_of h 1
  go_enter Tryz.func270, Tryz.ntmps270
  go_wp2_with fail
  refine (fails_ok A n C _ calls writes _ h h0 h1).mono ?_
  rintro e w1 ⟨rfl, rfl⟩
  go_wp2
  refine wp_loop_rounds 1 ?_
  rw [rounds_succ]
  go_wp2
  go_ret
  refine ⟨rfl, ?_, ((Kp.refl _ _).setCell (by simp) _).setCell (by simp) _⟩
  exact heap_set (heap_set h 2 _) 1 _

set_option maxHeartbeats 400000 in
set_option maxRecDepth 10000 in
theorem flush_one (A n C : Nat) (v : Value) (calls writes : Int) (i : Nat) (bs cs : Array Value) (w : World) (h : w.heap[A]? = some (dobj n C v calls writes)) (h0 : 0 ≤ calls) (h1 : calls ≤ 1000000000)
    (hv : Cached w v i bs) (hi : i < n) (hn : n ≤ 1000) (hC : w.heap[C]? = some (.cells cs 88)) (hs : cs.size = n * 128) (hAC : C ≠ A) :
    Calls Tryz.prog 270 #[.pointer (some ⟨A, 0, none⟩)] w fun e w' => e = .returned .nilIface ∧ w'.heap[A]? = some (dobj n C (.slice none 0 0) (calls + 1) writes) ∧
      w'.heap[C]? = some (.cells (laidOver cs (i * 128) bs) 88) ∧ Kp [A, C] w w' := by
  obtain ⟨g, cap, cur, rfl, hg, hcs, hcur⟩ := hv.form
  have hsz := hv.size
  have hby := hv.bytes
  clear hv
  obtain ⟨X, hX⟩ : ∃ X, X = (.int .i64 (i : Int) :: bs.toList).toArray := ⟨_, rfl⟩
  rw [← hX] at hcur
  have hXs : X.size = 129 := by rw [hX]; simp [hsz]
  have hX0 : X[0]? = some (.int .i64 i) := by rw [hX]; rfl
  have hXp : piece X 1 128 = bs := by rw [hX]; simp [piece, List.take_of_length_le, hsz]
  have hX1 : ∀ v ∈ X.toList, v.oneCell' = true := by
    rw [hX]; intro v hv
    simp at hv
    rcases hv with rfl | hv
    · rfl
    · exact hby.one v (by simpa using hv)
  clear hX
  have hgA : g ≠ A := by intro e; subst e; rw [h] at hg; simp [dobj] at hg
  have hgC : g ≠ C := by intro e; subst e; rw [hC] at hg; simp at hg
  have hA := lt_of_heap h
  have hCs := lt_of_heap hC
  have c0 := cell_of h 0
  have c1 := cell_of h 1
  simp at c0 c1
  have f1 := frozen_of h 1
  go_enter Tryz.func270, Tryz.ntmps270
  go_wp2_with fail
  refine (fails_ok A n C _ calls writes _ h h0 h1).mono ?_
  rintro e w1 ⟨rfl, rfl⟩
  go_wp2
  refine wp_loop_rounds 2 ?_
  rw [rounds_succ]
  have hg1 : (w.setCell ⟨A, 2, none⟩ (.int .i64 (calls + 1))).heap[g]? = some (.cells cur 160) := (heap_set_other hgA _ _).trans hg
  go_wp2_with (
    with_reducible refine wpList_loadA (t := 160) ?_ 129 ?_ g 0 ?_ cur 160 (0, 0) ?_ ?_ ?_
    · kernel_rfl
    · kernel_rfl
    · rfl
    · exact hg1
    · omega)
  have hN : ((w.setCell ⟨A, 2, none⟩ (.int .i64 (calls + 1))).alloc (.cells Tryz.zeroCells160 160)).heap[w.heap.size]? = some (.cells Tryz.zeroCells160 160) := by
    simpa using heap_new (w.setCell ⟨A, 2, none⟩ (.int .i64 (calls + 1))) (.cells Tryz.zeroCells160 160)
  rw [run_storeA hN (by simp [zsize160, hXs]) hX1]
  obtain ⟨W1, hW1, hK1, hA1, hC1, hT1⟩ : ∃ W1, W1 = ((w.setCell ⟨A, 2, none⟩ (.int .i64 (calls + 1))).alloc (.cells Tryz.zeroCells160 160)).setRow w.heap.size (laidOver Tryz.zeroCells160 0 X.toList.toArray) ∧ Kp [A, C] w W1 ∧
      W1.heap[A]? = some (dobj n C (.slice (some ⟨g, 0, none⟩) 1 cap) (calls + 1) writes) ∧ W1.heap[C]? = some (.cells cs 88) ∧ W1.heap[w.heap.size]? = some (.cells X 160) :=
    ⟨_, rfl, (((Kp.refl _ _).setCell (by simp) _).alloc _).setRow (by simp) _, (setRow_other _ _ _ _ (by omega)).trans (heap_old _ (heap_set h 2 _)), (setRow_other _ _ _ _ (by omega)).trans (heap_old _ ((heap_set_other hAC _ _).trans hC)), by
      rw [setRow_heap _ _ _ _ _ _ hN, laidOver_whole (by simp [zsize160, hXs])]⟩
  rw [← hW1]
  clear hW1 hN hg1 c0 c1 f1
  have c0 := cell_of hA1 0
  have t0 := cell_of hT1 0
  rw [hX0] at t0
  simp at c0
  go_wp2_with fail
  refine wp_region_held_drew (S := fun W => W.heap[A]? = some (dobj n C (.slice (some ⟨g, 0, none⟩) 1 cap) (calls + 1) writes) ∧ W.heap[w.heap.size]? = some (.cells X 160)) (by kernel_rfl) ⟨hA1, hT1⟩ (fun _ => ?_)
  refine wpAnyH_take (i := 0) (v := .pointer (some ⟨A, 0, none⟩)) rfl (by kernel_rfl) (by kernel_rfl) (by kernel_rfl) (fun _ _ _ h => h) (Or.inl ⟨by rfl, fun W hS => by go_simp⟩) ⟨hA1, hT1⟩ ?_
  simp only [Act.put, List.setIfInBounds_toArray, List.set_cons_zero, List.set_cons_succ, List.getElem_toArray, List.getElem_cons_succ, List.getElem_cons_zero]
  refine wpAnyH_take (i := 1) (v := .pointer (some ⟨A, 0, none⟩)) rfl (by kernel_rfl) (by kernel_rfl) (by kernel_rfl) (fun _ _ _ h => h) (Or.inl ⟨by rfl, fun W hS => by go_simp⟩) ⟨hA1, hT1⟩ ?_
  simp only [Act.put, List.setIfInBounds_toArray, List.set_cons_zero, List.set_cons_succ, List.getElem_toArray, List.getElem_cons_succ, List.getElem_cons_zero]
  refine wpAnyH_take (i := 2) (v := .pointer (some ⟨A, 0, none⟩)) rfl (by kernel_rfl) (by kernel_rfl) (by kernel_rfl) (fun _ _ _ h => h) (Or.inl ⟨by rfl, fun W hS => by go_simp⟩) ⟨hA1, hT1⟩ ?_
  simp only [Act.put, List.setIfInBounds_toArray, List.set_cons_zero, List.set_cons_succ, List.getElem_toArray, List.getElem_cons_succ, List.getElem_cons_zero]
  refine wpAnyH_take (i := 3) (v := .slice (some ⟨C, 0, none⟩) n n) rfl (by kernel_rfl) (by kernel_rfl) (by kernel_rfl) (fun _ _ _ h => h) (Or.inl ⟨by rfl, fun W hS => by have c := cell_of hS.1 0; simp at c; clear hS; go_simp⟩) ⟨hA1, hT1⟩ ?_
  simp only [Act.put, List.setIfInBounds_toArray, List.set_cons_zero, List.set_cons_succ, List.getElem_toArray, List.getElem_cons_succ, List.getElem_cons_zero]
  refine wpAnyH_take (i := 4) (v := .pointer (some ⟨w.heap.size, 0, none⟩)) rfl (by kernel_rfl) (by kernel_rfl) (by kernel_rfl) (fun _ _ _ h => h) (Or.inl ⟨by rfl, fun W hS => by go_simp⟩) ⟨hA1, hT1⟩ ?_
  simp only [Act.put, List.setIfInBounds_toArray, List.set_cons_zero, List.set_cons_succ, List.getElem_toArray, List.getElem_cons_succ, List.getElem_cons_zero]
  refine wpAnyH_take (i := 5) (v := .int .i64 i) rfl (by kernel_rfl) (by kernel_rfl) (by kernel_rfl) (fun _ _ _ h => h) (Or.inl ⟨by rfl, fun W hS => by have c := cell_of hS.2 0; rw [hX0] at c; clear hS; go_simp⟩) ⟨hA1, hT1⟩ ?_
  simp only [Act.put, List.setIfInBounds_toArray, List.set_cons_zero, List.set_cons_succ, List.getElem_toArray, List.getElem_cons_succ, List.getElem_cons_zero]
  refine wpAnyH_take (i := 6) (v := .pointer (some ⟨w.heap.size, 1, none⟩)) rfl (by kernel_rfl) (by kernel_rfl) (by kernel_rfl) (fun _ _ _ h => h) (Or.inl ⟨by rfl, fun W hS => by go_simp⟩) ⟨hA1, hT1⟩ ?_
  simp only [Act.put, List.setIfInBounds_toArray, List.set_cons_zero, List.set_cons_succ, List.getElem_toArray, List.getElem_cons_succ, List.getElem_cons_zero]
  refine wpAnyH_take (i := 7) (v := .agg bs) rfl (by kernel_rfl) (by kernel_rfl) (by kernel_rfl) (fun _ _ _ h => h) (Or.inl ⟨by rfl, fun W hS => exec_loadB (t := 88) rfl (by kernel_rfl) 128 (by kernel_rfl) w.heap.size 1 rfl hS.2 (by omega) hXp⟩) ⟨hA1, hT1⟩ ?_
  simp only [Act.put, List.setIfInBounds_toArray, List.set_cons_zero, List.set_cons_succ, List.getElem_toArray, List.getElem_cons_succ, List.getElem_cons_zero]
  refine wpAnyH_take (i := 8) (v := .pointer (some ⟨C, i * 128, none⟩)) rfl (by kernel_rfl) (by kernel_rfl) (by kernel_rfl) (fun _ _ _ h => h) (Or.inl ⟨by rfl, fun W hS => by clear hS; go_simp⟩) ⟨hA1, hT1⟩ ?_
  simp only [Act.put, List.setIfInBounds_toArray, List.set_cons_zero, List.set_cons_succ, List.getElem_toArray, List.getElem_cons_succ, List.getElem_cons_zero]
  refine wpAnyH_ready (rs := [9]) (by kernel_rfl) (by simp) ?_
  refine AllReadyH.cons rfl (fun K hK => ?_) AllReadyH.nil
  refine step_skip rfl (exec_storeA (t := 88) rfl bs (by rw [hsz]; kernel_rfl) C (i * 128) rfl rfl (cur := cs) (tb := 88) hC1 (by omega) hby.one) ?_
  have hAo := (setRow_other W1.drew C A (laidOver cs (i * 128) bs) (by omega)).trans hA1
  have hTo := (setRow_other W1.drew C w.heap.size (laidOver cs (i * 128) bs) (by omega)).trans hT1
  have hCo := setRow_heap W1.drew C _ (laidOver cs (i * 128) bs) _ _ hC1
  have hKo := (hK1.drew).setRow (g := C) (by simp) (laidOver cs (i * 128) bs)
  refine hK.out _ _ ⟨hAo, hTo⟩ (fun _ => ?_)
  clear hK K
  refine wpAnyH_done (by kernel_rfl) ?_ _
  generalize W1.drew.setRow C (laidOver cs (i * 128) bs) = W2 at *
  simp only [Act.put, List.setIfInBounds_toArray, List.set_cons_zero, List.set_cons_succ, List.getElem_toArray, List.getElem_cons_succ, List.getElem_cons_zero]
  clear hA1 hT1 hC1 hK1 c0 t0 hTo
  have c1 := cell_of hAo 1
  simp at c1
  have f1 := frozen_of hAo 1
  go_wp2
  rw [rounds_succ]
  go_wp2
  go_ret
  exact ⟨rfl, heap_set hAo 1 _, (heap_set_other hAC _ _).trans hCo, hKo.setCell (by simp) _⟩
end Go.Proofs.YtilapcegpjjlfaaGreatDoor
