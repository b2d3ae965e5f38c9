import Derived.Test.YtilapcegpjjlfaaGreatDoorDisk
import Derived.Deep.RegionLaw
import Derived.Deep.RegionLawGrows
namespace Go.Proofs.YtilapcegpjjlfaaGreatDoor
set_option linter.unusedSimpArgs false
set_option linter.unusedVariables false
open Go.RowKit

theorem info160 : (Tryz.prog.info? 160).map (fun i => (i.zero, i.size, i.bytes)) = some (some (.agg Tryz.zeroCells160), 129, 136) := by kernel_rfl
theorem zsize160 : Tryz.zeroCells160.size = 129 := by kernel_rfl
theorem zone160 : ∀ v ∈ Tryz.zeroCells160.toList, v.oneCell' = true := by
  have h : Tryz.zeroCells160.toList.all (·.oneCell') = true := by kernel_rfl
  exact List.all_eq_true.1 h
theorem zbytes160 : allBytes (piece Tryz.zeroCells160 1 128) := by
  have h : (piece Tryz.zeroCells160 1 128).toList = List.replicate 128 (.int .u8 0) := by kernel_rfl
  intro v hv
  rw [h] at hv
  exact ⟨0, List.eq_of_mem_replicate hv⟩
set_option maxHeartbeats 400000 in
set_option maxRecDepth 10000 in
theorem write_ok (A n C : Nat) (calls writes : Int) (i : Nat) (B bo cap : Nat) (src : Array Value) (tb : TypeId) (w : World) (h : w.heap[A]? = some (dobj n C (.slice none 0 0) calls writes)) (h0 : 0 ≤ calls) (h1 : calls ≤ 1000000000) (h0w : 0 ≤ writes) (h1w : writes ≤ 1000000000)
    (hi : i < n) (hn : n ≤ 1000) (hB : w.heap[B]? = some (.cells src tb)) (hs : bo + 128 ≤ src.size) (hby : allBytes src) (hAB : B ≠ A) :
    Calls Tryz.prog 272 #[.pointer (some ⟨A, 0, none⟩), .int .i64 i, .slice (some ⟨B, bo, none⟩) 128 cap] w fun e w' => e = .returned .nilIface ∧ ∃ v',
      w'.ownsRow w.heap.size 160 129 v' 1 (.int .i64 i :: (piece src bo 128).toList) ∧ w'.heap[A]? = some (dobj n C v' (calls + 1) (writes + 1)) ∧ Kp [A] w w' := by
  have c1 := cell_of h 1
  have c3 := cell_of h 3
  simp at c1 c3
  have hA := lt_of_heap h
  have hBs := lt_of_heap hB
  go_enter Tryz.func272, Tryz.ntmps272
  go_wp2_with fail
  refine (fails_ok A n C _ calls writes _ h h0 h1).mono ?_
  rintro e w1 ⟨rfl, rfl⟩
  go_wp2_with fail
  refine (none_ok A n C (.slice none 0 0) (calls + 1) writes i _ (heap_set h 2 _) (by omega) (by omega)).mono ?_
  rintro e w1 ⟨rfl, rfl⟩
  go_wp2_with fail
  have hN : ((w.setCell ⟨A, 2, none⟩ (.int .i64 (calls + 1))).alloc (.cells Tryz.zeroCells160 160)).heap[w.heap.size]? = some (.cells Tryz.zeroCells160 160) := by
    simpa using heap_new (w.setCell ⟨A, 2, none⟩ (.int .i64 (calls + 1))) (.cells Tryz.zeroCells160 160)
  rw [run_storeA hN (by simp [zsize160]) (fun v hv => by rcases List.mem_or_eq_of_mem_set hv with h | h; exact zone160 v h; subst h; rfl)]
  obtain ⟨W1, hW1, hK1, hA1, hG1⟩ : ∃ W1, W1 = ((w.setCell ⟨A, 2, none⟩ (.int .i64 (calls + 1))).alloc (.cells Tryz.zeroCells160 160)).setRow w.heap.size (laidOver Tryz.zeroCells160 0 (Tryz.zeroCells160.toList.set 0 (.int .i64 i)).toArray) ∧ Kp [A] w W1 ∧
      W1.heap[A]? = some (dobj n C (.slice none 0 0) (calls + 1) writes) ∧ W1.heap[w.heap.size]? = some (.cells (Tryz.zeroCells160.toList.set 0 (.int .i64 i)).toArray 160) :=
    ⟨_, rfl, (((Kp.refl _ _).setCell (by simp) _).alloc _).setRow (by simp) _, (setRow_other _ _ _ _ (by omega)).trans (heap_old _ (heap_set h 2 _)), by
      rw [setRow_heap _ _ _ _ _ _ hN, laidOver_whole (by simp)]⟩
  rw [← hW1]
  clear hW1 hN
  have hB1 := hK1.heap hB (by simp [hAB])
  go_wp2_with fail
  rw [run_copyA (n := 128) 3 Tryz.underlying158 Tryz.size5 rfl hG1 hB1 (by simp [zsize160]) hs (allBytes_piece hby _ _).one]
  obtain ⟨W2, hW2, hK2, hA2, hG2⟩ : ∃ W2, W2 = W1.setRow w.heap.size (laidOver (Tryz.zeroCells160.toList.set 0 (.int .i64 i)).toArray 1 (piece src bo 128)) ∧ Kp [A] w W2 ∧
      W2.heap[A]? = some (dobj n C (.slice none 0 0) (calls + 1) writes) ∧ W2.heap[w.heap.size]? = some (.cells (.int .i64 i :: (piece src bo 128).toList).toArray 160) :=
    ⟨_, rfl, hK1.setRow (by simp) _, (setRow_other _ _ _ _ (by omega)).trans hA1, by
      rw [setRow_heap _ _ _ _ _ _ hG1]
      have e : laidOver (Tryz.zeroCells160.toList.set 0 (.int .i64 i)).toArray 1 (piece src bo 128) = (.int .i64 i :: (piece src bo 128).toList).toArray := by
        have hz : Tryz.zeroCells160.toList.length = 129 := by simp [zsize160]
        obtain ⟨z0, zs, hzs⟩ : ∃ z0 zs, Tryz.zeroCells160.toList = z0 :: zs := by
          cases hq : Tryz.zeroCells160.toList with
          | nil => rw [hq] at hz; cases hz
          | cons z0 zs => exact ⟨z0, zs, rfl⟩
        rw [hzs] at hz ⊢
        have hp := piece_size (cs := src) hs
        have hd : zs.drop 128 = [] := List.drop_of_length_le (by simp at hz; omega)
        unfold laidOver
        rw [hp]
        simp [hd]
      rw [e]⟩
  rw [← hW2]
  clear hW2 hK1 hA1 hG1 hB1 c1 c3
  have c1 := cell_of hA2 1
  have c3 := cell_of hA2 3
  simp at c1 c3
  have f1 := frozen_of hA2 1
  go_wp2_with fail
  refine wp_region_any (by kernel_rfl) ?_
  change wpAny _ _ _ _ _ _ _ (World.drew _)
  refine wpAny_take (i := 0) (v := .pointer (some ⟨A, 0, none⟩)) rfl (by kernel_rfl) (by kernel_rfl) (by kernel_rfl) (fun _ _ _ h => h) (Or.inl ⟨by rfl, fun w => by go_simp⟩) ?_
  refine wpAny_take (i := 1) (v := .pointer (some ⟨A, 0, none⟩)) rfl (by kernel_rfl) (by kernel_rfl) (by kernel_rfl) (fun _ _ _ h => h) (Or.inl ⟨by rfl, fun w => by go_simp⟩) ?_
  refine wpAny_take (i := 2) (v := .pointer (some ⟨A, 0, none⟩)) rfl (by kernel_rfl) (by kernel_rfl) (by kernel_rfl) (fun _ _ _ h => h) (Or.inl ⟨by rfl, fun w => by go_simp⟩) ?_
  refine wpAny_take (i := 3) (v := .pointer (some ⟨A, 1, none⟩)) rfl (by kernel_rfl) (by kernel_rfl) (by kernel_rfl) (fun _ _ _ h => h) (Or.inl ⟨by rfl, fun w => by go_simp⟩) ?_
  simp only [Act.put, List.setIfInBounds_toArray, List.set_cons_zero, List.set_cons_succ, List.getElem_toArray, List.getElem_cons_succ, List.getElem_cons_zero]
  obtain ⟨X, hX⟩ : ∃ X, X = (Value.int IntKind.i64 (i : Int) :: (piece src bo 128).toList).toArray := ⟨_, rfl⟩
  rw [← hX] at hG2
  have hd2 : W2.drew.heap[w.heap.size]? = some (Obj.cells X 160) := hG2
  have hlen : X.size = 129 := by rw [hX]; simp [piece_size hs]
  have hnew : (W2.drew.alloc (Obj.cells (Value.agg X).cells 160)).heap[W2.heap.size]? = some (Obj.cells X 160) := heap_new W2.drew _
  have hone : ∀ u ∈ (piece X 0 (1 * 129)).toList, u.oneCell' = true := by
    have e : piece X 0 (1 * 129) = X := by have := piece_all X; rw [hlen] at this; exact this
    rw [e, hX]
    intro u hu
    simp at hu
    rcases hu with rfl | hu
    · rfl
    · exact (allBytes_piece hby bo 128).one u (by simpa using hu)
  have HX : Hid (X = (Value.int IntKind.i64 (i : Int) :: (piece src bo 128).toList).toArray) := hX
  clear hX
  have hA2s := lt_of_heap hA2
  refine wpAny_ready (rs := [4, 5]) (by kernel_rfl) (by simp) ?_
  refine AllReady.cons rfl (fun K hK => ?_) (AllReady.cons rfl (fun K hK => ?_) AllReady.nil)
  · go_simp
    refine hK _ _ ?_
    clear hK K
    refine wpAny_ready (rs := [5]) (by kernel_rfl) (by simp) ?_
    refine AllReady.cons rfl (fun K hK => ?_) AllReady.nil
    refine step_run rfl (exec_loadW (t := 160) rfl (by kernel_rfl) 129 (by kernel_rfl) w.heap.size (by simp [Act.eval]) hd2 hlen) ?_
    refine hK _ _ ?_
    clear hK K
    simp only [Act.put, List.setIfInBounds_toArray, List.set_cons_zero, List.set_cons_succ, List.getElem_toArray, List.getElem_cons_succ, List.getElem_cons_zero]
    refine wpAny_ready (rs := [6]) (by kernel_rfl) (by simp) ?_
    refine AllReady.cons rfl (fun K hK => ?_) AllReady.nil
    refine step_run rfl (exec_build1 rfl (.agg X) _ _ _ Tryz.underlying85 info160 (by simp [Act.eval]) (by simpa [Value.cells] using hlen) (by decide) (by decide)) ?_
    refine hK _ _ ?_
    clear hK K
    simp only [Act.put, List.setIfInBounds_toArray, List.set_cons_zero, List.set_cons_succ, List.getElem_toArray, List.getElem_cons_succ, List.getElem_cons_zero]
    refine wpAny_ready (rs := [7]) (by kernel_rfl) (by simp) ?_
    refine AllReady.cons rfl (fun K hK => ?_) AllReady.nil
    refine step_append rfl rfl (.agg Tryz.zeroCells160) 129 136 Tryz.underlying85 info160 (by simp [Value.cells, zsize160]) (by decide) w.heap.size (.slice none 0 0) 0 [] (by simp [Act.eval]) (World.ownsRow_nil _ _ _ _) W2.heap.size 0 1 1 X 160 (0, 0) (by simp [Act.eval]) hnew (by omega) hone (by decide) (by decide) (by have := hK2.size; simp; omega) ?_
    intro v1 w1 hown1 hgr1 _
    obtain ⟨g1, cap1, rfl⟩ := own_form (n := 0) hown1
    refine hK _ _ ?_
    clear hK K
    simp only [Act.put, List.setIfInBounds_toArray, List.set_cons_zero, List.set_cons_succ, List.getElem_toArray, List.getElem_cons_succ, List.getElem_cons_zero]
    have hA3 : w1.heap[A]? = some (dobj n C (.slice none 0 0) (calls + 1) writes) := (hgr1.block A (by have := hK2.size; simp; omega) (by simp [Value.ownBlock])).trans (heap_old _ hA2)
    have hK3 : Kp [A] w w1 := ((hK2.drew).alloc _).grown hgr1 (by simp [Value.ownBlock])
    have d1 := cell_of hA3 1
    simp at d1
    have e1 := frozen_of hA3 1
    refine wpAny_take (i := 8) (v := .pointer (some ⟨A, 0, none⟩)) rfl (by kernel_rfl) (by kernel_rfl) (by kernel_rfl) (fun _ _ _ h => h) (Or.inl ⟨by rfl, fun w => by go_simp⟩) ?_
    refine wpAny_take (i := 9) (v := .pointer (some ⟨A, 1, none⟩)) rfl (by kernel_rfl) (by kernel_rfl) (by kernel_rfl) (fun _ _ _ h => h) (Or.inl ⟨by rfl, fun w => by go_simp⟩) ?_
    simp only [Act.put, List.setIfInBounds_toArray, List.set_cons_zero, List.set_cons_succ, List.getElem_toArray, List.getElem_cons_succ, List.getElem_cons_zero]
    refine wpAny_ready (rs := [10]) (by kernel_rfl) (by simp) ?_
    refine AllReady.cons rfl (fun K hK => ?_) AllReady.nil
    go_simp
    refine hK _ _ ?_
    clear hK K
    refine wpAny_done (by kernel_rfl) ?_ _
    have d3 := cell_of hA3 3
    simp at d3
    have e3 := frozen_of hA3 3
    go_wp2
    go_ret
    refine ⟨rfl, .slice (some ⟨g1, 0, none⟩) 1 cap1, ?_, ?_, (hK3.setCell (by simp) _).setCell (by simp) _⟩
    · have hz : piece X 0 (1 * 129) = X := by have := piece_all X; rw [hlen] at this; exact this
      rw [hz, HX.out] at hown1
      exact ownsRow_setCell_below (ownsRow_setCell_below (by simpa using hown1) hA _) hA _
    · exact heap_set (heap_set hA3 1 _) 3 _
  · refine step_run rfl (exec_loadW (t := 160) rfl (by kernel_rfl) 129 (by kernel_rfl) w.heap.size (by simp [Act.eval]) hd2 hlen) ?_
    refine hK _ _ ?_
    clear hK K
    simp only [Act.put, List.setIfInBounds_toArray, List.set_cons_zero, List.set_cons_succ, List.getElem_toArray, List.getElem_cons_succ, List.getElem_cons_zero]
    refine wpAny_ready (rs := [4, 6]) (by kernel_rfl) (by simp) ?_
    refine AllReady.cons rfl (fun K hK => ?_) (AllReady.cons rfl (fun K hK => ?_) AllReady.nil)
    · go_simp
      refine hK _ _ ?_
      clear hK K
      refine wpAny_ready (rs := [6]) (by kernel_rfl) (by simp) ?_
      refine AllReady.cons rfl (fun K hK => ?_) AllReady.nil
      refine step_run rfl (exec_build1 rfl (.agg X) _ _ _ Tryz.underlying85 info160 (by simp [Act.eval]) (by simpa [Value.cells] using hlen) (by decide) (by decide)) ?_
      refine hK _ _ ?_
      clear hK K
      simp only [Act.put, List.setIfInBounds_toArray, List.set_cons_zero, List.set_cons_succ, List.getElem_toArray, List.getElem_cons_succ, List.getElem_cons_zero]
      refine wpAny_ready (rs := [7]) (by kernel_rfl) (by simp) ?_
      refine AllReady.cons rfl (fun K hK => ?_) AllReady.nil
      refine step_append rfl rfl (.agg Tryz.zeroCells160) 129 136 Tryz.underlying85 info160 (by simp [Value.cells, zsize160]) (by decide) w.heap.size (.slice none 0 0) 0 [] (by simp [Act.eval]) (World.ownsRow_nil _ _ _ _) W2.heap.size 0 1 1 X 160 (0, 0) (by simp [Act.eval]) hnew (by omega) hone (by decide) (by decide) (by have := hK2.size; simp; omega) ?_
      intro v1 w1 hown1 hgr1 _
      obtain ⟨g1, cap1, rfl⟩ := own_form (n := 0) hown1
      refine hK _ _ ?_
      clear hK K
      simp only [Act.put, List.setIfInBounds_toArray, List.set_cons_zero, List.set_cons_succ, List.getElem_toArray, List.getElem_cons_succ, List.getElem_cons_zero]
      have hA3 : w1.heap[A]? = some (dobj n C (.slice none 0 0) (calls + 1) writes) := (hgr1.block A (by have := hK2.size; simp; omega) (by simp [Value.ownBlock])).trans (heap_old _ hA2)
      have hK3 : Kp [A] w w1 := ((hK2.drew).alloc _).grown hgr1 (by simp [Value.ownBlock])
      have d1 := cell_of hA3 1
      simp at d1
      have e1 := frozen_of hA3 1
      refine wpAny_take (i := 8) (v := .pointer (some ⟨A, 0, none⟩)) rfl (by kernel_rfl) (by kernel_rfl) (by kernel_rfl) (fun _ _ _ h => h) (Or.inl ⟨by rfl, fun w => by go_simp⟩) ?_
      refine wpAny_take (i := 9) (v := .pointer (some ⟨A, 1, none⟩)) rfl (by kernel_rfl) (by kernel_rfl) (by kernel_rfl) (fun _ _ _ h => h) (Or.inl ⟨by rfl, fun w => by go_simp⟩) ?_
      simp only [Act.put, List.setIfInBounds_toArray, List.set_cons_zero, List.set_cons_succ, List.getElem_toArray, List.getElem_cons_succ, List.getElem_cons_zero]
      refine wpAny_ready (rs := [10]) (by kernel_rfl) (by simp) ?_
      refine AllReady.cons rfl (fun K hK => ?_) AllReady.nil
      go_simp
      refine hK _ _ ?_
      clear hK K
      refine wpAny_done (by kernel_rfl) ?_ _
      have d3 := cell_of hA3 3
      simp at d3
      have e3 := frozen_of hA3 3
      go_wp2
      go_ret
      refine ⟨rfl, .slice (some ⟨g1, 0, none⟩) 1 cap1, ?_, ?_, (hK3.setCell (by simp) _).setCell (by simp) _⟩
      · have hz : piece X 0 (1 * 129) = X := by have := piece_all X; rw [hlen] at this; exact this
        rw [hz, HX.out] at hown1
        exact ownsRow_setCell_below (ownsRow_setCell_below (by simpa using hown1) hA _) hA _
      · exact heap_set (heap_set hA3 1 _) 3 _
    · refine step_run rfl (exec_build1 rfl (.agg X) _ _ _ Tryz.underlying85 info160 (by simp [Act.eval]) (by simpa [Value.cells] using hlen) (by decide) (by decide)) ?_
      refine hK _ _ ?_
      clear hK K
      simp only [Act.put, List.setIfInBounds_toArray, List.set_cons_zero, List.set_cons_succ, List.getElem_toArray, List.getElem_cons_succ, List.getElem_cons_zero]
      refine wpAny_ready (rs := [4]) (by kernel_rfl) (by simp) ?_
      refine AllReady.cons rfl (fun K hK => ?_) AllReady.nil
      go_simp
      refine hK _ _ ?_
      clear hK K
      refine wpAny_ready (rs := [7]) (by kernel_rfl) (by simp) ?_
      refine AllReady.cons rfl (fun K hK => ?_) AllReady.nil
      refine step_append rfl rfl (.agg Tryz.zeroCells160) 129 136 Tryz.underlying85 info160 (by simp [Value.cells, zsize160]) (by decide) w.heap.size (.slice none 0 0) 0 [] (by simp [Act.eval]) (World.ownsRow_nil _ _ _ _) W2.heap.size 0 1 1 X 160 (0, 0) (by simp [Act.eval]) hnew (by omega) hone (by decide) (by decide) (by have := hK2.size; simp; omega) ?_
      intro v1 w1 hown1 hgr1 _
      obtain ⟨g1, cap1, rfl⟩ := own_form (n := 0) hown1
      refine hK _ _ ?_
      clear hK K
      simp only [Act.put, List.setIfInBounds_toArray, List.set_cons_zero, List.set_cons_succ, List.getElem_toArray, List.getElem_cons_succ, List.getElem_cons_zero]
      have hA3 : w1.heap[A]? = some (dobj n C (.slice none 0 0) (calls + 1) writes) := (hgr1.block A (by have := hK2.size; simp; omega) (by simp [Value.ownBlock])).trans (heap_old _ hA2)
      have hK3 : Kp [A] w w1 := ((hK2.drew).alloc _).grown hgr1 (by simp [Value.ownBlock])
      have d1 := cell_of hA3 1
      simp at d1
      have e1 := frozen_of hA3 1
      refine wpAny_take (i := 8) (v := .pointer (some ⟨A, 0, none⟩)) rfl (by kernel_rfl) (by kernel_rfl) (by kernel_rfl) (fun _ _ _ h => h) (Or.inl ⟨by rfl, fun w => by go_simp⟩) ?_
      refine wpAny_take (i := 9) (v := .pointer (some ⟨A, 1, none⟩)) rfl (by kernel_rfl) (by kernel_rfl) (by kernel_rfl) (fun _ _ _ h => h) (Or.inl ⟨by rfl, fun w => by go_simp⟩) ?_
      simp only [Act.put, List.setIfInBounds_toArray, List.set_cons_zero, List.set_cons_succ, List.getElem_toArray, List.getElem_cons_succ, List.getElem_cons_zero]
      refine wpAny_ready (rs := [10]) (by kernel_rfl) (by simp) ?_
      refine AllReady.cons rfl (fun K hK => ?_) AllReady.nil
      go_simp
      refine hK _ _ ?_
      clear hK K
      refine wpAny_done (by kernel_rfl) ?_ _
      have d3 := cell_of hA3 3
      simp at d3
      have e3 := frozen_of hA3 3
      go_wp2
      go_ret
      refine ⟨rfl, .slice (some ⟨g1, 0, none⟩) 1 cap1, ?_, ?_, (hK3.setCell (by simp) _).setCell (by simp) _⟩
      · have hz : piece X 0 (1 * 129) = X := by have := piece_all X; rw [hlen] at this; exact this
        rw [hz, HX.out] at hown1
        exact ownsRow_setCell_below (ownsRow_setCell_below (by simpa using hown1) hA _) hA _
      · exact heap_set (heap_set hA3 1 _) 3 _
end Go.Proofs.YtilapcegpjjlfaaGreatDoor
