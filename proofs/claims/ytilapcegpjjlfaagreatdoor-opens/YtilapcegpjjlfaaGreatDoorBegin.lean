import Derived.Test.YtilapcegpjjlfaaGreatDoorAlone
namespace Go.Proofs.YtilapcegpjjlfaaGreatDoor
set_option linter.unusedSimpArgs false
set_option linter.unusedVariables false
open Go.RowKit

set_option maxHeartbeats 1000000 in
set_option maxRecDepth 10000 in
theorem enter_ok (St V : Nat) (N room : Int) (w : World) (hSt : w.heap[St]? = some (sobjL V N room 0)) :
    Calls Tryz.prog 60 #[.pointer (some ⟨St, 0, none⟩), .bool false] w fun e w' => e = .returned (.tuple #[]) ∧ w'.heap[St]? = some (sobjL V N room 1) ∧ Kp [St] w w' := by
  have p8 := cell_of hSt 8
  have p9 := cell_of hSt 9
  simp at p8 p9
  have f9 := frozen_of hSt 9
  go_enter Tryz.func60, Tryz.ntmps60
  go_wp2
  go_end0
  exact ⟨rfl, heap_set hSt 9 _, (Kp.refl _ _).setCell (by simp) _⟩

set_option maxHeartbeats 1000000 in
set_option maxRecDepth 10000 in
theorem leave_ok (St V : Nat) (N room : Int) (w : World) (hSt : w.heap[St]? = some (sobjL V N room 1)) :
    Calls Tryz.prog 155 #[.pointer (some ⟨St, 0, none⟩), .bool false] w fun e w' => e = .returned (.tuple #[]) ∧ w'.heap[St]? = some (sobjL V N room 0) ∧ Kp [St] w w' := by
  have p9 := cell_of hSt 9
  simp at p9
  have f9 := frozen_of hSt 9
  go_enter Tryz.func155, Tryz.ntmps155
  go_wp2
  go_end0
  exact ⟨rfl, heap_set hSt 9 _, (Kp.refl _ _).setCell (by simp) _⟩

/-- A transaction that reads an empty store. -/
def xobj (St V : Nat) (over : Bool) : Obj :=
  .cells #[.pointer (some ⟨St, 0, none⟩), .bool false, .bool over, .pointer (some ⟨V, 0, none⟩), .string ⟨#[]⟩, .int .i64 0, .int .u64 0, .pointer none, .int .u64 0] 130

set_option maxHeartbeats 2000000 in
set_option maxRecDepth 10000 in
theorem begin1_ok (X B T Db St V : Nat) (N room : Int) (w : World) (hX : w.heap[X]? = some (.cells #[.pointer (some ⟨Db, 0, none⟩)] 41)) (hB : w.heap[B]? = some (.cells #[.bool false] 4)) (hT : w.heap[T]? = some (.cells #[.pointer none] 66))
    (hD : w.heap[Db]? = some (.cells #[.pointer (some ⟨St, 0, none⟩)] 106)) (hSt : w.heap[St]? = some (sobjL V N room 0)) (hne : T ≠ X ∧ T ≠ B ∧ T ≠ Db ∧ T ≠ St ∧ St ≠ X ∧ St ≠ B ∧ St ≠ Db) :
    Calls Tryz.prog 59 #[.pointer (some ⟨X, 0, none⟩), .pointer (some ⟨B, 0, none⟩), .pointer (some ⟨T, 0, none⟩)] w fun e w' => e = .returned (.tuple #[]) ∧ (∃ x, w.heap.size ≤ x ∧ w'.heap[x]? = some (xobj St V false) ∧ w'.heap[T]? = some (.cells #[.pointer (some ⟨x, 0, none⟩)] 66)) ∧ Kp [St, T] w w' ∧ w'.heap[St]? = some (sobjL V N room 1) := by
  have HN : Hid (T ≠ X ∧ T ≠ B ∧ T ≠ Db ∧ T ≠ St ∧ St ≠ X ∧ St ≠ B ∧ St ≠ Db) := hne
  clear hne
  have hTs := lt_of_heap hT
  go_enter Tryz.func59, Tryz.ntmps59
  go_wp2_with fail
  have hS0 : w.heap[X]? = some (.cells #[.pointer (some ⟨Db, 0, none⟩)] 41) ∧ w.heap[B]? = some (.cells #[.bool false] 4) ∧ w.heap[Db]? = some (.cells #[.pointer (some ⟨St, 0, none⟩)] 106) := ⟨hX, hB, hD⟩
  refine wp_region_held_drew (S := fun W => W.heap[X]? = some (.cells #[.pointer (some ⟨Db, 0, none⟩)] 41) ∧ W.heap[B]? = some (.cells #[.bool false] 4) ∧ W.heap[Db]? = some (.cells #[.pointer (some ⟨St, 0, none⟩)] 106)) (by kernel_rfl) hS0 (fun _ => ?_)
  refine wpAnyH_take (i := 0) (v := .pointer (some ⟨Db, 0, none⟩)) rfl (by kernel_rfl) (by kernel_rfl) (by kernel_rfl) (fun _ _ _ h => h) (Or.inl ⟨by rfl, fun W hS => by have c := cell_of hS.1 0; simp at c; clear hS; go_simp⟩) hS0 ?_
  simp only [Act.put, List.setIfInBounds_toArray, List.set_cons_zero, List.set_cons_succ, List.getElem_toArray, List.getElem_cons_succ, List.getElem_cons_zero]
  refine wpAnyH_take (i := 1) (v := .pointer (some ⟨Db, 0, none⟩)) rfl (by kernel_rfl) (by kernel_rfl) (by kernel_rfl) (fun _ _ _ h => h) (Or.inl ⟨by rfl, fun W hS => by clear hS; go_simp⟩) hS0 ?_
  simp only [Act.put, List.setIfInBounds_toArray, List.set_cons_zero, List.set_cons_succ, List.getElem_toArray, List.getElem_cons_succ, List.getElem_cons_zero]
  refine wpAnyH_take (i := 2) (v := .pointer (some ⟨Db, 0, none⟩)) rfl (by kernel_rfl) (by kernel_rfl) (by kernel_rfl) (fun _ _ _ h => h) (Or.inl ⟨by rfl, fun W hS => by clear hS; go_simp⟩) hS0 ?_
  simp only [Act.put, List.setIfInBounds_toArray, List.set_cons_zero, List.set_cons_succ, List.getElem_toArray, List.getElem_cons_succ, List.getElem_cons_zero]
  refine wpAnyH_take (i := 3) (v := .pointer (some ⟨St, 0, none⟩)) rfl (by kernel_rfl) (by kernel_rfl) (by kernel_rfl) (fun _ _ _ h => h) (Or.inl ⟨by rfl, fun W hS => by have c := cell_of hS.2.2 0; simp at c; clear hS; go_simp⟩) hS0 ?_
  simp only [Act.put, List.setIfInBounds_toArray, List.set_cons_zero, List.set_cons_succ, List.getElem_toArray, List.getElem_cons_succ, List.getElem_cons_zero]
  refine wpAnyH_take (i := 4) (v := .bool false) rfl (by kernel_rfl) (by kernel_rfl) (by kernel_rfl) (fun _ _ _ h => h) (Or.inl ⟨by rfl, fun W hS => by have c := cell_of hS.2.1 0; simp at c; clear hS; go_simp⟩) hS0 ?_
  simp only [Act.put, List.setIfInBounds_toArray, List.set_cons_zero, List.set_cons_succ, List.getElem_toArray, List.getElem_cons_succ, List.getElem_cons_zero]
  refine wpAnyH_ready (rs := [5]) (by kernel_rfl) (by simp) ?_
  refine AllReadyH.cons rfl (fun K hK => ?_) AllReadyH.nil
  go_simp
  refine (enter_ok St V N room _ (show w.drew.heap[St]? = _ from hSt)).mono ?_
  rintro e w1 ⟨rfl, hSt1, hK1⟩
  have hX1 := hK1.heap (k := X) hX (by simp; exact fun h => HN.out.2.2.2.2.1 h.symm)
  have hB1 := hK1.heap (k := B) hB (by simp; exact fun h => HN.out.2.2.2.2.2.1 h.symm)
  have hD1 := hK1.heap (k := Db) hD (by simp; exact fun h => HN.out.2.2.2.2.2.2 h.symm)
  have hT1 := hK1.heap (k := T) hT (by simp; exact HN.out.2.2.2.1)
  have hK1' : Kp [St, T] w w1 := ((Kp.refl [St, T] w).drew).trans hK1 (by simp +contextual)
  have hs1 := hK1'.size
  clear hK1 hX hB hD hT hSt hS0
  have hS1 : w1.heap[X]? = some (.cells #[.pointer (some ⟨Db, 0, none⟩)] 41) ∧ w1.heap[B]? = some (.cells #[.bool false] 4) ∧ w1.heap[Db]? = some (.cells #[.pointer (some ⟨St, 0, none⟩)] 106) := ⟨hX1, hB1, hD1⟩
  refine hK.out _ _ hS1 (fun _ => ?_)
  clear hK K
  refine wpAnyH_done (by kernel_rfl) ?_ _
  clear hS1
  go_wp2_with fail
  have hS0 : w1.heap[X]? = some (.cells #[.pointer (some ⟨Db, 0, none⟩)] 41) ∧ w1.heap[B]? = some (.cells #[.bool false] 4) ∧ w1.heap[Db]? = some (.cells #[.pointer (some ⟨St, 0, none⟩)] 106) ∧ w1.heap[St]? = some (sobjL V N room 1) := ⟨hX1, hB1, hD1, hSt1⟩
  refine wp_region_held_drew (S := fun W => W.heap[X]? = some (.cells #[.pointer (some ⟨Db, 0, none⟩)] 41) ∧ W.heap[B]? = some (.cells #[.bool false] 4) ∧ W.heap[Db]? = some (.cells #[.pointer (some ⟨St, 0, none⟩)] 106) ∧ W.heap[St]? = some (sobjL V N room 1)) (by kernel_rfl) hS0 (fun _ => ?_)
  refine wpAnyH_take (i := 0) (v := .pointer (some ⟨Db, 0, none⟩)) rfl (by kernel_rfl) (by kernel_rfl) (by kernel_rfl) (fun _ _ _ h => h) (Or.inl ⟨by rfl, fun W hS => by have c := cell_of hS.1 0; simp at c; clear hS; go_simp⟩) hS0 ?_
  simp only [Act.put, List.setIfInBounds_toArray, List.set_cons_zero, List.set_cons_succ, List.getElem_toArray, List.getElem_cons_succ, List.getElem_cons_zero]
  refine wpAnyH_take (i := 1) (v := .pointer (some ⟨Db, 0, none⟩)) rfl (by kernel_rfl) (by kernel_rfl) (by kernel_rfl) (fun _ _ _ h => h) (Or.inl ⟨by rfl, fun W hS => by clear hS; go_simp⟩) hS0 ?_
  simp only [Act.put, List.setIfInBounds_toArray, List.set_cons_zero, List.set_cons_succ, List.getElem_toArray, List.getElem_cons_succ, List.getElem_cons_zero]
  refine wpAnyH_take (i := 2) (v := .pointer (some ⟨Db, 0, none⟩)) rfl (by kernel_rfl) (by kernel_rfl) (by kernel_rfl) (fun _ _ _ h => h) (Or.inl ⟨by rfl, fun W hS => by clear hS; go_simp⟩) hS0 ?_
  simp only [Act.put, List.setIfInBounds_toArray, List.set_cons_zero, List.set_cons_succ, List.getElem_toArray, List.getElem_cons_succ, List.getElem_cons_zero]
  refine wpAnyH_take (i := 3) (v := .pointer (some ⟨St, 0, none⟩)) rfl (by kernel_rfl) (by kernel_rfl) (by kernel_rfl) (fun _ _ _ h => h) (Or.inl ⟨by rfl, fun W hS => by have c := cell_of hS.2.2.1 0; simp at c; clear hS; go_simp⟩) hS0 ?_
  simp only [Act.put, List.setIfInBounds_toArray, List.set_cons_zero, List.set_cons_succ, List.getElem_toArray, List.getElem_cons_succ, List.getElem_cons_zero]
  refine wpAnyH_take (i := 4) (v := .bool false) rfl (by kernel_rfl) (by kernel_rfl) (by kernel_rfl) (fun _ _ _ h => h) (Or.inl ⟨by rfl, fun W hS => by have c := cell_of hS.2.1 0; simp at c; clear hS; go_simp⟩) hS0 ?_
  simp only [Act.put, List.setIfInBounds_toArray, List.set_cons_zero, List.set_cons_succ, List.getElem_toArray, List.getElem_cons_succ, List.getElem_cons_zero]
  refine wpAnyH_take (i := 5) (v := .pointer (some ⟨Db, 0, none⟩)) rfl (by kernel_rfl) (by kernel_rfl) (by kernel_rfl) (fun _ _ _ h => h) (Or.inl ⟨by rfl, fun W hS => by have c := cell_of hS.1 0; simp at c; clear hS; go_simp⟩) hS0 ?_
  simp only [Act.put, List.setIfInBounds_toArray, List.set_cons_zero, List.set_cons_succ, List.getElem_toArray, List.getElem_cons_succ, List.getElem_cons_zero]
  refine wpAnyH_take (i := 6) (v := .pointer (some ⟨Db, 0, none⟩)) rfl (by kernel_rfl) (by kernel_rfl) (by kernel_rfl) (fun _ _ _ h => h) (Or.inl ⟨by rfl, fun W hS => by clear hS; go_simp⟩) hS0 ?_
  simp only [Act.put, List.setIfInBounds_toArray, List.set_cons_zero, List.set_cons_succ, List.getElem_toArray, List.getElem_cons_succ, List.getElem_cons_zero]
  refine wpAnyH_take (i := 7) (v := .pointer (some ⟨Db, 0, none⟩)) rfl (by kernel_rfl) (by kernel_rfl) (by kernel_rfl) (fun _ _ _ h => h) (Or.inl ⟨by rfl, fun W hS => by clear hS; go_simp⟩) hS0 ?_
  simp only [Act.put, List.setIfInBounds_toArray, List.set_cons_zero, List.set_cons_succ, List.getElem_toArray, List.getElem_cons_succ, List.getElem_cons_zero]
  refine wpAnyH_take (i := 8) (v := .pointer (some ⟨St, 0, none⟩)) rfl (by kernel_rfl) (by kernel_rfl) (by kernel_rfl) (fun _ _ _ h => h) (Or.inl ⟨by rfl, fun W hS => by have c := cell_of hS.2.2.1 0; simp at c; clear hS; go_simp⟩) hS0 ?_
  simp only [Act.put, List.setIfInBounds_toArray, List.set_cons_zero, List.set_cons_succ, List.getElem_toArray, List.getElem_cons_succ, List.getElem_cons_zero]
  refine wpAnyH_take (i := 9) (v := .pointer (some ⟨St, 0, none⟩)) rfl (by kernel_rfl) (by kernel_rfl) (by kernel_rfl) (fun _ _ _ h => h) (Or.inl ⟨by rfl, fun W hS => by clear hS; go_simp⟩) hS0 ?_
  simp only [Act.put, List.setIfInBounds_toArray, List.set_cons_zero, List.set_cons_succ, List.getElem_toArray, List.getElem_cons_succ, List.getElem_cons_zero]
  refine wpAnyH_take (i := 10) (v := .pointer (some ⟨St, 2, none⟩)) rfl (by kernel_rfl) (by kernel_rfl) (by kernel_rfl) (fun _ _ _ h => h) (Or.inl ⟨by rfl, fun W hS => by clear hS; go_simp⟩) hS0 ?_
  simp only [Act.put, List.setIfInBounds_toArray, List.set_cons_zero, List.set_cons_succ, List.getElem_toArray, List.getElem_cons_succ, List.getElem_cons_zero]
  refine wpAnyH_take (i := 11) (v := .pointer (some ⟨V, 0, none⟩)) rfl (by kernel_rfl) (by kernel_rfl) (by kernel_rfl) (fun _ _ _ h => h) (Or.inl ⟨by rfl, fun W hS => by have c := cell_of hS.2.2.2 2; simp at c; clear hS; go_simp⟩) hS0 ?_
  simp only [Act.put, List.setIfInBounds_toArray, List.set_cons_zero, List.set_cons_succ, List.getElem_toArray, List.getElem_cons_succ, List.getElem_cons_zero]
  refine wpAnyH_take (i := 12) (v := .pointer (some ⟨Db, 0, none⟩)) rfl (by kernel_rfl) (by kernel_rfl) (by kernel_rfl) (fun _ _ _ h => h) (Or.inl ⟨by rfl, fun W hS => by have c := cell_of hS.1 0; simp at c; clear hS; go_simp⟩) hS0 ?_
  simp only [Act.put, List.setIfInBounds_toArray, List.set_cons_zero, List.set_cons_succ, List.getElem_toArray, List.getElem_cons_succ, List.getElem_cons_zero]
  refine wpAnyH_take (i := 13) (v := .pointer (some ⟨Db, 0, none⟩)) rfl (by kernel_rfl) (by kernel_rfl) (by kernel_rfl) (fun _ _ _ h => h) (Or.inl ⟨by rfl, fun W hS => by clear hS; go_simp⟩) hS0 ?_
  simp only [Act.put, List.setIfInBounds_toArray, List.set_cons_zero, List.set_cons_succ, List.getElem_toArray, List.getElem_cons_succ, List.getElem_cons_zero]
  refine wpAnyH_take (i := 14) (v := .pointer (some ⟨Db, 0, none⟩)) rfl (by kernel_rfl) (by kernel_rfl) (by kernel_rfl) (fun _ _ _ h => h) (Or.inl ⟨by rfl, fun W hS => by clear hS; go_simp⟩) hS0 ?_
  simp only [Act.put, List.setIfInBounds_toArray, List.set_cons_zero, List.set_cons_succ, List.getElem_toArray, List.getElem_cons_succ, List.getElem_cons_zero]
  refine wpAnyH_take (i := 15) (v := .pointer (some ⟨St, 0, none⟩)) rfl (by kernel_rfl) (by kernel_rfl) (by kernel_rfl) (fun _ _ _ h => h) (Or.inl ⟨by rfl, fun W hS => by have c := cell_of hS.2.2.1 0; simp at c; clear hS; go_simp⟩) hS0 ?_
  simp only [Act.put, List.setIfInBounds_toArray, List.set_cons_zero, List.set_cons_succ, List.getElem_toArray, List.getElem_cons_succ, List.getElem_cons_zero]
  refine wpAnyH_take (i := 16) (v := .pointer (some ⟨St, 0, none⟩)) rfl (by kernel_rfl) (by kernel_rfl) (by kernel_rfl) (fun _ _ _ h => h) (Or.inl ⟨by rfl, fun W hS => by clear hS; go_simp⟩) hS0 ?_
  simp only [Act.put, List.setIfInBounds_toArray, List.set_cons_zero, List.set_cons_succ, List.getElem_toArray, List.getElem_cons_succ, List.getElem_cons_zero]
  refine wpAnyH_take (i := 17) (v := .pointer (some ⟨St, 3, none⟩)) rfl (by kernel_rfl) (by kernel_rfl) (by kernel_rfl) (fun _ _ _ h => h) (Or.inl ⟨by rfl, fun W hS => by clear hS; go_simp⟩) hS0 ?_
  simp only [Act.put, List.setIfInBounds_toArray, List.set_cons_zero, List.set_cons_succ, List.getElem_toArray, List.getElem_cons_succ, List.getElem_cons_zero]
  refine wpAnyH_take (i := 18) (v := .pointer (some ⟨St, 4, none⟩)) rfl (by kernel_rfl) (by kernel_rfl) (by kernel_rfl) (fun _ _ _ h => h) (Or.inl ⟨by rfl, fun W hS => by clear hS; go_simp⟩) hS0 ?_
  simp only [Act.put, List.setIfInBounds_toArray, List.set_cons_zero, List.set_cons_succ, List.getElem_toArray, List.getElem_cons_succ, List.getElem_cons_zero]
  refine wpAnyH_take (i := 19) (v := .agg #[.int .i64 0, .int .u64 0]) rfl (by kernel_rfl) (by kernel_rfl) (by kernel_rfl) (fun _ _ _ h => h) (Or.inl ⟨by rfl, fun W hS => exec_loadB (t := 111) rfl (by kernel_rfl) 2 (by kernel_rfl) St 4 rfl hS.2.2.2 (by simp) (by rfl)⟩) hS0 ?_
  simp only [Act.put, List.setIfInBounds_toArray, List.set_cons_zero, List.set_cons_succ, List.getElem_toArray, List.getElem_cons_succ, List.getElem_cons_zero]
  refine wpAnyH_ready (rs := [20]) (by kernel_rfl) (by simp) ?_
  refine AllReadyH.cons rfl (fun K hK => ?_) AllReadyH.nil
  go_simp
  refine (at_ok V _).mono ?_
  rintro e w2 ⟨rfl, hK2⟩
  have hX2 := hK2.heap (k := X) hX1 (by simp)
  have hB2 := hK2.heap (k := B) hB1 (by simp)
  have hD2 := hK2.heap (k := Db) hD1 (by simp)
  have hT2 := hK2.heap (k := T) hT1 (by simp)
  have hSt2 := hK2.heap (k := St) hSt1 (by simp)
  have hK2' : Kp [St, T] w w2 := (hK1'.drew).trans hK2 (by simp)
  have hs2 := hK2'.size
  clear hK2 hX1 hB1 hD1 hT1 hSt1 hS0 hK1'
  have hS0 : w2.heap[X]? = some (.cells #[.pointer (some ⟨Db, 0, none⟩)] 41) ∧ w2.heap[B]? = some (.cells #[.bool false] 4) ∧ w2.heap[Db]? = some (.cells #[.pointer (some ⟨St, 0, none⟩)] 106) ∧ w2.heap[St]? = some (sobjL V N room 1) := ⟨hX2, hB2, hD2, hSt2⟩
  refine hK.out _ _ hS0 (fun _ => ?_)
  clear hK K
  try simp only [Act.put, List.setIfInBounds_toArray, List.set_cons_zero, List.set_cons_succ, List.getElem_toArray, List.getElem_cons_succ, List.getElem_cons_zero]
  refine wpAnyH_take (i := 21) (v := .agg #[.pointer (some ⟨St, 0, none⟩), .bool false, .bool false, .pointer (some ⟨V, 0, none⟩), .string ⟨#[]⟩, .int .i64 0, .int .u64 0, .pointer none, .int .u64 0]) rfl (by kernel_rfl) (by kernel_rfl) (by kernel_rfl) (fun _ _ _ h => h) (Or.inl ⟨by rfl, fun W hS => by clear hS; simp only [tagg]; go_simp⟩) hS0 ?_
  simp only [Act.put, List.setIfInBounds_toArray, List.set_cons_zero, List.set_cons_succ, List.getElem_toArray, List.getElem_cons_succ, List.getElem_cons_zero]
  refine wpAnyH_ready (rs := [22]) (by kernel_rfl) (by simp) ?_
  refine AllReadyH.cons rfl (fun K hK => ?_) AllReadyH.nil
  go_simp
  obtain ⟨w3, hw3, hS3, hT3, hx3, hK3, hs3⟩ : ∃ w3, w3 = w2.alloc (xobj St V false) ∧ (w3.heap[X]? = some (.cells #[.pointer (some ⟨Db, 0, none⟩)] 41) ∧ w3.heap[B]? = some (.cells #[.bool false] 4) ∧ w3.heap[Db]? = some (.cells #[.pointer (some ⟨St, 0, none⟩)] 106) ∧ w3.heap[St]? = some (sobjL V N room 1)) ∧ w3.heap[T]? = some (.cells #[.pointer none] 66) ∧ w3.heap[w2.heap.size]? = some (xobj St V false) ∧ Kp [St, T] w w3 ∧ w3.heap.size = w2.heap.size + 1 :=
    ⟨_, rfl, ⟨heap_old _ hX2, heap_old _ hB2, heap_old _ hD2, heap_old _ hSt2⟩, heap_old _ hT2, heap_new _ _, hK2'.alloc _, by simp⟩
  rw [show w2.alloc (Obj.cells #[Value.pointer (some { block := St, off := 0 }), Value.bool false, Value.bool false, Value.pointer (some { block := V, off := 0 }), Value.string { data := #[] }, Value.int IntKind.i64 0, Value.int IntKind.u64 0, Value.pointer none, Value.int IntKind.u64 0] 130) = w3 from hw3.symm]
  clear hw3 hS0 hX2 hB2 hD2 hSt2 hT2 hK2'
  refine hK.out _ _ hS3 (fun _ => ?_)
  clear hK K
  try simp only [Act.put, List.setIfInBounds_toArray, List.set_cons_zero, List.set_cons_succ, List.getElem_toArray, List.getElem_cons_succ, List.getElem_cons_zero]
  have x0 := cell_of hT3 0
  simp at x0
  have xf := frozen_of hT3 0
  have hT3s := lt_of_heap hT3
  refine wpAnyH_ready (rs := [23]) (by kernel_rfl) (by simp) ?_
  refine AllReadyH.cons rfl (fun K hK => ?_) AllReadyH.nil
  go_simp
  have hSt4 := (heap_set_other (w := w3) (b := T) (fun e => HN.out.2.2.2.1 e.symm) 0 (.pointer (some ⟨w2.heap.size, 0, none⟩))).trans hS3.2.2.2
  refine hK.out _ _ ⟨(heap_set_other (fun e => HN.out.1 e.symm) _ _).trans hS3.1, (heap_set_other (fun e => HN.out.2.1 e.symm) _ _).trans hS3.2.1, (heap_set_other (fun e => HN.out.2.2.1 e.symm) _ _).trans hS3.2.2.1, hSt4⟩ (fun _ => ?_)
  clear hK K
  refine wpAnyH_done (by kernel_rfl) ?_ _
  go_wp2
  go_end0
  exact ⟨rfl, ⟨w2.heap.size, by omega, (heap_set_other (by omega) _ _).trans hx3, heap_set hT3 0 _⟩, hK3.setCell (by simp) _, hSt4⟩

theorem cf59 (args : Array Value) (W : World) : Sem.run Tryz.prog (callFunc 59 args) W = .ok (.enter 59 args) W := by
  simp [go_sem, Tryz.func59]

set_option maxHeartbeats 1000000 in
set_option maxRecDepth 10000 in
theorem begin_ok (Db St V : Nat) (N room : Int) (w : World) (hD : w.heap[Db]? = some (.cells #[.pointer (some ⟨St, 0, none⟩)] 106)) (hSt : w.heap[St]? = some (sobj V N room 0)) (hne : St ≠ Db) :
    Calls Tryz.prog 36 #[.pointer (some ⟨Db, 0, none⟩), .bool false] w fun e w' => ∃ x, e = .returned (.tuple #[.pointer (some ⟨x, 0, none⟩), .nilIface]) ∧ w.heap.size ≤ x ∧ w'.heap[x]? = some (xobj St V false) ∧ w'.heap[St]? = some (sobj V N room 1) ∧ Kp [St] w w' := by
  have HN : Hid (St ≠ Db) := hne
  clear hne
  have hmf : ∀ (fn : Fn) (first cap : Array Value) (w : World), (Instr.makeFunc fn first cap).run Tryz.prog w = .ok (.func fn first cap) w := fun _ _ _ _ => rfl
  have hDs := lt_of_heap hD
  have hSs := lt_of_heap hSt
  have d0 := cell_of (heap_old (Obj.cells #[.pointer none] 66) (heap_old (Obj.cells #[.bool false] 4) (heap_old (Obj.cells #[.pointer (some ⟨Db, 0, none⟩)] 41) hD))) 0
  simp only [List.getElem?_toArray, List.getElem?_cons_zero] at d0
  go_enter Tryz.func36, Tryz.ntmps36
  go_wp2_with fail
  obtain ⟨W0, hW0, hK0, hs0, hX0, hB0, hT0⟩ : ∃ W0, W0 = ((w.alloc (Obj.cells #[.pointer (some ⟨Db, 0, none⟩)] 41)).alloc (Obj.cells #[.bool false] 4)).alloc (Obj.cells #[.pointer none] 66) ∧ Kp [] w W0 ∧ W0.heap.size = w.heap.size + 3 ∧ W0.heap[w.heap.size]? = some (Obj.cells #[.pointer (some ⟨Db, 0, none⟩)] 41) ∧ W0.heap[w.heap.size + 1]? = some (Obj.cells #[.bool false] 4) ∧ W0.heap[w.heap.size + 2]? = some (Obj.cells #[.pointer none] 66) := by
    refine ⟨_, rfl, (((Kp.refl _ _).alloc _).alloc _).alloc _, by simp, heap_old _ (heap_old _ (heap_new _ _)), ?_, ?_⟩
    · refine heap_old _ ?_
      have e := heap_new (w.alloc (Obj.cells #[.pointer (some ⟨Db, 0, none⟩)] 41)) (Obj.cells #[.bool false] 4)
      simpa using e
    · have e := heap_new ((w.alloc (Obj.cells #[.pointer (some ⟨Db, 0, none⟩)] 41)).alloc (Obj.cells #[.bool false] 4)) (Obj.cells #[.pointer none] 66)
      simpa using e
  rw [← hW0]
  clear hW0
  have hD0 := hK0.heap hD (by simp)
  have hSt0 := hK0.heap hSt (by simp)
  refine (alone_ok St V 59 N room 0 1 #[] _ _ [w.heap.size + 2] (fun W w1 => ∃ x, W.heap.size ≤ x ∧ w1.heap[x]? = some (xobj St V false) ∧ w1.heap[w.heap.size + 2]? = some (.cells #[.pointer (some ⟨x, 0, none⟩)] 66)) W0 hSt0 (cf59 _) (by intro i hi; simp at hi; omega) ?_).mono ?_
  · intro W hK hS
    have hX := hK.heap hX0 (by simp; omega)
    have hB := hK.heap hB0 (by simp; omega)
    have hT := hK.heap hT0 (by simp; omega)
    have hDW := hK.heap hD0 (by simp; exact fun h => HN.out h.symm)
    refine (begin1_ok w.heap.size (w.heap.size + 1) (w.heap.size + 2) Db St V N room W hX hB hT hDW hS ⟨by omega, by omega, by omega, by omega, by omega, by omega, HN.out⟩).mono ?_
    rintro e w1 ⟨rfl, hx, hk, hs⟩
    exact ⟨rfl, hx, hk, hs⟩
  rintro e w2 ⟨rfl, hSt2, hK2, W, w1, ⟨x, hx, hx1, hT1⟩, hKW, hWs, ho⟩
  have hT2 := (ho (w.heap.size + 2) (by omega) (Or.inl (by omega))).trans hT1
  have hx2 := (ho x (by omega) (Or.inr hx)).trans hx1
  have t0 := cell_of hT2 0
  simp at t0
  clear ho
  go_wp2
  go_ret2
  exact ⟨x, rfl, by omega, hx2, hSt2, (hK0.mono (S' := [St]) (by simp)).trans hK2 (by intro i hi hlt; simp at hi; simp; omega)⟩
end Go.Proofs.YtilapcegpjjlfaaGreatDoor
