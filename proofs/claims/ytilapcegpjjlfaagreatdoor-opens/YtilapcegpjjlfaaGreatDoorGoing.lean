import Derived.Test.YtilapcegpjjlfaaGreatDoorBegin
namespace Go.Proofs.YtilapcegpjjlfaaGreatDoor
set_option linter.unusedSimpArgs false
set_option linter.unusedVariables false
open Go.RowKit

theorem cf154 (args : Array Value) (W : World) : Sem.run Tryz.prog (callFunc 154 args) W = .ok (.enter 154 args) W := by
  simp [go_sem, Tryz.func154]

theorem going1_ok (S F x St V f : Nat) (first cap : Array Value) (w : World) (R : World → Prop) (hS : w.heap[S]? = some (.cells #[.pointer (some ⟨x, 0, none⟩)] 66)) (hF : w.heap[F]? = some (.cells #[.func (.func f) first cap] 1)) (hx : w.heap[x]? = some (xobj St V false))
    (hcf : ∀ W : World, Sem.run Tryz.prog (callFunc f (first ++ cap)) W = .ok (.enter f (first ++ cap)) W)
    (hw : Calls Tryz.prog f (first ++ cap) w fun e w' => e = .returned (.tuple #[]) ∧ R w') :
    Calls Tryz.prog 154 #[.pointer (some ⟨S, 0, none⟩), .pointer (some ⟨F, 0, none⟩)] w fun e w' => e = .returned (.tuple #[]) ∧ R w' := by
  have s0 := cell_of hS 0
  have f0 := cell_of hF 0
  have p2 := cell_of hx 2
  simp at s0 f0 p2
  clear hS hF hx
  have HW : Hid (Calls Tryz.prog f (first ++ cap) w fun e w' => e = .returned (.tuple #[]) ∧ R w') := hw
  clear hw
  go_enter Tryz.func154, Tryz.ntmps154
  go_wp2_with fail
  refine (show Calls _ _ _ _ _ from HW.out).mono ?_
  rintro e w1 ⟨rfl, hR⟩
  go_wp2
  go_end0
  exact ⟨rfl, hR⟩

set_option maxHeartbeats 1000000 in
set_option maxRecDepth 10000 in
/-- A call of a transaction that goes on, which throws nothing. -/
theorem going_ok (x St V f : Nat) (N room r r' : Int) (first cap : Array Value) (call : ByteArray) (X : List Nat) (Q : World → World → Prop) (w : World) (hx : w.heap[x]? = some (xobj St V false)) (hSt : w.heap[St]? = some (sobj V N room r)) (hne : x ≠ St)
    (hcf : ∀ W : World, Sem.run Tryz.prog (callFunc f (first ++ cap)) W = .ok (.enter f (first ++ cap)) W) (hX : ∀ i, i ∈ X → i < w.heap.size)
    (hw : ∀ W : World, Kp [St] w W → W.heap[St]? = some (sobjL V N room r) → Calls Tryz.prog f (first ++ cap) W fun e w1 => e = .returned (.tuple #[]) ∧ Q W w1 ∧ Kp (St :: X) W w1 ∧ w1.heap[St]? = some (sobjL V N room r')) :
    Calls Tryz.prog 100 #[.pointer (some ⟨x, 0, none⟩), .string call, .func (.func f) first cap] w fun e w' => e = .returned .nilIface ∧ w'.heap[St]? = some (sobj V N room r') ∧ Kp (St :: X) w w' ∧ ∃ W w1, Q W w1 ∧ Kp [St] w W ∧ w.heap.size ≤ W.heap.size ∧ ∀ k, k ≠ St → (k < w.heap.size ∨ W.heap.size ≤ k) → w'.heap[k]? = w1.heap[k]? := by
  have hmf : ∀ (fn : Fn) (first cap : Array Value) (w : World), (Instr.makeFunc fn first cap).run Tryz.prog w = .ok (.func fn first cap) w := fun _ _ _ _ => rfl
  have HW : Hid (∀ W : World, Kp [St] w W → W.heap[St]? = some (sobjL V N room r) → Calls Tryz.prog f (first ++ cap) W fun e w1 => e = .returned (.tuple #[]) ∧ Q W w1 ∧ Kp (St :: X) W w1 ∧ w1.heap[St]? = some (sobjL V N room r')) := hw
  have HX : Hid (∀ i, i ∈ X → i < w.heap.size) := hX
  have HN : Hid (x ≠ St) := hne
  clear hw hX hne
  have hSs := lt_of_heap hSt
  have hxs := lt_of_heap hx
  have d0 := cell_of (heap_old (Obj.cells #[Value.func (Fn.func f) first cap] 1) (heap_old (Obj.cells #[.pointer (some ⟨x, 0, none⟩)] 66) hx)) 0
  simp only [List.getElem?_toArray, List.getElem?_cons_zero] at d0
  go_enter Tryz.func100, Tryz.ntmps100
  go_wp2_with fail
  obtain ⟨W0, hW0, hK0, hs0, hB0, hF0⟩ : ∃ W0, W0 = (w.alloc (Obj.cells #[Value.pointer (some { block := x, off := 0 })] 66)).alloc (Obj.cells #[Value.func (Fn.func f) first cap] 1) ∧ Kp [] w W0 ∧ W0.heap.size = w.heap.size + 2 ∧ W0.heap[w.heap.size]? = some (Obj.cells #[Value.pointer (some { block := x, off := 0 })] 66) ∧ W0.heap[w.heap.size + 1]? = some (Obj.cells #[Value.func (Fn.func f) first cap] 1) := by
    refine ⟨_, rfl, ((Kp.refl _ _).alloc _).alloc _, by simp, heap_old _ (heap_new _ _), ?_⟩
    have e := heap_new (w.alloc (Obj.cells #[Value.pointer (some { block := x, off := 0 })] 66)) (Obj.cells #[Value.func (Fn.func f) first cap] 1)
    simpa using e
  rw [← hW0]
  clear hW0
  have hx0 := hK0.heap hx (by simp)
  have hSt0 := hK0.heap hSt (by simp)
  refine (alone_ok St V 154 N room r r' #[] _ _ X Q W0 hSt0 (cf154 _) (fun i hi => by have := HX.out i hi; omega) ?_).mono ?_
  · intro W hK hS
    have hB := hK.heap hB0 (by simp; omega)
    have hF := hK.heap hF0 (by simp; omega)
    have hxW := hK.heap hx0 (by simp; exact HN.out)
    exact going1_ok w.heap.size (w.heap.size + 1) x St V f first cap W (fun w1 => Q W w1 ∧ Kp (St :: X) W w1 ∧ w1.heap[St]? = some (sobjL V N room r')) hB hF hxW hcf (HW.out W ((hK0.mono (S' := [St]) (by simp)).trans hK (fun _ h _ => h)) hS)
  rintro e w2 ⟨rfl, hSt2, hK2, W, w1, hQ, hKW, hWs, ho⟩
  have HO : Hid (∀ k, k ≠ St → (k < W0.heap.size ∨ W.heap.size ≤ k) → w2.heap[k]? = w1.heap[k]?) := ho
  clear ho
  go_wp2
  go_ret
  exact ⟨rfl, hSt2, (hK0.mono (S' := St :: X) (by simp)).trans hK2 (fun _ h _ => h), W, w1, hQ, (hK0.mono (S' := [St]) (by simp)).trans hKW (fun _ h _ => h), by omega, fun k h1 h2 => HO.out k h1 (by omega)⟩

set_option maxHeartbeats 1000000 in
set_option maxRecDepth 10000 in
theorem end_ok (x St V : Nat) (N room : Int) (w : World) (hx : w.heap[x]? = some (xobj St V false)) (hSt : w.heap[St]? = some (sobjL V N room 1)) (hne : x ≠ St) :
    Calls Tryz.prog 101 #[.pointer (some ⟨x, 0, none⟩)] w fun e w' => e = .returned (.tuple #[]) ∧ Kp [St, x] w w' ∧ w'.heap[St]? = some (sobjL V N room 0) := by
  have HN : Hid (x ≠ St) := hne
  clear hne
  have p2 := cell_of hx 2
  have p3 := cell_of hx 3
  have p4 := cell_of hx 4
  have p5 := cell_of hx 5
  have p6 := cell_of hx 6
  have p7 := cell_of hx 7
  simp at p2 p3 p4 p5 p6 p7
  have q2 := frozen_of hx 2
  have q3 := frozen_of hx 3
  have q4 := frozen_of hx 4
  have q5 := frozen_of hx 5
  have q6 := frozen_of hx 6
  have q7 := frozen_of hx 7
  go_enter Tryz.func101, Tryz.ntmps101
  go_wp2_with fail
  obtain ⟨w1, hw1, hx1, hSt1, hK1⟩ : ∃ w1, w1 = ((((((w.setCell { block := x, off := 2 } (Value.bool true)).setCell { block := x, off := 3 } (Value.pointer none)).setCell { block := x, off := 4 } (Value.string { data := #[] })).setCell { block := x, off := 5 } (Value.int IntKind.i64 0)).setCell { block := x, off := 6 } (Value.int IntKind.u64 0)).setCell { block := x, off := 7 } (Value.pointer none)) ∧ w1.heap[x]? = some (.cells #[.pointer (some ⟨St, 0, none⟩), .bool false, .bool true, .pointer none, .string ⟨#[]⟩, .int .i64 0, .int .u64 0, .pointer none, .int .u64 0] 130) ∧ w1.heap[St]? = some (sobjL V N room 1) ∧ Kp [St, x] w w1 := by
    refine ⟨_, rfl, heap_set (heap_set (heap_set (heap_set (heap_set (heap_set hx 2 _) 3 _) 4 _) 5 _) 6 _) 7 _, ?_, ?_⟩
    · have h := fun (o : Nat) (v : Value) (u : World) (hu : u.heap[St]? = some (sobjL V N room 1)) => (heap_set_other (w := u) (b := x) (k := St) (fun e => HN.out e.symm) o v).trans hu
      exact h _ _ _ (h _ _ _ (h _ _ _ (h _ _ _ (h _ _ _ (h _ _ _ hSt)))))
    · exact ((((((Kp.refl [St, x] w).setCell (by simp) _).setCell (by simp) _).setCell (by simp) _).setCell (by simp) _).setCell (by simp) _).setCell (by simp) _
  rw [← hw1]
  clear hw1 p2 p3 p4 p5 p6 p7 q2 q3 q4 q5 q6 q7 hx hSt
  refine wp_region_held_drew (S := fun W => W.heap[x]? = some (.cells #[.pointer (some ⟨St, 0, none⟩), .bool false, .bool true, .pointer none, .string ⟨#[]⟩, .int .i64 0, .int .u64 0, .pointer none, .int .u64 0] 130)) (by kernel_rfl) hx1 (fun _ => ?_)
  refine wpAnyH_take (i := 0) (v := .pointer (some ⟨x, 0, none⟩)) rfl (by kernel_rfl) (by kernel_rfl) (by kernel_rfl) (fun _ _ _ h => h) (Or.inl ⟨by rfl, fun W hS => by clear hS; go_simp⟩) hx1 ?_
  simp only [Act.put, List.setIfInBounds_toArray, List.set_cons_zero, List.set_cons_succ, List.getElem_toArray, List.getElem_cons_succ, List.getElem_cons_zero]
  refine wpAnyH_take (i := 1) (v := .pointer (some ⟨x, 0, none⟩)) rfl (by kernel_rfl) (by kernel_rfl) (by kernel_rfl) (fun _ _ _ h => h) (Or.inl ⟨by rfl, fun W hS => by clear hS; go_simp⟩) hx1 ?_
  simp only [Act.put, List.setIfInBounds_toArray, List.set_cons_zero, List.set_cons_succ, List.getElem_toArray, List.getElem_cons_succ, List.getElem_cons_zero]
  refine wpAnyH_take (i := 2) (v := .pointer (some ⟨x, 0, none⟩)) rfl (by kernel_rfl) (by kernel_rfl) (by kernel_rfl) (fun _ _ _ h => h) (Or.inl ⟨by rfl, fun W hS => by clear hS; go_simp⟩) hx1 ?_
  simp only [Act.put, List.setIfInBounds_toArray, List.set_cons_zero, List.set_cons_succ, List.getElem_toArray, List.getElem_cons_succ, List.getElem_cons_zero]
  refine wpAnyH_take (i := 3) (v := .pointer (some ⟨St, 0, none⟩)) rfl (by kernel_rfl) (by kernel_rfl) (by kernel_rfl) (fun _ _ _ h => h) (Or.inl ⟨by rfl, fun W hS => by have c := cell_of hS 0; simp at c; clear hS; go_simp⟩) hx1 ?_
  simp only [Act.put, List.setIfInBounds_toArray, List.set_cons_zero, List.set_cons_succ, List.getElem_toArray, List.getElem_cons_succ, List.getElem_cons_zero]
  refine wpAnyH_take (i := 4) (v := .pointer (some ⟨x, 0, none⟩)) rfl (by kernel_rfl) (by kernel_rfl) (by kernel_rfl) (fun _ _ _ h => h) (Or.inl ⟨by rfl, fun W hS => by clear hS; go_simp⟩) hx1 ?_
  simp only [Act.put, List.setIfInBounds_toArray, List.set_cons_zero, List.set_cons_succ, List.getElem_toArray, List.getElem_cons_succ, List.getElem_cons_zero]
  refine wpAnyH_take (i := 5) (v := .pointer (some ⟨x, 0, none⟩)) rfl (by kernel_rfl) (by kernel_rfl) (by kernel_rfl) (fun _ _ _ h => h) (Or.inl ⟨by rfl, fun W hS => by clear hS; go_simp⟩) hx1 ?_
  simp only [Act.put, List.setIfInBounds_toArray, List.set_cons_zero, List.set_cons_succ, List.getElem_toArray, List.getElem_cons_succ, List.getElem_cons_zero]
  refine wpAnyH_take (i := 6) (v := .pointer (some ⟨x, 1, none⟩)) rfl (by kernel_rfl) (by kernel_rfl) (by kernel_rfl) (fun _ _ _ h => h) (Or.inl ⟨by rfl, fun W hS => by clear hS; go_simp⟩) hx1 ?_
  simp only [Act.put, List.setIfInBounds_toArray, List.set_cons_zero, List.set_cons_succ, List.getElem_toArray, List.getElem_cons_succ, List.getElem_cons_zero]
  refine wpAnyH_take (i := 7) (v := .bool false) rfl (by kernel_rfl) (by kernel_rfl) (by kernel_rfl) (fun _ _ _ h => h) (Or.inl ⟨by rfl, fun W hS => by have c := cell_of hS 1; simp at c; clear hS; go_simp⟩) hx1 ?_
  simp only [Act.put, List.setIfInBounds_toArray, List.set_cons_zero, List.set_cons_succ, List.getElem_toArray, List.getElem_cons_succ, List.getElem_cons_zero]
  refine wpAnyH_ready (rs := [8]) (by kernel_rfl) (by simp) ?_
  refine AllReadyH.cons rfl (fun K hK => ?_) AllReadyH.nil
  go_simp
  refine (leave_ok St V N room _ (show w1.drew.heap[St]? = _ from hSt1)).mono ?_
  rintro e w2 ⟨rfl, hSt2, hK2⟩
  have hx2 := hK2.heap (k := x) hx1 (by simp; exact HN.out)
  have hK2' : Kp [St, x] w w2 := (hK1.drew).trans hK2 (by simp +contextual)
  clear hK2 hK1 hx1 hSt1
  refine hK.out _ _ hx2 (fun _ => ?_)
  clear hK K
  refine wpAnyH_done (by kernel_rfl) ?_ _
  go_wp2
  go_end0
  exact ⟨rfl, hK2', hSt2⟩

theorem cf101 (args : Array Value) (W : World) : Sem.run Tryz.prog (callFunc 101 args) W = .ok (.enter 101 args) W := by
  simp [go_sem, Tryz.func101]

set_option maxHeartbeats 1000000 in
set_option maxRecDepth 10000 in
theorem abort_ok (x St V : Nat) (N room : Int) (w : World) (hx : w.heap[x]? = some (xobj St V false)) (hSt : w.heap[St]? = some (sobj V N room 1)) (hne : x ≠ St) :
    Calls Tryz.prog 54 #[.pointer (some ⟨x, 0, none⟩)] w fun e w' => e = .returned .nilIface ∧ Kp [St, x] w w' := by
  have HN : Hid (x ≠ St) := hne
  clear hne
  have hxs := lt_of_heap hx
  have hmf : ∀ (fn : Fn) (first cap : Array Value) (w : World), (Instr.makeFunc fn first cap).run Tryz.prog w = .ok (.func fn first cap) w := fun _ _ _ _ => rfl
  go_enter Tryz.func54, Tryz.ntmps54
  go_wp2_with fail
  refine (going_ok x St V 101 N room 1 0 #[.pointer (some ⟨x, 0, none⟩)] #[] _ [x] (fun _ _ => True) w hx hSt HN.out (cf101 _) (by intro i hi; simp at hi; omega) ?_).mono ?_
  · intro W hK hS
    have hxW := hK.heap hx (by simp; exact HN.out)
    rw [show (#[.pointer (some ⟨x, 0, none⟩)] ++ #[] : Array Value) = #[.pointer (some ⟨x, 0, none⟩)] from rfl]
    refine (end_ok x St V N room W hxW hS HN.out).mono ?_
    rintro e w1 ⟨rfl, hk, hs⟩
    exact ⟨rfl, trivial, hk, hs⟩
  rintro e w2 ⟨rfl, hSt2, hK2, -⟩
  go_wp2
  go_ret
  exact ⟨rfl, hK2⟩

set_option maxHeartbeats 1000000 in
set_option maxRecDepth 10000 in
/-- First of an empty tree. -/
theorem first_ok (V : Nat) (f : Value) (w : World) :
    Calls Tryz.prog 123 #[.agg #[.pointer (some ⟨V, 0, none⟩), .string ⟨#[]⟩, .int .i64 0, .int .u64 0, .pointer none], f] w fun e w' => e = .returned (.tuple #[.agg #[.string ⟨#[]⟩, .string ⟨#[]⟩], .bool false]) ∧ Kp [] w w' := by
  go_enter Tryz.func123, Tryz.ntmps123
  go_wp2_with fail
  refine (empty_ok V _).mono ?_
  rintro e w1 ⟨rfl, hK1⟩
  have hp : w1.heap[w.heap.size + 1]? = some (.cells #[.string ⟨#[]⟩, .string ⟨#[]⟩] 83) := hK1.heap (by
    have e := heap_new (w.alloc (Obj.cells #[Value.pointer (some { block := V, off := 0 }), Value.string { data := #[] }, Value.int IntKind.i64 0, Value.int IntKind.u64 0, Value.pointer none] 116)) (.cells #[.string ⟨#[]⟩, .string ⟨#[]⟩] 83)
    simpa using e) (by simp)
  have hK1' : Kp [] w w1 := (((Kp.refl [] w).alloc _).alloc _).trans hK1 (by simp)
  clear hK1
  have c0 := cell_of hp 0
  have c1 := cell_of hp 1
  simp at c0 c1
  have f0 := frozen_of hp 0
  have f1 := frozen_of hp 1
  go_wp2
  refine bodyPost_ret (results_cell_tmp_row Tryz.results123 _ _ (w.heap.size + 1) 83 #[.string ⟨#[]⟩, .string ⟨#[]⟩] (0, 0) _ rfl (heap_set (heap_set hp 0 _) 1 _) Tryz.underlying83 rfl (by kernel_rfl)) rfl ⟨rfl, ?_⟩
  exact (hK1'.setCell (Or.inr (by simp)) _).setCell (Or.inr (by simp)) _
end Go.Proofs.YtilapcegpjjlfaaGreatDoor
