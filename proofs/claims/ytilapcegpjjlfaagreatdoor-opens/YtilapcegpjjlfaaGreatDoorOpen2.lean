import Derived.Test.YtilapcegpjjlfaaGreatDoorOpen
namespace Go.Proofs.YtilapcegpjjlfaaGreatDoor
set_option linter.unusedSimpArgs false
set_option linter.unusedVariables false
open Go.RowKit

set_option maxHeartbeats 400000 in
set_option maxRecDepth 10000 in
/-- Catch, where the work throws. -/
theorem catch_bad2 (f : Nat) (cap : Array Value) (call : ByteArray) (k : Int) (w : World) (A : Nat) (o : Obj) (hAw : A < w.heap.size) (hcf : ∀ W : World, Sem.run Tryz.prog (callFunc f cap) W = .ok (.enter f cap) W)
    (S : List Nat) (hw : Calls Tryz.prog f cap ((w.alloc (.cells #[.string call] 9)).alloc (.cells #[.nilIface] 57)) fun e w' => e = .panicked [{ v := .iface 222 (.agg #[.iface 59 (.int .i64 k)]), recovered := false }] ∧ w'.heap[A]? = some o ∧ Kp S ((w.alloc (.cells #[.string call] 9)).alloc (.cells #[.nilIface] 57)) w')
    (hS : ∀ i, i ∈ S → i < w.heap.size) :
    Calls Tryz.prog 84 #[.string call, .func (.func f) #[] cap] w fun e w' => ∃ F, e = .returned (.iface 196 (.pointer (some ⟨F, 0, none⟩))) ∧ w.heap.size ≤ F ∧ w'.heap[F]? = some (.cells #[.string call, .iface 59 (.int .i64 k)] 199) ∧ w'.heap[A]? = some o ∧ Kp S w w' := by
  have hmf : ∀ (fn : Fn) (first cap : Array Value) (w : World), (Instr.makeFunc fn first cap).run Tryz.prog w = .ok (.func fn first cap) w := fun _ _ _ _ => rfl
  have HW : Hid (Calls Tryz.prog f cap ((w.alloc (.cells #[.string call] 9)).alloc (.cells #[.nilIface] 57)) fun e w' => e = .panicked [{ v := .iface 222 (.agg #[.iface 59 (.int .i64 k)]), recovered := false }] ∧ w'.heap[A]? = some o ∧ Kp S ((w.alloc (.cells #[.string call] 9)).alloc (.cells #[.nilIface] 57)) w') := hw
  clear hw
  have HS : Hid (∀ i, i ∈ S → i < w.heap.size) := hS
  clear hS
  go_enter_defers Tryz.func84, Tryz.ntmps84
  go_wp2_with fail
  refine (show Calls _ _ _ _ _ from HW.out).mono ?_
  rintro e w1 ⟨rfl, hA1, hK1⟩
  have hE : w1.heap[w.heap.size + 1]? = some (.cells #[.nilIface] 57) := hK1.heap (by simpa using heap_new (w.alloc (.cells #[.string call] 9)) (.cells #[.nilIface] 57)) (fun h => by have := HS.out _ h; omega)
  have hB : w1.heap[w.heap.size]? = some (.cells #[.string call] 9) := hK1.heap (heap_old _ (heap_new _ _)) (fun h => by have := HS.out _ h; omega)
  have hK1' : Kp S w w1 := (((Kp.refl S w).alloc _).alloc _).trans hK1 (fun i h _ => h)
  have hs1 := hK1'.size
  clear hK1
  go_wp2
  refine leaves_cons (f := 134) (args := #[.pointer (some ⟨w.heap.size, 0, none⟩), .pointer (some ⟨w.heap.size + 1, 0, none⟩)]) (by simp) (by simp [go_sem]) ?_
  refine (catch_thrown w.heap.size (w.heap.size + 1) k call _ hB (by omega) hE).mono ?_
  rintro e u' w2 ⟨rfl, rfl, F, hF, hF2, hE2, hK2⟩
  have e0 := cell_of hE2 0
  simp at e0
  simp [Leaves, settle, results, Tryz.results84, go_sem, e0]
  exact ⟨by omega, hF2, hK2.heap hA1 (by simp; omega), hK1'.trans hK2 (fun i hi hlt => by simp at hi; omega)⟩

theorem cf94 (args : Array Value) (W : World) : Sem.run Tryz.prog (callFunc 94 args) W = .ok (.enter 94 args) W := by
  simp [go_sem, Tryz.func94]

set_option maxHeartbeats 1000000 in
set_option maxRecDepth 10000 in
theorem open_ok (A n C : Nat) (calls writes : Int) (l : List UInt8) (N : Int) (w : World) (h : w.heap[A]? = some (dobj n C (.slice none 0 0) calls writes)) (h0 : 0 ≤ calls) (h1 : calls ≤ 999999000)
    (h8 : 8 ≤ n) (h400 : n ≤ 400) (hC : w.heap[C]? = some (.cells (enc l) 88)) (hs : l.length = n * 128) (hAC : C ≠ A) (hf : Formatted l N) :
    Calls Tryz.prog 34 #[.pointer (some ⟨A, 0, none⟩)] w fun e w' => ∃ V St Db, e = .returned (.tuple #[.pointer (some ⟨Db, 0, none⟩), .nilIface]) ∧ w.heap.size ≤ V ∧ w.heap.size ≤ St ∧ w.heap.size ≤ Db ∧
      w'.heap[A]? = some (dobj n C (.slice none 0 0) (calls + 3) writes) ∧ w'.heap[V]? = some (vobj A n) ∧ w'.heap[St]? = some (sobj V N ((n : Int) - 2) 0) ∧ w'.heap[Db]? = some (.cells #[.pointer (some ⟨St, 0, none⟩)] 106) ∧ Kp [A] w w' := by
  have hA := lt_of_heap h
  have hCs := lt_of_heap hC
  have hmf : ∀ (fn : Fn) (first cap : Array Value) (w : World), (Instr.makeFunc fn first cap).run Tryz.prog w = .ok (.func fn first cap) w := fun _ _ _ _ => rfl
  go_enter Tryz.func34, Tryz.ntmps34
  go_wp2_with (go_at_call 52; go_in)
  obtain ⟨W0, hW0, hK0, hs0⟩ : ∃ W0, W0 = (w.alloc (Obj.cells #[Value.iface 37 (Value.pointer (some { block := A, off := 0 }))] 162)).alloc (Obj.cells #[Value.pointer none] 41) ∧ Kp [] w W0 ∧ W0.heap.size = w.heap.size + 2 := ⟨_, rfl, ((Kp.refl _ _).alloc _).alloc _, by simp⟩
  have hD0 : W0.heap[w.heap.size]? = some (Obj.cells #[Value.iface 37 (Value.pointer (some { block := A, off := 0 }))] 162) := by rw [hW0]; exact heap_old _ (heap_new _ _)
  have hX0 : W0.heap[w.heap.size + 1]? = some (Obj.cells #[Value.pointer none] 41) := by
    rw [hW0]
    have e := heap_new (w.alloc (Obj.cells #[Value.iface 37 (Value.pointer (some { block := A, off := 0 }))] 162)) (Obj.cells #[Value.pointer none] 41)
    simpa using e
  rw [← hW0]
  clear hW0
  have hA0 := hK0.heap h (by simp)
  have hC0 := hK0.heap hC (by simp)
  refine (catch_done 94 _ _ _ (fun w' => w'.heap[A]? = some (dobj n C (.slice none 0 0) (calls + 3) writes) ∧ (∃ V St Db, W0.heap.size + 2 ≤ V ∧ W0.heap.size + 2 ≤ St ∧ W0.heap.size + 2 ≤ Db ∧ w'.heap[V]? = some (vobj A n) ∧ w'.heap[St]? = some (sobj V N ((n : Int) - 2) 0) ∧ w'.heap[Db]? = some (.cells #[.pointer (some ⟨St, 0, none⟩)] 106) ∧ w'.heap[w.heap.size + 1]? = some (.cells #[.pointer (some ⟨Db, 0, none⟩)] 41)) ∧ Kp [A] w w') (cf94 _) ?_).mono ?_
  · refine (open1_ok w.heap.size (w.heap.size + 1) A n C calls writes l N _ (heap_old _ (heap_old _ hD0)) (heap_old _ (heap_old _ hX0)) (heap_old _ (heap_old _ hA0)) h0 h1 h8 h400 (heap_old _ (heap_old _ hC0)) hs hAC (by omega) hf).mono ?_
    rintro e w1 ⟨rfl, hA1, ⟨V, St, Db, hV, hSt, hDb, r⟩, hK1⟩
    refine ⟨rfl, ⟨hA1, ⟨V, St, Db, by simpa using hV, by simpa using hSt, by simpa using hDb, r⟩, (((hK0.mono (S' := [A]) (by simp)).alloc _).alloc _).trans hK1 (by intro i hi hlt; simp at hi; rcases hi with rfl | rfl; simp; omega)⟩, hK1.heap ?_ (by simp; omega)⟩
    have e := heap_new (W0.alloc (.cells #[.string ⟨#[79, 112, 101, 110]⟩] 9)) (.cells #[.nilIface] 57)
    simpa using e
  rintro e w2 ⟨rfl, w1, ⟨hA1, ⟨V, St, Db, hV, hSt, hDb, r1, r2, r3, r4⟩, hK1⟩, rfl⟩
  have x0 := cell_of r4 0
  simp at x0
  go_wp2
  go_ret2
  exact ⟨V, St, Db, rfl, by omega, by omega, by omega, (heap_set_other (by omega) _ _).trans hA1, (heap_set_other (by omega) _ _).trans r1, (heap_set_other (by omega) _ _).trans r2, (heap_set_other (by omega) _ _).trans r3, hK1.setCell (Or.inr (by simp; omega)) _⟩

set_option maxHeartbeats 1000000 in
set_option maxRecDepth 10000 in
theorem open_none (A n C : Nat) (calls writes : Int) (l : List UInt8) (w : World) (h : w.heap[A]? = some (dobj n C (.slice none 0 0) calls writes)) (h0 : 0 ≤ calls) (h1 : calls ≤ 999999000)
    (h8 : 8 ≤ n) (h400 : n ≤ 400) (hC : w.heap[C]? = some (.cells (enc l) 88)) (hs : l.length = n * 128) (hAC : C ≠ A) (hf : Fresh l) :
    Calls Tryz.prog 34 #[.pointer (some ⟨A, 0, none⟩)] w fun e w' => ∃ F call, e = .returned (.tuple #[.pointer none, .iface 196 (.pointer (some ⟨F, 0, none⟩))]) ∧ w.heap.size ≤ F ∧ w'.heap[F]? = some (.cells #[.string call, .iface 59 (.int .i64 9)] 199) ∧ w'.heap[A]? = some (dobj n C (.slice none 0 0) (calls + 2) writes) ∧ Kp [A] w w' := by
  have hA := lt_of_heap h
  have hCs := lt_of_heap hC
  have hmf : ∀ (fn : Fn) (first cap : Array Value) (w : World), (Instr.makeFunc fn first cap).run Tryz.prog w = .ok (.func fn first cap) w := fun _ _ _ _ => rfl
  go_enter Tryz.func34, Tryz.ntmps34
  go_wp2_with (go_at_call 52; go_in)
  obtain ⟨W0, hW0, hK0, hs0⟩ : ∃ W0, W0 = (w.alloc (Obj.cells #[Value.iface 37 (Value.pointer (some { block := A, off := 0 }))] 162)).alloc (Obj.cells #[Value.pointer none] 41) ∧ Kp [] w W0 ∧ W0.heap.size = w.heap.size + 2 := ⟨_, rfl, ((Kp.refl _ _).alloc _).alloc _, by simp⟩
  have hD0 : W0.heap[w.heap.size]? = some (Obj.cells #[Value.iface 37 (Value.pointer (some { block := A, off := 0 }))] 162) := by rw [hW0]; exact heap_old _ (heap_new _ _)
  have hX0 : W0.heap[w.heap.size + 1]? = some (Obj.cells #[Value.pointer none] 41) := by
    rw [hW0]
    have e := heap_new (w.alloc (Obj.cells #[Value.iface 37 (Value.pointer (some { block := A, off := 0 }))] 162)) (Obj.cells #[Value.pointer none] 41)
    simpa using e
  rw [← hW0]
  clear hW0
  have hA0 := hK0.heap h (by simp)
  have hC0 := hK0.heap hC (by simp)
  refine (catch_bad2 94 _ _ 9 _ A (dobj n C (.slice none 0 0) (calls + 2) writes) (by omega) (cf94 _) [A] ?_ (by intro i hi; simp at hi; omega)).mono ?_
  · exact open1_none w.heap.size (w.heap.size + 1) A n C calls writes l _ (heap_old _ (heap_old _ hD0)) (heap_old _ (heap_old _ hA0)) h0 h1 h8 h400 (heap_old _ (heap_old _ hC0)) hs hAC hf
  rintro e w2 ⟨F, rfl, hF, hF2, hA2, hK2⟩
  have hX2 := hK2.heap hX0 (by simp; omega)
  have x0 := cell_of hX2 0
  simp at x0
  go_wp2
  go_ret2
  exact ⟨F, _, rfl, by omega, hF2, hA2, (hK0.mono (S' := [A]) (by simp)).trans hK2 (by simp)⟩

set_option maxHeartbeats 1000000 in
set_option maxRecDepth 10000 in
theorem open_size (A n C : Nat) (cache : Value) (calls writes : Int) (w : World) (h : w.heap[A]? = some (dobj n C cache calls writes)) (hb : n < 8 ∨ 400 < n) :
    Calls Tryz.prog 34 #[.pointer (some ⟨A, 0, none⟩)] w fun e w' => ∃ F call, e = .returned (.tuple #[.pointer none, .iface 196 (.pointer (some ⟨F, 0, none⟩))]) ∧ w.heap.size ≤ F ∧ w'.heap[F]? = some (.cells #[.string call, .iface 59 (.int .i64 10)] 199) ∧ Kp [] w w' := by
  have hA := lt_of_heap h
  have HB : Hid (n < 8 ∨ 400 < n) := hb
  clear hb
  have hmf : ∀ (fn : Fn) (first cap : Array Value) (w : World), (Instr.makeFunc fn first cap).run Tryz.prog w = .ok (.func fn first cap) w := fun _ _ _ _ => rfl
  go_enter Tryz.func34, Tryz.ntmps34
  go_wp2_with (go_at_call 52; go_in)
  obtain ⟨W0, hW0, hK0, hs0⟩ : ∃ W0, W0 = (w.alloc (Obj.cells #[Value.iface 37 (Value.pointer (some { block := A, off := 0 }))] 162)).alloc (Obj.cells #[Value.pointer none] 41) ∧ Kp [] w W0 ∧ W0.heap.size = w.heap.size + 2 := ⟨_, rfl, ((Kp.refl _ _).alloc _).alloc _, by simp⟩
  have hD0 : W0.heap[w.heap.size]? = some (Obj.cells #[Value.iface 37 (Value.pointer (some { block := A, off := 0 }))] 162) := by rw [hW0]; exact heap_old _ (heap_new _ _)
  have hX0 : W0.heap[w.heap.size + 1]? = some (Obj.cells #[Value.pointer none] 41) := by
    rw [hW0]
    have e := heap_new (w.alloc (Obj.cells #[Value.iface 37 (Value.pointer (some { block := A, off := 0 }))] 162)) (Obj.cells #[Value.pointer none] 41)
    simpa using e
  rw [← hW0]
  clear hW0
  have hA0 := hK0.heap h (by simp)
  refine (catch_bad 94 _ _ 10 _ (cf94 _) [] ?_ (by simp)).mono ?_
  · exact open1_size w.heap.size (w.heap.size + 1) A n C cache calls writes _ (heap_old _ (heap_old _ hD0)) (heap_old _ (heap_old _ hA0)) HB.out
  rintro e w2 ⟨F, rfl, hF, hF2, hK2⟩
  have hX2 := hK2.heap hX0 (by simp)
  have x0 := cell_of hX2 0
  simp at x0
  go_wp2
  go_ret2
  exact ⟨F, _, rfl, by omega, hF2, hK0.trans hK2 (by simp)⟩
end Go.Proofs.YtilapcegpjjlfaaGreatDoor
