import Derived.Test.YtilapcegpjjlfaaGreatDoorCatch
namespace Go.Proofs.YtilapcegpjjlfaaGreatDoor
set_option linter.unusedSimpArgs false
set_option linter.unusedVariables false
open Go.RowKit

theorem setBlock_length (l : List UInt8) (i : Nat) (b : List UInt8) (h : i * 128 + b.length ≤ l.length) : (setBlock l i b).length = l.length := by simp [setBlock]; omega
theorem blockOf_set_same (l : List UInt8) (i : Nat) (b : List UInt8) (hb : b.length = 128) (h : i * 128 + 128 ≤ l.length) : blockOf (setBlock l i b) i = b := by
  unfold blockOf setBlock
  rw [List.append_assoc, List.drop_append_of_le_length (by simp; omega), List.drop_of_length_le (by simp; omega), List.nil_append, List.take_append_of_le_length (by omega), List.take_of_length_le (by omega)]
theorem blockOf_set_other (l : List UInt8) (b : List UInt8) (hb : b.length = 128) (h : 256 ≤ l.length) : blockOf (setBlock l 0 b) 1 = blockOf l 1 := by
  unfold blockOf setBlock
  simp only [Nat.zero_mul, List.take_zero, List.nil_append, Nat.zero_add, hb, Nat.one_mul]
  rw [List.drop_append_of_le_length (by omega), List.drop_of_length_le (by omega), List.nil_append]
/-- What Format leaves of the bytes. -/
def formatBytes (l : List UInt8) (N : Int) : List UInt8 := setBlock (setBlock l 1 (headBlock (N + 1))) 0 (headBlock (N + 2))
theorem formatBytes_length (l : List UInt8) (N : Int) (h : 256 ≤ l.length) : (formatBytes l N).length = l.length := by
  have h1 := setBlock_length l 1 (headBlock (N + 1)) (by rw [headBlock_length]; omega)
  rw [formatBytes, setBlock_length _ _ _ (by rw [headBlock_length]; omega), h1]
theorem formatBytes_ok (l : List UInt8) (N : Int) (h : 256 ≤ l.length) (h0 : 0 ≤ N) (he : N % 2 = 0) (h1 : N ≤ 999999998) : Formatted (formatBytes l N) (N + 2) := by
  have hl := setBlock_length l 1 (headBlock (N + 1)) (by rw [headBlock_length]; omega)
  refine ⟨blockOf_set_same _ _ _ (headBlock_length _) (by omega), ?_, by omega, by omega, by omega⟩
  rw [formatBytes, blockOf_set_other _ _ (headBlock_length _) (by omega), blockOf_set_same _ _ _ (headBlock_length _) (by omega)]
  congr 1; omega

set_option maxHeartbeats 1000000 in
set_option maxRecDepth 10000 in
theorem format1_ok (D A n C : Nat) (calls writes : Int) (l : List UInt8) (N : Int) (w : World) (hD : w.heap[D]? = some (.cells #[.iface 37 (.pointer (some ⟨A, 0, none⟩))] 162)) (h : w.heap[A]? = some (dobj n C (.slice none 0 0) calls writes)) (h0 : 0 ≤ calls) (h1 : calls ≤ 999999000) (h0w : 0 ≤ writes) (h1w : writes ≤ 999999000)
    (h8 : 8 ≤ n) (h400 : n ≤ 400) (hC : w.heap[C]? = some (.cells (enc l) 88)) (hs : l.length = n * 128) (hAC : C ≠ A) (hst : (Fresh l ∧ N = 0) ∨ Formatted l N) (hN0 : 0 ≤ N) (hNe : N % 2 = 0) (hN1 : N ≤ 999999000) :
    Calls Tryz.prog 85 #[.pointer (some ⟨D, 0, none⟩)] w fun e w' => e = .returned (.tuple #[]) ∧
      w'.heap[A]? = some (dobj n C (.slice none 0 0) (calls + 6) (writes + 2)) ∧ w'.heap[C]? = some (.cells (enc (formatBytes l N)) 88) ∧ Kp [A, C] w w' := by
  have hDs := lt_of_heap hD
  have hA := lt_of_heap h
  have hCs := lt_of_heap hC
  have c0 := cell_of hD 0
  simp at c0
  have HE : Hid (N % 2 = 0) := hNe
  clear hNe
  go_enter Tryz.func85, Tryz.ntmps85
  go_wp2_with fail
  refine (on_ok A n C (.slice none 0 0) calls writes _ h h8 h400).mono ?_
  rintro e w1 ⟨V, rfl, hVs, hV1, hK1⟩
  have hA1 := hK1.heap h (by simp)
  have hC1 := hK1.heap hC (by simp)
  have hK1' : Kp [A, C] w w1 := hK1.mono (by simp)
  have hVA : V ≠ A := by omega
  have hVC : V ≠ C := by omega
  clear hK1
  go_wp2_with fail
  have hnew : Calls Tryz.prog 87 #[.pointer (some ⟨V, 0, none⟩)] w1 fun e w' => (∃ b, e = .returned (.tuple #[.agg #[.int .u64 N, .int .i64 0, .int .u64 0], .bool b])) ∧ w'.heap[A]? = some (dobj n C (.slice none 0 0) (calls + 2) writes) ∧ Kp [A] w1 w' := by
    rcases hst with ⟨hf, rfl⟩ | hf
    · exact (newest_none V A n C calls writes l w1 hV1 hA1 h0 (by omega) h8 (by omega) hC1 hs hAC hVA hf).mono fun e w' hr => ⟨⟨_, hr.1⟩, hr.2⟩
    · exact (newest_some V A n C calls writes l N w1 hV1 hA1 h0 (by omega) h8 (by omega) hC1 hs hAC hVA hf).mono fun e w' hr => ⟨⟨_, hr.1⟩, hr.2⟩
  refine hnew.mono ?_
  rintro e w2 ⟨⟨b, rfl⟩, hA2, hK2⟩
  clear hnew hst
  have hV2 := hK2.heap hV1 (by simp [hVA])
  have hC2 := hK2.heap hC1 (by simp [hAC])
  have hK2' : Kp [A, C] w w2 := hK1'.trans hK2 (by simp)
  have hVl := lt_of_heap hV1
  have hs2 := hK2.size
  have hs1 := hK1'.size
  clear hK2 hK1' hA1 hC1 hV1 c0
  go_wp2
  obtain ⟨H, hHd⟩ : ∃ H, H = w2.heap.size := ⟨_, rfl⟩
  rw [← hHd]
  have hHw : w.heap.size ≤ H := by omega
  have hHA : A ≠ H := by omega
  have hHC : C ≠ H := by omega
  have hHV : V ≠ H := by omega
  obtain ⟨W3, hW3, hK3, hA3, hC3, hV3, hH3⟩ : ∃ W3, W3 = w2.alloc (Obj.cells #[Value.int IntKind.u64 N, Value.int IntKind.i64 0, Value.int IntKind.u64 0] 126) ∧ Kp [A, C] w W3 ∧ W3.heap[A]? = some (dobj n C (.slice none 0 0) (calls + 2) writes) ∧ W3.heap[C]? = some (.cells (enc l) 88) ∧ W3.heap[V]? = some (vobj A n) ∧ W3.heap[H]? = some (.cells #[.int .u64 N, .int .i64 0, .int .u64 0] 126) :=
    ⟨_, rfl, hK2'.alloc _, heap_old _ hA2, heap_old _ hC2, heap_old _ hV2, by rw [hHd]; exact heap_new _ _⟩
  rw [← hW3]
  clear hW3 hK2' hA2 hC2 hV2 hHd hs2 hs1
  have HHA : Hid (A ≠ H) := hHA
  have HHC : Hid (C ≠ H) := hHC
  have HHV : Hid (V ≠ H) := hHV
  clear hHA hHC hHV
  have x0 := cell_of hH3 0
  have x1 := cell_of hH3 1
  have x2 := cell_of hH3 2
  simp at x0 x1 x2
  refine wp_loop_rounds 3 ?_
  rw [rounds_succ]
  go_wp2_with fail
  refine (next_ok N 0 0 _ (by omega) (by omega)).mono ?_
  rintro e W3a ⟨rfl, hB3a⟩
  have hB3a' := Kp.of_below hB3a (Nat.le_refl _)
  have hA3a := hB3a'.heap hA3 (by simp)
  have hC3a := hB3a'.heap hC3 (by simp)
  have hV3a := hB3a'.heap hV3 (by simp)
  have hH3a := hB3a'.heap hH3 (by simp)
  have hK3a : Kp [A, C] w W3a := hK3.trans hB3a' (by simp)
  clear hB3a hB3a' hA3 hC3 hV3 hH3 hK3 x0 x1 x2
  have x0 := cell_of hH3a 0
  have x1 := cell_of hH3a 1
  have x2 := cell_of hH3a 2
  simp at x0 x1 x2
  have y0 := frozen_of hH3a 0
  have y1 := frozen_of hH3a 1
  have y2 := frozen_of hH3a 2
  go_wp2_with fail
  obtain ⟨W3b, hW3b, hK3b, hA3b, hC3b, hV3b, hH3b⟩ : ∃ W3b, W3b = ((W3a.setCell ⟨H, 0, none⟩ (.int .u64 (N + 1))).setCell ⟨H, 1, none⟩ (.int .i64 0)).setCell ⟨H, 2, none⟩ (.int .u64 0) ∧ Kp [A, C] w W3b ∧ W3b.heap[A]? = some (dobj n C (.slice none 0 0) (calls + 2) (writes)) ∧ W3b.heap[C]? = some (.cells (enc (l)) 88) ∧ W3b.heap[V]? = some (vobj A n) ∧ W3b.heap[H]? = some (.cells #[.int .u64 (N + 1), .int .i64 0, .int .u64 0] 126) :=
    ⟨_, rfl, ((hK3a.setCell (Or.inr hHw) _).setCell (Or.inr hHw) _).setCell (Or.inr hHw) _, (heap_set_other HHA.out _ _).trans ((heap_set_other HHA.out _ _).trans ((heap_set_other HHA.out _ _).trans hA3a)), (heap_set_other HHC.out _ _).trans ((heap_set_other HHC.out _ _).trans ((heap_set_other HHC.out _ _).trans hC3a)), (heap_set_other HHV.out _ _).trans ((heap_set_other HHV.out _ _).trans ((heap_set_other HHV.out _ _).trans hV3a)), heap_set (heap_set (heap_set hH3a 0 _) 1 _) 2 _⟩
  rw [← hW3b]
  clear hW3b hK3a hA3a hC3a hV3a hH3a x0 x1 x2 y0 y1 y2
  refine (lay_ok V A n C (calls + 2) (writes) 1 (N + 1) (l) _ hV3b hA3b (by omega) (by omega) (by omega) (by omega) (by omega) (by omega) hC3b hs hAC hVA hVC (by have := HE.out; omega) (by omega)).mono ?_
  rintro e W3c ⟨rfl, hA3c, hC3c, hK3c'⟩
  have hV3c := hK3c'.heap hV3b (by simp [hVA, hVC])
  have hH3c := hK3c'.heap hH3b (by simp; omega)
  have hK3c : Kp [A, C] w W3c := hK3b.trans hK3c' (by simp)
  clear hK3c' hK3b hA3b hC3b hV3b hH3b
  have x0 := cell_of hH3c 0
  have x1 := cell_of hH3c 1
  have x2 := cell_of hH3c 2
  simp at x0 x1 x2
  have hsl : (setBlock l 1 (headBlock (N + 1))).length = n * 128 := by rw [setBlock_length _ _ _ (by rw [headBlock_length]; omega)]; exact hs
  go_wp2_with fail
  rw [rounds_succ]
  go_wp2_with fail
  refine (next_ok (N + 1) 0 0 _ (by omega) (by omega)).mono ?_
  rintro e W3ca ⟨rfl, hB3ca⟩
  have hB3ca' := Kp.of_below hB3ca (Nat.le_refl _)
  have hA3ca := hB3ca'.heap hA3c (by simp)
  have hC3ca := hB3ca'.heap hC3c (by simp)
  have hV3ca := hB3ca'.heap hV3c (by simp)
  have hH3ca := hB3ca'.heap hH3c (by simp)
  have hK3ca : Kp [A, C] w W3ca := hK3c.trans hB3ca' (by simp)
  clear hB3ca hB3ca' hA3c hC3c hV3c hH3c hK3c x0 x1 x2
  have x0 := cell_of hH3ca 0
  have x1 := cell_of hH3ca 1
  have x2 := cell_of hH3ca 2
  simp at x0 x1 x2
  have y0 := frozen_of hH3ca 0
  have y1 := frozen_of hH3ca 1
  have y2 := frozen_of hH3ca 2
  go_wp2_with fail
  obtain ⟨W3cb, hW3cb, hK3cb, hA3cb, hC3cb, hV3cb, hH3cb⟩ : ∃ W3cb, W3cb = ((W3ca.setCell ⟨H, 0, none⟩ (.int .u64 ((N + 1) + 1))).setCell ⟨H, 1, none⟩ (.int .i64 0)).setCell ⟨H, 2, none⟩ (.int .u64 0) ∧ Kp [A, C] w W3cb ∧ W3cb.heap[A]? = some (dobj n C (.slice none 0 0) (calls + 2 + 2) (writes + 1)) ∧ W3cb.heap[C]? = some (.cells (enc (setBlock l 1 (headBlock (N + 1)))) 88) ∧ W3cb.heap[V]? = some (vobj A n) ∧ W3cb.heap[H]? = some (.cells #[.int .u64 ((N + 1) + 1), .int .i64 0, .int .u64 0] 126) :=
    ⟨_, rfl, ((hK3ca.setCell (Or.inr hHw) _).setCell (Or.inr hHw) _).setCell (Or.inr hHw) _, (heap_set_other HHA.out _ _).trans ((heap_set_other HHA.out _ _).trans ((heap_set_other HHA.out _ _).trans hA3ca)), (heap_set_other HHC.out _ _).trans ((heap_set_other HHC.out _ _).trans ((heap_set_other HHC.out _ _).trans hC3ca)), (heap_set_other HHV.out _ _).trans ((heap_set_other HHV.out _ _).trans ((heap_set_other HHV.out _ _).trans hV3ca)), heap_set (heap_set (heap_set hH3ca 0 _) 1 _) 2 _⟩
  rw [← hW3cb]
  clear hW3cb hK3ca hA3ca hC3ca hV3ca hH3ca x0 x1 x2 y0 y1 y2
  refine (lay_ok V A n C (calls + 2 + 2) (writes + 1) 0 ((N + 1) + 1) (setBlock l 1 (headBlock (N + 1))) _ hV3cb hA3cb (by omega) (by omega) (by omega) (by omega) (by omega) (by omega) hC3cb hsl hAC hVA hVC (by have := HE.out; omega) (by omega)).mono ?_
  rintro e W3cc ⟨rfl, hA3cc, hC3cc, hK3cc'⟩
  have hV3cc := hK3cc'.heap hV3cb (by simp [hVA, hVC])
  have hH3cc := hK3cc'.heap hH3cb (by simp; omega)
  have hK3cc : Kp [A, C] w W3cc := hK3cb.trans hK3cc' (by simp)
  clear hK3cc' hK3cb hA3cb hC3cb hV3cb hH3cb
  go_wp2_with fail
  rw [rounds_succ]
  go_wp2
  go_end0
  rw [show calls + 2 + 2 + 2 = calls + 6 from by omega, show writes + 1 + 1 = writes + 2 from by omega] at hA3cc
  rw [show N + 1 + 1 = N + 2 from by omega] at hC3cc
  exact ⟨rfl, hA3cc, hC3cc, hK3cc⟩

theorem format1_bad (D A n C : Nat) (cache : Value) (calls writes : Int) (w : World) (hD : w.heap[D]? = some (.cells #[.iface 37 (.pointer (some ⟨A, 0, none⟩))] 162)) (h : w.heap[A]? = some (dobj n C cache calls writes)) (hb : n < 8 ∨ 400 < n) :
    Calls Tryz.prog 85 #[.pointer (some ⟨D, 0, none⟩)] w fun e w' => e = .panicked [{ v := .iface 222 (.agg #[.iface 59 (.int .i64 10)]), recovered := false }] ∧ Kp [] w w' := by
  have c0 := cell_of hD 0
  simp at c0
  go_enter Tryz.func85, Tryz.ntmps85
  go_wp2_with fail
  refine (on_bad A n C cache calls writes _ h hb).mono ?_
  rintro e w1 ⟨rfl, hK1⟩
  go_wp2
  exact ⟨rfl, rfl, hK1⟩

theorem cf85 (args : Array Value) (W : World) : Sem.run Tryz.prog (callFunc 85 args) W = .ok (.enter 85 args) W := by
  simp [go_sem, Tryz.func85]

set_option maxHeartbeats 1000000 in
set_option maxRecDepth 10000 in
theorem format_ok (A n C : Nat) (calls writes : Int) (l : List UInt8) (N : Int) (w : World) (h : w.heap[A]? = some (dobj n C (.slice none 0 0) calls writes)) (h0 : 0 ≤ calls) (h1 : calls ≤ 999999000) (h0w : 0 ≤ writes) (h1w : writes ≤ 999999000)
    (h8 : 8 ≤ n) (h400 : n ≤ 400) (hC : w.heap[C]? = some (.cells (enc l) 88)) (hs : l.length = n * 128) (hAC : C ≠ A) (hst : (Fresh l ∧ N = 0) ∨ Formatted l N) (hN0 : 0 ≤ N) (hNe : N % 2 = 0) (hN1 : N ≤ 999999000) :
    Calls Tryz.prog 28 #[.pointer (some ⟨A, 0, none⟩)] w fun e w' => e = .returned .nilIface ∧
      w'.heap[A]? = some (dobj n C (.slice none 0 0) (calls + 6) (writes + 2)) ∧ w'.heap[C]? = some (.cells (enc (formatBytes l N)) 88) ∧ Kp [A, C] w w' := by
  have hA := lt_of_heap h
  have hCs := lt_of_heap hC
  have hmf : ∀ (fn : Fn) (first cap : Array Value) (w : World), (Instr.makeFunc fn first cap).run Tryz.prog w = .ok (.func fn first cap) w := fun _ _ _ _ => rfl
  have HE : Hid (N % 2 = 0) := hNe
  clear hNe
  go_enter Tryz.func28, Tryz.ntmps28
  go_wp2_with (go_at_call 50; go_in)
  obtain ⟨W0, hW0, hK0, hs0⟩ : ∃ W0, W0 = w.alloc (Obj.cells #[Value.iface 37 (Value.pointer (some { block := A, off := 0 }))] 162) ∧ Kp [] w W0 ∧ W0.heap.size = w.heap.size + 1 := ⟨_, rfl, (Kp.refl _ _).alloc _, by simp⟩
  have hD0 : W0.heap[w.heap.size]? = some (Obj.cells #[Value.iface 37 (Value.pointer (some { block := A, off := 0 }))] 162) := by rw [hW0]; exact heap_new _ _
  rw [← hW0]
  clear hW0
  have hA0 := hK0.heap h (by simp)
  have hC0 := hK0.heap hC (by simp)
  refine (catch_done 85 _ _ _ (fun w' => w'.heap[A]? = some (dobj n C (.slice none 0 0) (calls + 6) (writes + 2)) ∧ w'.heap[C]? = some (.cells (enc (formatBytes l N)) 88) ∧ Kp [A, C] w w') (cf85 _) ?_).mono ?_
  · refine (format1_ok w.heap.size A n C calls writes l N _ (heap_old _ (heap_old _ hD0)) (heap_old _ (heap_old _ hA0)) h0 h1 h0w h1w h8 h400 (heap_old _ (heap_old _ hC0)) hs hAC hst hN0 HE.out hN1).mono ?_
    rintro e w1 ⟨rfl, hA1, hC1, hK1⟩
    refine ⟨rfl, ⟨hA1, hC1, (((hK0.mono (S' := [A, C]) (by simp)).alloc _).alloc _).trans hK1 (by simp)⟩, hK1.heap ?_ (by simp; omega)⟩
    have e := heap_new (W0.alloc (.cells #[.string ⟨#[70, 111, 114, 109, 97, 116]⟩] 9)) (.cells #[.nilIface] 57)
    simpa using e
  rintro e w2 ⟨rfl, w1, ⟨hA1, hC1, hK1⟩, rfl⟩
  go_wp2
  go_ret
  exact ⟨rfl, (heap_set_other (by omega) _ _).trans hA1, (heap_set_other (by omega) _ _).trans hC1, hK1.setCell (Or.inr (by simp; omega)) _⟩

set_option maxHeartbeats 1000000 in
set_option maxRecDepth 10000 in
theorem format_bad (A n C : Nat) (cache : Value) (calls writes : Int) (w : World) (h : w.heap[A]? = some (dobj n C cache calls writes)) (hb : n < 8 ∨ 400 < n) :
    Calls Tryz.prog 28 #[.pointer (some ⟨A, 0, none⟩)] w fun e w' => ∃ F call, e = .returned (.iface 196 (.pointer (some ⟨F, 0, none⟩))) ∧ w.heap.size ≤ F ∧ w'.heap[F]? = some (.cells #[.string call, .iface 59 (.int .i64 10)] 199) ∧ Kp [] w w' := by
  have hmf : ∀ (fn : Fn) (first cap : Array Value) (w : World), (Instr.makeFunc fn first cap).run Tryz.prog w = .ok (.func fn first cap) w := fun _ _ _ _ => rfl
  have HB : Hid (n < 8 ∨ 400 < n) := hb
  clear hb
  go_enter Tryz.func28, Tryz.ntmps28
  go_wp2_with (go_at_call 50; go_in)
  obtain ⟨W0, hW0, hK0, hs0⟩ : ∃ W0, W0 = w.alloc (Obj.cells #[Value.iface 37 (Value.pointer (some { block := A, off := 0 }))] 162) ∧ Kp [] w W0 ∧ W0.heap.size = w.heap.size + 1 := ⟨_, rfl, (Kp.refl _ _).alloc _, by simp⟩
  have hD0 : W0.heap[w.heap.size]? = some (Obj.cells #[Value.iface 37 (Value.pointer (some { block := A, off := 0 }))] 162) := by rw [hW0]; exact heap_new _ _
  rw [← hW0]
  clear hW0
  have hA0 := hK0.heap h (by simp)
  refine (catch_bad 85 _ _ 10 _ (cf85 _) [] ?_ (by simp)).mono ?_
  · exact format1_bad w.heap.size A n C cache calls writes _ (heap_old _ (heap_old _ hD0)) (heap_old _ (heap_old _ hA0)) HB.out
  rintro e w2 ⟨F, rfl, hF, hF2, hK2⟩
  go_wp2
  go_ret
  exact ⟨F, _, rfl, by omega, hF2, hK0.trans hK2 (by simp)⟩
end Go.Proofs.YtilapcegpjjlfaaGreatDoor
