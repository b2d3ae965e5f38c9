import Derived.Test.YtilapcegpjjlfaaGreatDoorLaid
namespace Go.Proofs.YtilapcegpjjlfaaGreatDoor
set_option linter.unusedSimpArgs false
set_option linter.unusedVariables false
open Go.RowKit

/-- The program's volume on a disk. -/
def vobj (A n : Nat) : Obj := .cells #[.iface 37 (.pointer (some ⟨A, 0, none⟩)), .int .i64 n] 202
/-- The i-th block of a disk's bytes. -/
def blockOf (l : List UInt8) (i : Nat) : List UInt8 := (l.drop (i * 128)).take 128

theorem zsize205 : Tryz.zeroCells205.size = 128 := by kernel_rfl

set_option maxHeartbeats 400000 in
set_option maxRecDepth 10000 in
theorem load_ok (V A n C : Nat) (calls writes : Int) (i : Nat) (l : List UInt8) (w : World) (hV : w.heap[V]? = some (vobj A n)) (h : w.heap[A]? = some (dobj n C (.slice none 0 0) calls writes)) (h0 : 0 ≤ calls) (h1 : calls ≤ 1000000000)
    (hi : i < n) (hn : n ≤ 1000) (hC : w.heap[C]? = some (.cells (enc l) 88)) (hs : l.length = n * 128) (hAC : C ≠ A) (hVA : V ≠ A) :
    Calls Tryz.prog 173 #[.pointer (some ⟨V, 0, none⟩), .int .i64 i] w fun e w' => e = .returned (.agg (enc (blockOf l i))) ∧
      w'.heap[A]? = some (dobj n C (.slice none 0 0) (calls + 1) writes) ∧ Kp [A] w w' := by
  have c0 := cell_of hV 0
  simp at c0
  have hVs := lt_of_heap hV
  have hA := lt_of_heap h
  have hCs := lt_of_heap hC
  go_enter Tryz.func173, Tryz.ntmps173
  go_wp2_with fail
  refine (read_ok A n C calls writes i (enc l) _ (heap_old _ h) h0 h1 hi hn (heap_old _ hC) (by rw [enc_size]; exact hs) (enc_bytes l) hAC).mono ?_
  rintro e w1 ⟨g, rfl, hg, hG, hA1, hK1⟩
  rw [piece_enc] at hG
  have hb : blockOf l i = (l.drop (i * 128)).take 128 := rfl
  rw [← hb] at hG
  have hbl : (blockOf l i).length = 128 := by simp [blockOf]; omega
  clear hb
  obtain ⟨bl, hb0⟩ : ∃ bl, blockOf l i = bl := ⟨_, rfl⟩
  rw [hb0] at hG hbl
  have HB : Hid (blockOf l i = bl) := hb0
  clear hb0
  have hR : w1.heap[w.heap.size]? = some (.cells Tryz.zeroCells205 205) := hK1.heap (heap_new _ _) (by simp; omega)
  have hK2 : Kp [A] w w1 := ((Kp.refl _ _).alloc _).trans hK1 (by simp)
  have hgs : w.heap.size + 1 ≤ g := by simpa using hg
  have hg1 := lt_of_heap hG
  have hA1s := lt_of_heap hA1
  clear hK1 hg c0
  go_wp2_with fail
  have hN := heap_new w1 (.cells Tryz.zeroCells205 205)
  rw [run_copyA (n := 128) 3 Tryz.underlying158 Tryz.size5 rfl hN (heap_old _ hG) (by simp [zsize205]) (by rw [enc_size]; omega) (allBytes_piece (enc_bytes _) _ _).one]
  rw [piece_enc, List.drop_zero, List.take_of_length_le (by omega), laidOver_whole (by rw [zsize205, enc_size, hbl])]
  obtain ⟨W2, hW2, hK3, hA3, hR3, hB3⟩ : ∃ W2, W2 = (w1.alloc (.cells Tryz.zeroCells205 205)).setRow w1.heap.size (enc bl) ∧ Kp [A] w W2 ∧ W2.heap[A]? = some (dobj n C (.slice none 0 0) (calls + 1) writes) ∧
      W2.heap[w.heap.size]? = some (.cells Tryz.zeroCells205 205) ∧ W2.heap[w1.heap.size]? = some (.cells (enc bl) 205) :=
    ⟨_, rfl, (hK2.alloc _).setRow (Or.inr hK2.size) _, (setRow_other _ _ _ _ (by omega)).trans (heap_old _ hA1), (setRow_other _ _ _ _ (by omega)).trans (heap_old _ hR), setRow_heap _ _ _ _ _ _ hN⟩
  rw [← hW2]
  clear hW2 hN
  have hpp : piece (enc bl) 0 128 = enc bl := by rw [piece_enc, List.drop_zero, List.take_of_length_le (by omega)]
  have hes : (enc bl).size = 128 := by rw [enc_size, hbl]
  go_wp2_with (
    with_reducible refine wpList_loadA (t := 205) ?_ 128 ?_ w1.heap.size 0 ?_ (enc bl) 205 (0, 0) ?_ ?_ ?_
    · kernel_rfl
    · kernel_rfl
    · rfl
    · exact hB3
    · rw [enc_size]; omega)
  rw [run_storeA hR3 (by simp [zsize205, hes]) (enc_bytes bl).one]
  rw [show (enc bl).toList.toArray = enc bl from by simp, laidOver_whole (by rw [zsize205, hes])]
  obtain ⟨W3, hW3, hK4, hA4, hR4⟩ : ∃ W3, W3 = W2.setRow w.heap.size (enc bl) ∧ Kp [A] w W3 ∧ W3.heap[A]? = some (dobj n C (.slice none 0 0) (calls + 1) writes) ∧ W3.heap[w.heap.size]? = some (.cells (enc bl) 205) :=
    ⟨_, rfl, hK3.setRow (by simp) _, (setRow_other _ _ _ _ (by omega)).trans hA3, setRow_heap _ _ _ _ _ _ hR3⟩
  rw [← hW3]
  clear hW3
  go_wp2_with fail
  exact bodyPost_ret (results_cell_row Tryz.results173 _ _ w.heap.size _ _ _ _ rfl hR4 Tryz.underlying205 rfl (by rw [hes]; kernel_rfl)) rfl ⟨by rw [HB.out], hA4, hK4⟩
end Go.Proofs.YtilapcegpjjlfaaGreatDoor
