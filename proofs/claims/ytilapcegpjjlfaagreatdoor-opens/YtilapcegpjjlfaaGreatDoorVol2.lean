import Derived.Test.YtilapcegpjjlfaaGreatDoorVol
import Derived.Deep.RegionWith
import Derived.Deep.DeepMust
namespace Go.Proofs.YtilapcegpjjlfaaGreatDoor
set_option linter.unusedSimpArgs false
set_option linter.unusedVariables false
open Go.RowKit

theorem ownsRow_le {w : World} {base base' : Nat} {e : TypeId} {sz : Nat} {v : Value} {n : Nat} {xs : List Value} (h : w.ownsRow base e sz v n xs) (hb : base' ≤ base) : w.ownsRow base' e sz v n xs := by
  obtain ⟨h1, h2⟩ := h
  refine ⟨h1, ?_⟩
  rcases h2 with h2 | ⟨g, cap, cur, hv, hg, r⟩
  · exact .inl h2
  · exact .inr ⟨g, cap, cur, hv, by omega, r⟩

set_option maxHeartbeats 400000 in
set_option maxRecDepth 10000 in
theorem settle_none (V A n C : Nat) (calls writes : Int) (w : World) (hV : w.heap[V]? = some (vobj A n)) (h : w.heap[A]? = some (dobj n C (.slice none 0 0) calls writes)) (h0 : 0 ≤ calls) (h1 : calls ≤ 1000000000) :
    Calls Tryz.prog 97 #[.pointer (some ⟨V, 0, none⟩)] w fun e w' => e = .returned (.tuple #[]) ∧ w'.heap[A]? = some (dobj n C (.slice none 0 0) (calls + 1) writes) ∧ Kp [A] w w' := by
  have c0 := cell_of hV 0
  simp at c0
  go_enter Tryz.func97, Tryz.ntmps97
  go_wp2_with fail
  refine (flush_none A n C calls writes _ h h0 h1).mono ?_
  rintro e w1 ⟨rfl, hA1, hK1⟩
  go_wp2
  go_end0
  exact ⟨rfl, hA1, hK1⟩

set_option maxHeartbeats 400000 in
set_option maxRecDepth 10000 in
theorem settle_one (V A n C : Nat) (v : Value) (calls writes : Int) (i : Nat) (bs cs : Array Value) (w : World) (hV : w.heap[V]? = some (vobj A n)) (h : w.heap[A]? = some (dobj n C v calls writes)) (h0 : 0 ≤ calls) (h1 : calls ≤ 1000000000)
    (hv : Cached w v i bs) (hi : i < n) (hn : n ≤ 1000) (hC : w.heap[C]? = some (.cells cs 88)) (hs : cs.size = n * 128) (hAC : C ≠ A) :
    Calls Tryz.prog 97 #[.pointer (some ⟨V, 0, none⟩)] w fun e w' => e = .returned (.tuple #[]) ∧ w'.heap[A]? = some (dobj n C (.slice none 0 0) (calls + 1) writes) ∧
      w'.heap[C]? = some (.cells (laidOver cs (i * 128) bs) 88) ∧ Kp [A, C] w w' := by
  have c0 := cell_of hV 0
  simp at c0
  go_enter Tryz.func97, Tryz.ntmps97
  go_wp2_with fail
  refine (flush_one A n C v calls writes i bs cs _ h h0 h1 hv hi hn hC hs hAC).mono ?_
  rintro e w1 ⟨rfl, hA1, hC1, hK1⟩
  go_wp2
  go_end0
  exact ⟨rfl, hA1, hC1, hK1⟩

set_option maxHeartbeats 400000 in
set_option maxRecDepth 10000 in
theorem save_ok (V A n C : Nat) (calls writes : Int) (i : Nat) (bl : List UInt8) (w : World) (hV : w.heap[V]? = some (vobj A n)) (h : w.heap[A]? = some (dobj n C (.slice none 0 0) calls writes)) (h0 : 0 ≤ calls) (h1 : calls ≤ 1000000000) (h0w : 0 ≤ writes) (h1w : writes ≤ 1000000000)
    (hi : i < n) (hn : n ≤ 1000) (hbl : bl.length = 128) (hVA : V ≠ A) :
    Calls Tryz.prog 140 #[.pointer (some ⟨V, 0, none⟩), .int .i64 i, .agg (enc bl)] w fun e w' => e = .returned (.tuple #[]) ∧ ∃ v', Cached w' v' i (enc bl) ∧
      w'.heap[A]? = some (dobj n C v' (calls + 1) (writes + 1)) ∧ Kp [A] w w' := by
  have c0 := cell_of hV 0
  simp at c0
  have hVs := lt_of_heap hV
  have hA := lt_of_heap h
  have hes : (enc bl).size = 128 := by rw [enc_size, hbl]
  go_enter Tryz.func140, Tryz.ntmps140
  go_wp2_with fail
  obtain ⟨W1, hW1, hK1, hA1, hB1, hV1⟩ : ∃ W1, W1 = w.alloc (Obj.cells (enc bl) 205) ∧ Kp [A] w W1 ∧ W1.heap[A]? = some (dobj n C (.slice none 0 0) calls writes) ∧ W1.heap[w.heap.size]? = some (Obj.cells (enc bl) 205) ∧ W1.heap[V]? = some (vobj A n) :=
    ⟨_, rfl, (Kp.refl _ _).alloc _, heap_old _ h, heap_new _ _, heap_old _ hV⟩
  rw [← hW1]
  clear hW1 c0
  have c0 := cell_of hV1 0
  simp at c0
  have hpp : piece (enc bl) 0 128 = enc bl := by rw [piece_enc, List.drop_zero, List.take_of_length_le (by omega)]
  have hm : ∀ W : World, (method 452 37 (.pointer (some ⟨A, 0, none⟩)) "Write").run Tryz.prog W = .ok (272, .pointer (some ⟨A, 0, none⟩)) W := fun _ => by kernel_rfl
  go_region_with (go_at_call 272; go_must (refine (write_ok A n C calls writes i w.heap.size 0 128 (enc bl) 205 W1.drew hA1 h0 h1 h0w h1w hi hn hB1 (by omega) (enc_bytes bl) (by omega)).mono ?_); rintro e w2 ⟨rfl, v', hown, hA2, hK2⟩)
  go_wp2
  go_end0
  refine ⟨rfl, v', ⟨?_, hes, enc_bytes bl⟩, hA2, hK1.trans ((Kp.refl [A] W1).drew.trans hK2 (by simp)) (by simp)⟩
  rw [hpp] at hown
  exact ownsRow_le hown (Nat.zero_le _)
end Go.Proofs.YtilapcegpjjlfaaGreatDoor
