import Derived.Test.YtilapcegpjjlfaaGreatDoorLocks
namespace Go.Proofs.YtilapcegpjjlfaaGreatDoor
set_option linter.unusedSimpArgs false
set_option linter.unusedVariables false
open Go.RowKit Go.MuLone

/-- A store that a call holds. -/
def sobjL (V : Nat) (N : Int) (room reading : Int) : Obj :=
  .cells #[.int .i32 1, .int .u32 0, .pointer (some ⟨V, 0, none⟩), .int .u64 N, .int .i64 0, .int .u64 0, .int .i64 room, .bool false, .bool false, .int .i64 reading] 128

set_option maxRecDepth 10000 in
theorem is_nil (k : Int) (w : World) : Calls Tryz.prog 105 #[.nilIface, .iface 59 (.int .i64 k)] w fun e w' => e = .returned (.bool false) ∧ w' = w := by
  have hb : ∀ W : World, Sem.run Tryz.prog (binOp .eql 57 .nilIface (.iface 59 (.int .i64 k))) W = .ok (.bool false) W := fun W => by kernel_rfl
  go_enter Tryz.func105, Tryz.ntmps105
  go_wp2
  go_ret
  exact ⟨rfl, rfl⟩

theorem cf104 (args : Array Value) (W : World) : Sem.run Tryz.prog (callFunc 104 args) W = .ok (.enter 104 args) W := by
  simp [go_sem, Tryz.func104]

theorem alone1_ok (S F St V f : Nat) (N room reading : Int) (first cap : Array Value) (w : World) (R : World → Prop) (hS : w.heap[S]? = some (.cells #[.pointer (some ⟨St, 0, none⟩)] 104)) (hF : w.heap[F]? = some (.cells #[.func (.func f) first cap] 1)) (hSt : w.heap[St]? = some (sobjL V N room reading))
    (hcf : ∀ W : World, Sem.run Tryz.prog (callFunc f (first ++ cap)) W = .ok (.enter f (first ++ cap)) W)
    (hw : Calls Tryz.prog f (first ++ cap) w fun e w' => e = .returned (.tuple #[]) ∧ R w') :
    Calls Tryz.prog 104 #[.pointer (some ⟨S, 0, none⟩), .pointer (some ⟨F, 0, none⟩)] w fun e w' => e = .returned (.tuple #[]) ∧ R w' := by
  have s0 := cell_of hS 0
  have f0 := cell_of hF 0
  have p7 := cell_of hSt 7
  simp at s0 f0 p7
  clear hS hF hSt
  have HW : Hid (Calls Tryz.prog f (first ++ cap) w fun e w' => e = .returned (.tuple #[]) ∧ R w') := hw
  clear hw
  go_enter Tryz.func104, Tryz.ntmps104
  go_wp2_with fail
  refine (show Calls _ _ _ _ _ from HW.out).mono ?_
  rintro e w1 ⟨rfl, hR⟩
  go_wp2
  go_end0
  exact ⟨rfl, hR⟩

set_option maxHeartbeats 1000000 in
set_option maxRecDepth 10000 in
/-- A call that works alone, and throws nothing. -/
theorem alone_ok (St V f : Nat) (N room r r' : Int) (first cap : Array Value) (call : ByteArray) (X : List Nat) (Q : World → World → Prop) (w : World) (hSt : w.heap[St]? = some (sobj V N room r))
    (hcf : ∀ W : World, Sem.run Tryz.prog (callFunc f (first ++ cap)) W = .ok (.enter f (first ++ cap)) W) (hX : ∀ i, i ∈ X → i < w.heap.size)
    (hw : ∀ W : World, Kp [St] w W → W.heap[St]? = some (sobjL V N room r) → Calls Tryz.prog f (first ++ cap) W fun e w1 => e = .returned (.tuple #[]) ∧ Q W w1 ∧ Kp (St :: X) W w1 ∧ w1.heap[St]? = some (sobjL V N room r')) :
    Calls Tryz.prog 58 #[.pointer (some ⟨St, 0, none⟩), .string call, .func (.func f) first cap] w fun e w' => e = .returned .nilIface ∧ w'.heap[St]? = some (sobj V N room r') ∧ Kp (St :: X) w w' ∧ ∃ W w1, Q W w1 ∧ Kp [St] w W ∧ w.heap.size ≤ W.heap.size ∧ ∀ k, k ≠ St → (k < w.heap.size ∨ W.heap.size ≤ k) → w'.heap[k]? = w1.heap[k]? := by
  have hmf : ∀ (fn : Fn) (first cap : Array Value) (w : World), (Instr.makeFunc fn first cap).run Tryz.prog w = .ok (.func fn first cap) w := fun _ _ _ _ => rfl
  have HW : Hid (∀ W : World, Kp [St] w W → W.heap[St]? = some (sobjL V N room r) → Calls Tryz.prog f (first ++ cap) W fun e w1 => e = .returned (.tuple #[]) ∧ Q W w1 ∧ Kp (St :: X) W w1 ∧ w1.heap[St]? = some (sobjL V N room r')) := hw
  have HX : Hid (∀ i, i ∈ X → i < w.heap.size) := hX
  clear hw hX
  have hSs := lt_of_heap hSt
  go_enter_defers Tryz.func58, Tryz.ntmps58
  go_wp2_with fail
  refine (lock_free muLib ⟨St, 0, none⟩ _ (cell_of (heap_old _ (heap_old _ hSt)) 0) (frozen_of (heap_old _ (heap_old _ hSt)) 0)).mono ?_
  rintro e W0 ⟨rfl, rfl⟩
  obtain ⟨W0, hW0, hK0, hs0, hB0, hF0, hSt0⟩ : ∃ W0, W0 = ((w.alloc (Obj.cells #[Value.pointer (some { block := St, off := 0 })] 104)).alloc (Obj.cells #[Value.func (Fn.func f) first cap] 1)).setCell ⟨St, 0, none⟩ (.int .i32 1) ∧ Kp [St] w W0 ∧ W0.heap.size = w.heap.size + 2 ∧ W0.heap[w.heap.size]? = some (Obj.cells #[Value.pointer (some { block := St, off := 0 })] 104) ∧ W0.heap[w.heap.size + 1]? = some (Obj.cells #[Value.func (Fn.func f) first cap] 1) ∧ W0.heap[St]? = some (sobjL V N room r) := by
    refine ⟨_, rfl, ((((Kp.refl _ _).alloc _).alloc _).setCell (by simp) _), by simp [World.setCell], ?_, ?_, ?_⟩
    · exact (heap_set_other (by omega) _ _).trans (heap_old _ (heap_new _ _))
    · refine (heap_set_other (by omega) _ _).trans ?_
      have e := heap_new (w.alloc (Obj.cells #[Value.pointer (some { block := St, off := 0 })] 104)) (Obj.cells #[Value.func (Fn.func f) first cap] 1)
      simpa using e
    · exact heap_set (heap_old _ (heap_old _ hSt)) 0 _
  rw [← hW0]
  clear hW0
  have b0 := cell_of hB0 0
  simp at b0
  go_wp2_with fail
  obtain ⟨Wc, hWc, hKc, hsc, hBc, hFc, hStc, hEc⟩ : ∃ Wc, Wc = (W0.alloc (.cells #[.string call] 9)).alloc (.cells #[.nilIface] 57) ∧ Kp [St] w Wc ∧ Wc.heap.size = w.heap.size + 4 ∧ Wc.heap[w.heap.size]? = some (Obj.cells #[Value.pointer (some { block := St, off := 0 })] 104) ∧ Wc.heap[w.heap.size + 1]? = some (Obj.cells #[Value.func (Fn.func f) first cap] 1) ∧ Wc.heap[St]? = some (sobjL V N room r) ∧ Wc.heap[W0.heap.size + 1]? = some (.cells #[.nilIface] 57) := by
    refine ⟨_, rfl, (hK0.alloc _).alloc _, by simp [hs0], heap_old _ (heap_old _ hB0), heap_old _ (heap_old _ hF0), heap_old _ (heap_old _ hSt0), ?_⟩
    have e := heap_new (W0.alloc (.cells #[.string call] 9)) (.cells #[.nilIface] 57)
    simpa using e
  refine (catch_done 104 _ _ _ (fun w1 => Q Wc w1 ∧ Kp (St :: X) Wc w1 ∧ w1.heap[St]? = some (sobjL V N room r')) (cf104 _) ?_).mono ?_
  · rw [← hWc]
    refine (alone1_ok w.heap.size (w.heap.size + 1) St V f N room r first cap Wc (fun w1 => Q Wc w1 ∧ Kp (St :: X) Wc w1 ∧ w1.heap[St]? = some (sobjL V N room r')) hBc hFc hStc hcf ?_).mono ?_
    · exact HW.out Wc hKc hStc
    · rintro e w1 ⟨rfl, hQ, hk, hst⟩
      exact ⟨rfl, ⟨hQ, hk, hst⟩, hk.heap hEc (by
        intro h
        rcases List.mem_cons.1 h with h | h
        · omega
        · have := HX.out _ h; omega)⟩
  rintro e w2 ⟨rfl, w1, ⟨hQ, hk, hst⟩, rfl⟩
  have hB1 := hk.heap hBc (by
        intro h
        rcases List.mem_cons.1 h with h | h
        · omega
        · have := HX.out _ h; omega)
  have hs1 := hk.size
  obtain ⟨w2, hw2, hst2, hK2, ho2⟩ : ∃ w2, w2 = w1.setCell ⟨W0.heap.size + 1, 0, none⟩ .nilIface ∧ w2.heap[St]? = some (sobjL V N room r') ∧ Kp (St :: X) w w2 ∧ ∀ k, (k < w.heap.size ∨ Wc.heap.size ≤ k) → w2.heap[k]? = w1.heap[k]? :=
    ⟨_, rfl, (heap_set_other (by omega) _ _).trans hst, (((hKc.mono (S' := St :: X) (by simp)).trans hk (fun _ h _ => h)).setCell (Or.inr (by simp; omega)) _), fun k hk => heap_set_other (by omega) _ _⟩
  rw [← hw2]
  clear hw2 hB1
  go_wp2_with (go_at_call 105; refine (is_nil 8 _).mono ?_; rintro e w' ⟨rfl, rfl⟩)
  refine leaves_cons (f := 103) (args := #[.pointer (some ⟨St, 0, none⟩)]) (by simp) (by simp [go_sem]) ?_
  refine (unlock_deferred muLib ⟨St, 0, none⟩ .returning _ (cell_of hst2 0) (frozen_of hst2 0)).mono ?_
  rintro e u' w'' ⟨rfl, rfl, rfl⟩
  refine ⟨_, results_tmp rfl _ _ _, rfl, heap_set hst2 0 _, hK2.setCell (by simp) _, Wc, w1, hQ, hKc, by omega, fun k hk hn => (heap_set_other hk _ _).trans (ho2 k hn)⟩
end Go.Proofs.YtilapcegpjjlfaaGreatDoor
