import Derived.Test.YtilapcegpjjlfaaGreatDoorAll
import Derived.RangeFuncNested
import Derived.RangeFuncBound
import Derived.RangeFuncCalls
import Derived.RangeFuncLeaves
import Derived.Shelf.Abstract
import Derived.Shelf.RegionOpen
import Derived.OwnWalkIn
import Derived.TacticsInMore
namespace Go.Proofs.YtilapcegpjjlfaaGreatDoor
set_option linter.unusedSimpArgs false
set_option linter.unusedVariables false
open Go.RowKit
attribute [local go_sem] Oper.semAt_some

/-- A range over a function that yields nothing. -/
theorem wpIn_range_none {P : Program} {n : Nat} {g : Operand} {ps : Array Tmp} {assign body : Code} {Q : Exit → Act → World → Prop} {a : Act} {w : World} (h1 : 1 ≤ n) {gf : Nat} {lb : Array Value} (hg : a.eval g = .func (.func gf) #[] lb) (eg : ∀ args w, (callFunc gf args).run P w = .ok (.enter gf args) w) (R : World → Prop)
    (hcall : ∀ rec : Loop, Calls P gf (#[.func (.yield (w.heap.size + 1)) #[] #[]] ++ lb) ((w.alloc (.deferred (some []))).alloc (.loop rec)) fun e w' => (∃ v, e = .returned v) ∧ R w' ∧ w'.heap[w.heap.size]? = some (.deferred (some [])) ∧ w'.heap[w.heap.size + 1]? = some (.loop rec))
    (hdone : ∀ (rec : Loop) (w' : World), R w' → w'.heap[w.heap.size]? = some (.deferred (some [])) → w.heap.size + 1 < w'.heap.size → Q .normal { a with defers := { target := .collected w.heap.size, args := #[] } :: a.defers } (w'.putObj (w.heap.size + 1) (.loop rec))) :
    (Code.rangeFunc g ps assign body).wpIn Fence.wide n P Q a w := by
  refine wpIn_rangeFunc ?_
  intro fn hfn
  obtain ⟨W1, hW1⟩ : ∃ W1, W1 = (w.alloc (.deferred (some []))).alloc (.loop { state := .ready, pending := none, fn, tmps := a.tmps, params := ps, assign, body, defers := w.heap.size }) := ⟨_, rfl⟩
  refine ⟨w.heap.size + 1, [{ target := .collected w.heap.size, args := #[] }], W1, { target := .fn (.func gf) lb, args := #[.func (.yield (w.heap.size + 1)) #[] #[]] }, W1, gf,
    #[.func (.yield (w.heap.size + 1)) #[] #[]] ++ lb, W1, by rw [hW1]; exact run_enterLoop_outer _ _ _ _ _, ?_, ?_, ?_, fun _ => h1, ?_⟩
  · simp only [resolve, hg]
    simp [go_sem]
  · intro f' hf'; trivial
  · simp [invoke, go_sem, eg]
  · rw [hW1]
    refine callsIn_wide.2 ((hcall _).mono ?_)
    rintro e w' ⟨⟨v, rfl⟩, hR, hD, hL⟩
    exact ⟨none, _, run_endLoop hL (by simp), hdone _ w' hR hD (lt_of_heap hL)⟩

theorem Kp.putObj {S : List Nat} {a b : World} (h : Kp S a b) {l : Nat} (hl : l ∈ S ∨ a.heap.size ≤ l) (o : Obj) : Kp S a (b.putObj l o) :=
  ⟨h.os, h.tape, h.output, by have := h.size; simp [World.putObj]; omega, fun k hk hn => (World.putObj_heap_other (by
    rcases hl with hl | hl
    · intro e; subst e; exact hn hl
    · omega)).trans (h.block k hk hn)⟩

theorem cf149 (args : Array Value) (W : World) : Sem.run Tryz.prog (callFunc 149 args) W = .ok (.enter 149 args) W := by
  simp [go_sem, Tryz.func149]

set_option maxHeartbeats 2000000 in
set_option maxRecDepth 10000 in
/-- Scan of a transaction that sees nothing. -/
theorem scan_ok (x St V : Nat) (N room r : Int) (lo hi : ByteArray) (w : World) (hx : w.heap[x]? = some (xobj St V false)) (hSt : w.heap[St]? = some (sobj V N room r)) (hne : x ≠ St) :
    Calls Tryz.prog 53 #[.pointer (some ⟨x, 0, none⟩), .string lo, .string hi, .int .i64 1048576] w fun e w' => e = .returned (.tuple #[.slice none 0 0, .nilIface]) ∧ w'.heap[St]? = some (sobj V N room r) ∧ Kp [St] w w' := by
  have HN : Hid (x ≠ St) := hne
  clear hne
  have hxs := lt_of_heap hx
  have hSs := lt_of_heap hSt
  refine (callsIn_wide (n := 9)).1 ?_
  refine callsIn_of_wp_marks Tryz.func53 rfl trivial ?_ rfl
  simp only [Tryz.ntmps53, List.size_toArray, List.length_cons, List.length_nil, Nat.reduceAdd, Nat.reduceSub, Array.replicate_succ, Array.replicate_zero, List.push_toArray, List.append_toArray, List.nil_append, List.cons_append]
  gi_wp2
  refine ⟨trivial, ?_⟩
  obtain ⟨w0, hw0, hx0, hSt0, hR0, hE0, hO0, hK0, hs0⟩ : ∃ w0, w0 = ((((w.alloc (Obj.cells #[Value.int IntKind.i64 1048576] 3)).alloc (Obj.cells #[Value.slice none 0 0] 81)).alloc (Obj.cells #[Value.nilIface] 57)).alloc (Obj.cells #[Value.slice none 0 0] 81)) ∧ w0.heap[x]? = some (xobj St V false) ∧ w0.heap[St]? = some (sobj V N room r) ∧ w0.heap[w.heap.size + 1]? = some (Obj.cells #[Value.slice none 0 0] 81) ∧ w0.heap[w.heap.size + 1 + 1]? = some (Obj.cells #[Value.nilIface] 57) ∧ w0.heap[w.heap.size + 1 + 1 + 1]? = some (Obj.cells #[Value.slice none 0 0] 81) ∧ Kp [St] w w0 ∧ w0.heap.size = w.heap.size + 4 := by
    refine ⟨_, rfl, heap_old _ (heap_old _ (heap_old _ (heap_old _ hx))), heap_old _ (heap_old _ (heap_old _ (heap_old _ hSt))), heap_old _ (heap_old _ ?_), heap_old _ ?_, ?_, ((((Kp.refl _ _).alloc _).alloc _).alloc _).alloc _, by simp⟩
    · have e := heap_new (w.alloc (Obj.cells #[Value.int IntKind.i64 1048576] 3)) (Obj.cells #[Value.slice none 0 0] 81)
      simpa using e
    · have e := heap_new ((w.alloc (Obj.cells #[Value.int IntKind.i64 1048576] 3)).alloc (Obj.cells #[Value.slice none 0 0] 81)) (Obj.cells #[Value.nilIface] 57)
      simpa using e
    · have e := heap_new (((w.alloc (Obj.cells #[Value.int IntKind.i64 1048576] 3)).alloc (Obj.cells #[Value.slice none 0 0] 81)).alloc (Obj.cells #[Value.nilIface] 57)) (Obj.cells #[Value.slice none 0 0] 81)
      simpa using e
  rw [← hw0]
  clear hw0 hx hSt
  have HS0 : Hid (w0.heap.size = w.heap.size + 4) := hs0
  clear hs0
  refine (callsIn_wide.2 (all_ok x lo hi w0)).mono ?_
  rintro e w1 ⟨rfl, hB1, hK1⟩
  have hx1 := hK1.heap hx0 (by simp)
  have hSt1 := hK1.heap hSt0 (by simp)
  have hR1 := hK1.heap hR0 (by simp)
  have hE1 := hK1.heap hE0 (by simp)
  have hO1 := hK1.heap hO0 (by simp)
  have hK1' : Kp [St] w w1 := hK0.trans hK1 (by simp)
  have HS1 : Hid (w0.heap.size ≤ w1.heap.size) := hK1.size
  clear hK1 hx0 hSt0 hR0 hE0 hO0 hK0
  gi_wp2
  have hBl := lt_of_heap hB1
  have hxl := lt_of_heap hx1
  have hSl := lt_of_heap hSt1
  have hRl := lt_of_heap hR1
  have hEl := lt_of_heap hE1
  have hOl := lt_of_heap hO1
  refine wpIn_range_none (by omega) (gf := 149) (lb := #[.pointer (some ⟨w0.heap.size, 0, none⟩), .pointer (some ⟨w0.heap.size + 1, 0, none⟩), .pointer (some ⟨w0.heap.size + 2, 0, none⟩)]) rfl cf149 (fun w' => w'.heap[St]? = some (sobj V N room r) ∧ Kp [St] w1 w') ?_ ?_
  · intro rec
    refine (all1_ok _ w0.heap.size (w0.heap.size + 1) (w0.heap.size + 2) x St V N room r _ (heap_old _ (heap_old _ hB1)) (heap_old _ (heap_old _ hx1)) (heap_old _ (heap_old _ hSt1)) ⟨HN.out, by have := HS0.out; omega⟩).mono ?_
    rintro e w2 ⟨rfl, hSt2, hK2⟩
    refine ⟨⟨_, rfl⟩, ⟨hSt2, (((Kp.refl [St] w1).alloc _).alloc _).trans hK2 (fun _ h _ => h)⟩, hK2.heap (heap_old _ (heap_new _ _)) (by simp; omega), hK2.heap ?_ (by simp; omega)⟩
    have e := heap_new (w1.alloc (.deferred (some []))) (.loop rec)
    simpa using e
  intro rec w2 hR hD hlt
  obtain ⟨hSt2, hK2⟩ := hR
  have h0 := HS0.out
  have h1 := HS1.out
  have hR2 := hK2.heap hR1 (by simp; omega)
  have hE2 := hK2.heap hE1 (by simp; omega)
  have hO2 := hK2.heap hO1 (by simp; omega)
  have hK2' : Kp [St] w w2 := hK1'.trans hK2 (by simp)
  obtain ⟨w3, hw3, hSt3, hR3, hE3, hO3, hD3, hK3⟩ : ∃ w3, w3 = w2.putObj (w1.heap.size + 1) (.loop rec) ∧ w3.heap[St]? = some (sobj V N room r) ∧ w3.heap[w.heap.size + 1]? = some (Obj.cells #[Value.slice none 0 0] 81) ∧ w3.heap[w.heap.size + 1 + 1]? = some (Obj.cells #[Value.nilIface] 57) ∧ w3.heap[w.heap.size + 1 + 1 + 1]? = some (Obj.cells #[Value.slice none 0 0] 81) ∧ w3.heap[w1.heap.size]? = some (.deferred (some [])) ∧ Kp [St] w w3 :=
    ⟨_, rfl, (World.putObj_heap_other (by omega)).trans hSt2, (World.putObj_heap_other (by omega)).trans hR2, (World.putObj_heap_other (by omega)).trans hE2, (World.putObj_heap_other (by omega)).trans hO2, (World.putObj_heap_other (by omega)).trans hD, hK2'.putObj (Or.inr (by omega)) _⟩
  rw [← hw3]
  clear hw3 hSt2 hR2 hE2 hO2 hD hK2' hK2 hSt1 hR1 hE1 hO1 hK1' hB1 hx1
  have o0 := cell_of hO3 0
  have r0 := cell_of hR3 0
  have e0 := cell_of hE3 0
  simp only [List.getElem?_toArray, List.getElem?_cons_zero] at o0 r0 e0
  have fr0 := frozen_of hR3 0
  have fe0 := frozen_of hE3 0
  gi_wp2
  obtain ⟨w4, hw4, hSt4, hR4, hE4, hD4, hK4⟩ : ∃ w4, w4 = (w3.setCell { block := w.heap.size + 1, off := 0 } (Value.slice none 0 0)).setCell { block := w.heap.size + 1 + 1, off := 0 } Value.nilIface ∧ w4.heap[St]? = some (sobj V N room r) ∧ w4.heap[w.heap.size + 1]? = some (Obj.cells #[Value.slice none 0 0] 81) ∧ w4.heap[w.heap.size + 1 + 1]? = some (Obj.cells #[Value.nilIface] 57) ∧ w4.heap[w1.heap.size]? = some (.deferred (some [])) ∧ Kp [St] w w4 :=
    ⟨_, rfl, (heap_set_other (by omega) _ _).trans ((heap_set_other (by omega) _ _).trans hSt3), (heap_set_other (by omega) _ _).trans (heap_set hR3 0 _), heap_set ((heap_set_other (by omega) _ _).trans hE3) 0 _, (heap_set_other (by omega) _ _).trans ((heap_set_other (by omega) _ _).trans hD3), (hK3.setCell (Or.inr (by simp)) _).setCell (Or.inr (by simp; omega)) _⟩
  rw [← hw4]
  clear hw4 o0 r0 e0 fr0 fe0 hR3 hE3 hO3 hD3 hK3 hSt3
  refine ⟨by simp, .inl ⟨_, _, rfl, run_takeDeferred hD4, ?_⟩⟩
  obtain ⟨w5, hw5, hSt5, hR5, hE5, hK5⟩ : ∃ w5, w5 = w4.putObj w1.heap.size (.deferred none) ∧ w5.heap[St]? = some (sobj V N room r) ∧ w5.heap[w.heap.size + 1]? = some (Obj.cells #[Value.slice none 0 0] 81) ∧ w5.heap[w.heap.size + 1 + 1]? = some (Obj.cells #[Value.nilIface] 57) ∧ Kp [St] w w5 :=
    ⟨_, rfl, (World.putObj_heap_other (by omega)).trans hSt4, (World.putObj_heap_other (by omega)).trans hR4, (World.putObj_heap_other (by omega)).trans hE4, hK4.putObj (Or.inr (by omega)) _⟩
  rw [← hw5]
  have r0 := cell_of hR5 0
  have e0 := cell_of hE5 0
  simp only [List.getElem?_toArray, List.getElem?_cons_zero] at r0 e0
  refine ⟨.tuple #[.slice none 0 0, .nilIface], ?_, rfl, hSt5, hK5⟩
  simp [results, Tryz.results53, go_sem, r0, e0]
end Go.Proofs.YtilapcegpjjlfaaGreatDoor
