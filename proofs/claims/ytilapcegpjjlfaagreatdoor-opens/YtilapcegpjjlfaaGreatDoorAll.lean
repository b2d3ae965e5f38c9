import Derived.Test.YtilapcegpjjlfaaGreatDoorGoing
import Derived.Laws.EntriesVeiled
namespace Go.Proofs.YtilapcegpjjlfaaGreatDoor
set_option linter.unusedSimpArgs false
set_option linter.unusedVariables false
open Go.RowKit

/-- A tree in cells. -/
def tobj (V : Option Nat) : Obj := .cells #[.pointer (V.map fun v => ⟨v, 0, none⟩), .string ⟨#[]⟩, .int .i64 0, .int .u64 0, .pointer none] 116

set_option maxHeartbeats 1000000 in
set_option maxRecDepth 10000 in
theorem all11_ok (B Sx x St V : Nat) (w : World) (hB : w.heap[B]? = some (.cells #[.pointer (some ⟨x, 0, none⟩)] 66)) (hS : w.heap[Sx]? = some (tobj none)) (hx : w.heap[x]? = some (xobj St V false)) :
    Calls Tryz.prog 150 #[.pointer (some ⟨B, 0, none⟩), .pointer (some ⟨Sx, 0, none⟩)] w fun e w' => e = .returned (.tuple #[]) ∧ w'.heap[Sx]? = some (tobj (some V)) ∧ Kp [Sx] w w' := by
  have b0 := cell_of hB 0
  have p3 := cell_of hx 3
  have p4 := cell_of hx 4
  have p5 := cell_of hx 5
  have p6 := cell_of hx 6
  have p7 := cell_of hx 7
  have s0 := cell_of hS 0
  have s1 := cell_of hS 1
  have s2 := cell_of hS 2
  have s3 := cell_of hS 3
  have s4 := cell_of hS 4
  simp at b0 p3 p4 p5 p6 p7 s0 s1 s2 s3 s4
  have q0 := frozen_of hS 0
  have q1 := frozen_of hS 1
  have q2 := frozen_of hS 2
  have q3 := frozen_of hS 3
  have q4 := frozen_of hS 4
  go_enter Tryz.func150, Tryz.ntmps150
  go_wp2
  go_end0
  exact ⟨rfl, heap_set (heap_set (heap_set (heap_set (heap_set hS 0 _) 1 _) 2 _) 3 _) 4 _, (((((Kp.refl [Sx] w).setCell (by simp) _).setCell (by simp) _).setCell (by simp) _).setCell (by simp) _).setCell (by simp) _⟩

set_option maxHeartbeats 1000000 in
set_option maxRecDepth 10000 in
theorem all13_ok (Sx Nx Px Tx V : Nat) (f : Fn) (first cap : Array Value) (w : World) (hS : w.heap[Sx]? = some (tobj (some V))) (hN : w.heap[Nx]? = some (.cells #[.func f first cap] 140))
    (hP : w.heap[Px]? = some (.cells #[.string ⟨#[]⟩, .string ⟨#[]⟩] 83)) (hT : w.heap[Tx]? = some (.cells #[.bool false] 4)) (hne : Tx ≠ Px) :
    Calls Tryz.prog 152 #[.pointer (some ⟨Sx, 0, none⟩), .pointer (some ⟨Nx, 0, none⟩), .pointer (some ⟨Px, 0, none⟩), .pointer (some ⟨Tx, 0, none⟩)] w fun e w' => e = .returned (.tuple #[]) ∧ w'.heap[Tx]? = some (.cells #[.bool false] 4) ∧ Kp [Px, Tx] w w' := by
  have HN : Hid (Tx ≠ Px) := hne
  clear hne
  have n0 := cell_of hN 0
  have s0 := cell_of hS 0
  have s1 := cell_of hS 1
  have s2 := cell_of hS 2
  have s3 := cell_of hS 3
  have s4 := cell_of hS 4
  simp at n0 s0 s1 s2 s3 s4
  go_enter Tryz.func152, Tryz.ntmps152
  go_wp2_with fail
  refine (first_ok V _ _).mono ?_
  rintro e w1 ⟨rfl, hK1⟩
  have hP1 := hK1.heap hP (by simp)
  have hT1 := hK1.heap hT (by simp)
  have hK1' := hK1.mono (S' := [Px, Tx]) (by simp)
  clear hK1 n0 s0 s1 s2 s3 s4
  have p0 := cell_of hP1 0
  have p1 := cell_of hP1 1
  have t0 := cell_of hT1 0
  simp at p0 p1 t0
  have fp0 := frozen_of hP1 0
  have fp1 := frozen_of hP1 1
  have ft0 := frozen_of hT1 0
  have t0' : ((w1.setCell ⟨Px, 0, none⟩ (.string ⟨#[]⟩)).setCell ⟨Px, 1, none⟩ (.string ⟨#[]⟩)).heap[Tx]? = some (.cells #[.bool false] 4) := (heap_set_other HN.out _ _).trans ((heap_set_other HN.out _ _).trans hT1)
  have t1 := cell_of t0' 0
  simp only [List.getElem?_toArray, List.getElem?_cons_zero] at t1
  have ft1 := frozen_of t0' 0
  go_wp2
  go_end0
  refine ⟨rfl, heap_set t0' 0 _, ((hK1'.setCell (by simp) _).setCell (by simp) _).setCell (by simp) _⟩

theorem cf150 (args : Array Value) (W : World) : Sem.run Tryz.prog (callFunc 150 args) W = .ok (.enter 150 args) W := by
  simp [go_sem, Tryz.func150]
theorem cf152 (args : Array Value) (W : World) : Sem.run Tryz.prog (callFunc 152 args) W = .ok (.enter 152 args) W := by
  simp [go_sem, Tryz.func152]

set_option maxHeartbeats 2000000 in
set_option maxRecDepth 10000 in
/-- All of a transaction that sees nothing: it yields nothing. -/
theorem all1_ok (y : Value) (B L H x St V : Nat) (N room r : Int) (w : World) (hB : w.heap[B]? = some (.cells #[.pointer (some ⟨x, 0, none⟩)] 66)) (hx : w.heap[x]? = some (xobj St V false)) (hSt : w.heap[St]? = some (sobj V N room r)) (hne : x ≠ St ∧ B ≠ St) :
    Calls Tryz.prog 149 #[y, .pointer (some ⟨B, 0, none⟩), .pointer (some ⟨L, 0, none⟩), .pointer (some ⟨H, 0, none⟩)] w fun e w' => e = .returned (.tuple #[]) ∧ w'.heap[St]? = some (sobj V N room r) ∧ Kp [St] w w' := by
  have HN : Hid (x ≠ St ∧ B ≠ St) := hne
  clear hne
  have hBs := lt_of_heap hB
  have hxs := lt_of_heap hx
  have hSs := lt_of_heap hSt
  have hmf : ∀ (fn : Fn) (first cap : Array Value) (w : World), (Instr.makeFunc fn first cap).run Tryz.prog w = .ok (.func fn first cap) w := fun _ _ _ _ => rfl
  have b0 := cell_of (heap_old (tobj none) hB) 0
  simp only [List.getElem?_toArray, List.getElem?_cons_zero, tobj, Option.map_none] at b0
  go_enter Tryz.func149, Tryz.ntmps149
  go_wp2_with fail
  obtain ⟨w0, hw0, hB0, hx0, hSt0, hS0, hK0, hs0⟩ : ∃ w0, w0 = w.alloc (tobj none) ∧ w0.heap[B]? = some (.cells #[.pointer (some ⟨x, 0, none⟩)] 66) ∧ w0.heap[x]? = some (xobj St V false) ∧ w0.heap[St]? = some (sobj V N room r) ∧ w0.heap[w.heap.size]? = some (tobj none) ∧ Kp [St] w w0 ∧ w0.heap.size = w.heap.size + 1 :=
    ⟨_, rfl, heap_old _ hB, heap_old _ hx, heap_old _ hSt, heap_new _ _, (Kp.refl _ _).alloc _, by simp⟩
  simp only [tobj, Option.map_none] at hw0
  rw [← hw0]
  clear hw0 hB hx hSt b0
  refine (going_ok x St V 150 N room r r #[] _ _ [w.heap.size] (fun _ w1 => w1.heap[w.heap.size]? = some (tobj (some V))) w0 hx0 hSt0 HN.out.1 (cf150 _) (by intro i hi; simp at hi; omega) ?_).mono ?_
  · intro W hK hS
    have hBW := hK.heap hB0 (by simp; exact HN.out.2)
    have hxW := hK.heap hx0 (by simp; exact HN.out.1)
    have hSW := hK.heap hS0 (by simp; omega)
    refine (all11_ok B w.heap.size x St V W hBW hSW hxW).mono ?_
    rintro e w1 ⟨rfl, hs, hk⟩
    exact ⟨rfl, hs, hk.mono (by simp +contextual), hk.heap hS (by simp; omega)⟩
  rintro e w1 ⟨rfl, hSt1, hK1, W, u1, hQ, hKW, hWs, ho⟩
  have hS1 := (ho w.heap.size (by omega) (Or.inl (by omega))).trans hQ
  have hB1 := hK1.heap hB0 (by simp; exact ⟨HN.out.2, by omega⟩)
  have hx1 := hK1.heap hx0 (by simp; exact ⟨HN.out.1, by omega⟩)
  have hK1' : Kp [St] w w1 := hK0.trans hK1 (by intro i hi hlt; simp at hi; simp; omega)
  have hs1 := hK1.size
  clear ho hQ hKW hWs hK1 hB0 hx0 hSt0 hS0 hK0
  clear W u1
  go_wp2_with fail
  obtain ⟨w2, hw2, hB2, hx2, hSt2, hS2, hN2, hK2, hs2⟩ : ∃ w2, w2 = w1.alloc (Obj.cells #[Value.func (Fn.func 151) #[] #[Value.pointer (some { block := L, off := 0 })]] 140) ∧ w2.heap[B]? = some (.cells #[.pointer (some ⟨x, 0, none⟩)] 66) ∧ w2.heap[x]? = some (xobj St V false) ∧ w2.heap[St]? = some (sobj V N room r) ∧ w2.heap[w.heap.size]? = some (tobj (some V)) ∧ w2.heap[w1.heap.size]? = some (Obj.cells #[Value.func (Fn.func 151) #[] #[Value.pointer (some { block := L, off := 0 })]] 140) ∧ Kp [St] w w2 ∧ w2.heap.size = w1.heap.size + 1 :=
    ⟨_, rfl, heap_old _ hB1, heap_old _ hx1, heap_old _ hSt1, heap_old _ hS1, heap_new _ _, hK1'.alloc _, by simp⟩
  rw [← hw2]
  clear hw2 hB1 hx1 hSt1 hS1 hK1'
  have b0 := cell_of (heap_old (Obj.cells #[.bool false] 4) (heap_old (Obj.cells #[.string ⟨#[]⟩, .string ⟨#[]⟩] 83) hB2)) 0
  simp only [List.getElem?_toArray, List.getElem?_cons_zero] at b0
  have HS2 : Hid (w2.heap.size = w1.heap.size + 1) := hs2
  clear hs2
  refine wp_loop_rounds 1 ?_
  rw [rounds_succ]
  go_wp2_with fail
  have hs2 : w2.heap.size = w1.heap.size + 1 := HS2.out
  obtain ⟨w3, hw3, hB3, hx3, hSt3, hS3, hN3, hP3, hT3, hK3, hs3⟩ : ∃ w3, w3 = (w2.alloc (Obj.cells #[.string ⟨#[]⟩, .string ⟨#[]⟩] 83)).alloc (Obj.cells #[.bool false] 4) ∧ w3.heap[B]? = some (.cells #[.pointer (some ⟨x, 0, none⟩)] 66) ∧ w3.heap[x]? = some (xobj St V false) ∧ w3.heap[St]? = some (sobj V N room r) ∧ w3.heap[w.heap.size]? = some (tobj (some V)) ∧ w3.heap[w1.heap.size]? = some (Obj.cells #[Value.func (Fn.func 151) #[] #[Value.pointer (some { block := L, off := 0 })]] 140) ∧ w3.heap[w2.heap.size]? = some (Obj.cells #[.string ⟨#[]⟩, .string ⟨#[]⟩] 83) ∧ w3.heap[w2.heap.size + 1]? = some (Obj.cells #[.bool false] 4) ∧ Kp [St] w w3 ∧ w3.heap.size = w2.heap.size + 2 := by
    refine ⟨_, rfl, heap_old _ (heap_old _ hB2), heap_old _ (heap_old _ hx2), heap_old _ (heap_old _ hSt2), heap_old _ (heap_old _ hS2), heap_old _ (heap_old _ hN2), heap_old _ (heap_new _ _), ?_, (hK2.alloc _).alloc _, by simp⟩
    have e := heap_new (w2.alloc (Obj.cells #[.string ⟨#[]⟩, .string ⟨#[]⟩] 83)) (Obj.cells #[.bool false] 4)
    simpa using e
  rw [← hw3]
  clear hw3 hB2 hx2 hSt2 hS2 hN2 hK2 b0
  refine (going_ok x St V 152 N room r r #[] _ _ [w2.heap.size, w2.heap.size + 1] (fun _ u => u.heap[w2.heap.size + 1]? = some (Obj.cells #[.bool false] 4)) w3 hx3 hSt3 HN.out.1 (cf152 _) (by intro i hi; simp at hi; omega) ?_).mono ?_
  · intro W hK hS
    have hSW := hK.heap hS3 (by simp; omega)
    have hNW := hK.heap hN3 (by simp; omega)
    have hPW := hK.heap hP3 (by simp; omega)
    have hTW := hK.heap hT3 (by simp; omega)
    refine (all13_ok w.heap.size w1.heap.size w2.heap.size (w2.heap.size + 1) V _ _ _ W hSW hNW hPW hTW (by omega)).mono ?_
    rintro e u ⟨rfl, ht, hk⟩
    exact ⟨rfl, ht, hk.mono (by simp +contextual), hk.heap hS (by simp; omega)⟩
  rintro e w4 ⟨rfl, hSt4, hK4, W, u1, hQ, hKW, hWs, ho⟩
  have hT4 := (ho (w2.heap.size + 1) (by omega) (Or.inl (by omega))).trans hQ
  have hK4' : Kp [St] w w4 := hK3.trans hK4 (by intro i hi hlt; simp at hi; simp; omega)
  clear ho hQ hKW hWs hK4 hB3 hx3 hSt3 hS3 hN3 hP3 hT3 hK3
  clear W u1
  have t0 := cell_of hT4 0
  simp at t0
  clear hs3 hs2
  go_wp2
  exact bodyPost_ret (results_none Tryz.results149 _ _ _) rfl ⟨rfl, hSt4, hK4'⟩

set_option maxRecDepth 10000 in
theorem all_ok (x : Nat) (lo hi : ByteArray) (w : World) :
    Calls Tryz.prog 99 #[.pointer (some ⟨x, 0, none⟩), .string lo, .string hi] w fun e w' => e = .returned (.func (.func 149) #[] #[.pointer (some ⟨w.heap.size, 0, none⟩), .pointer (some ⟨w.heap.size + 1, 0, none⟩), .pointer (some ⟨w.heap.size + 2, 0, none⟩)]) ∧
      w'.heap[w.heap.size]? = some (.cells #[.pointer (some ⟨x, 0, none⟩)] 66) ∧ Kp [] w w' := by
  have hmf : ∀ (fn : Fn) (first cap : Array Value) (w : World), (Instr.makeFunc fn first cap).run Tryz.prog w = .ok (.func fn first cap) w := fun _ _ _ _ => rfl
  go_enter Tryz.func99, Tryz.ntmps99
  go_wp2
  go_ret
  exact ⟨rfl, heap_old _ (heap_old _ (heap_new _ _)), (((Kp.refl _ _).alloc _).alloc _).alloc _⟩
end Go.Proofs.YtilapcegpjjlfaaGreatDoor
