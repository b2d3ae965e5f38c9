import Derived.Test.YtilapcegpjjlfaaGreatDoorRef
namespace Go.Proofs.YtilapcegpjjlfaaGreatDoor
set_option linter.unusedSimpArgs false
set_option linter.unusedVariables false
open Go.RowKit

/-- append, by its run. -/
theorem wpList_appR {P : Program} {ops : Array Oper} {rest : List Oper} {dst : Option Tmp} {ty : TypeId} {pos : String} {aft : Array Edge} {a : Act} {w w' : World} {Q : Exit → Act → World → Prop} {s x : Operand} {t : TypeId} {vs vx v' : Value} (hs : a.eval s = vs) (hx : a.eval x = vx)
    (hr : Sem.run P (Builtin.append_ #[t, t] ty #[vs, vx]) w = .ok v' w') (h : wpList P ops Q rest (a.put dst v') w') :
    wpList P ops Q (⟨dst, .call { callee := .builtin .append, args := #[s, x], argTypes := #[t, t] }, ty, pos, aft, none⟩ :: rest) a w := by
  refine wpList_plain rfl fun K hK => ?_
  have hk := hK _ _ h
  unfold Oper.wp execOp
  simp only [resolve, invoke, builtin, Sem.run_bind, Sem.run_pure, Result.andThen_ok, List.map_toArray, List.map_cons, List.map_nil, hs, hx, hr]
  exact hk

theorem cells_ne {w : World} {i j : Nat} {c d : Array Value} {t u : TypeId} {f g : Nat × Nat} (hi : w.heap[i]? = some (.cells c t f)) (hj : w.heap[j]? = some (.cells d u g)) (h : t ≠ u) : i ≠ j := by
  rintro rfl
  rw [hi] at hj
  cases hj
  exact h rfl

/-- What lies in the blocks of S is of no such type. -/
def Apart (w : World) (S : List Nat) (t : TypeId) : Prop := ∀ k, k ∈ S → ∃ c u fr, w.heap[k]? = some (.cells c u fr) ∧ u ≠ t
theorem RowOk.keep {S : List Nat} {w w' : World} {base : Nat} {v : Value} {n : Nat} (h : RowOk w base v n) (hK : Kp S w w') (hS : Apart w S 44) : RowOk w' base v n := by
  refine h.kp hK (fun k c t fr hk hm => ?_)
  obtain ⟨c', u, fr', h1, h2⟩ := hS k hm
  rw [hk] at h1
  cases h1
  exact h2

theorem RowOk.alloc {w : World} {base : Nat} {v : Value} {n : Nat} (h : RowOk w base v n) (o : Obj) : RowOk (w.alloc o) base v n := World.ownsRow.alloc h o
theorem RowOk.below {w : World} {base : Nat} {v : Value} {n : Nat} (h : RowOk w base v n) : ∀ k, v.ownBlock = some k → base ≤ k := fun k hk => (World.ownsRow.lt h k hk).1

set_option maxHeartbeats 2000000 in
set_option maxRecDepth 10000 in
theorem too_ok (base m cm k cw : Nat) (pm pw : Option Addr) (n : Int) (e wl bt : Bool) (w : World) (hm : RowOk w base (.slice pm m cm) m) (hk : RowOk w base (.slice pw k cw) k) (hm1 : m ≤ 100000) (hk1 : k ≤ 100000) :
    Calls Tryz.prog 33 #[.agg #[.int .i64 n, .slice pm m cm, .bool e, .slice pw k cw, .bool wl, .bool bt], .agg #[.slice none 0 0]] w fun r w' => ∃ gm cm' gw cw', r = .returned (.agg #[.int .i64 n, .slice (some ⟨gm, 0, none⟩) (m + 1) cm', .bool e, .slice (some ⟨gw, 0, none⟩) (k + 1) cw', .bool wl, .bool bt]) ∧
      RowOk w' w.heap.size (.slice (some ⟨gw, 0, none⟩) (k + 1) cw') (k + 1) ∧ Kp [] w w' := by
  -- the three boxes
  obtain ⟨W3, hW3, hB3, hM3, hR3, hK3, hs3⟩ : ∃ W3, W3 = ((w.alloc (Obj.cells #[.int .i64 n, .slice pm m cm, .bool e, .slice pw k cw, .bool wl, .bool bt] 40)).alloc (Obj.cells #[.slice none 0 0] 44)).alloc (Obj.cells #[.int .i64 0, .slice none 0 0, .bool false, .slice none 0 0, .bool false, .bool false] 40) ∧
      W3.heap[w.heap.size]? = some (Obj.cells #[.int .i64 n, .slice pm m cm, .bool e, .slice pw k cw, .bool wl, .bool bt] 40) ∧ W3.heap[w.heap.size + 1]? = some (Obj.cells #[.slice none 0 0] 44) ∧ W3.heap[w.heap.size + 1 + 1]? = some (Obj.cells #[.int .i64 0, .slice none 0 0, .bool false, .slice none 0 0, .bool false, .bool false] 40) ∧ Kp [] w W3 ∧ W3.heap.size = w.heap.size + 3 := by
    refine ⟨_, rfl, heap_old _ (heap_old _ (heap_new _ _)), heap_old _ ?_, ?_, (((Kp.refl _ _).alloc _).alloc _).alloc _, by simp⟩
    · have e := heap_new (w.alloc (Obj.cells #[.int .i64 n, .slice pm m cm, .bool e, .slice pw k cw, .bool wl, .bool bt] 40)) (Obj.cells #[.slice none 0 0] 44)
      simpa using e
    · have e := heap_new ((w.alloc (Obj.cells #[.int .i64 n, .slice pm m cm, .bool e, .slice pw k cw, .bool wl, .bool bt] 40)).alloc (Obj.cells #[.slice none 0 0] 44)) (Obj.cells #[.int .i64 0, .slice none 0 0, .bool false, .slice none 0 0, .bool false, .bool false] 40)
      simpa using e
  have hm3 : RowOk W3 base (.slice pm m cm) m := hm.keep hK3 (by intro k h; simp at h)
  have hk3 : RowOk W3 base (.slice pw k cw) k := hk.keep hK3 (by intro k h; simp at h)
  -- the first two appends
  obtain ⟨v1, w1, hr1, hrow1, hK1⟩ := run_app_row W3 base (.slice pm m cm) m 38 hm3 (by omega)
  obtain ⟨p1, c1, rfl⟩ := hrow1.form
  have hB1 := hK1.heap hB3 (by simp)
  have hM1 := hK1.heap hM3 (by simp)
  have hR1 := hK1.heap hR3 (by simp)
  have hs1 := hK1.size
  obtain ⟨v2, w2, hr2, hrow2, hgr2⟩ := run_app_one (w1.alloc (Obj.cells #[.slice none 0 0] 44)) W3.heap.size w1.heap.size (.slice p1 m c1) m 38 (hrow1.alloc _) (by omega) (heap_new _ _) (by simp; omega)
  obtain ⟨g2, c2, rfl⟩ := hrow2.form1
  have hK2 : Kp [] W3 w2 := (hK1.alloc _).grown hgr2 (fun k hk => Or.inr (hrow1.below k hk))
  have hB2 := hK2.heap hB3 (by simp)
  have hM2 := hK2.heap hM3 (by simp)
  have hR2 := hK2.heap hR3 (by simp)
  have hk2 : RowOk w2 base (.slice pw k cw) k := hk3.keep hK2 (by intro k h; simp at h)
  -- the first is kept
  obtain ⟨w3, hw3, hB4, hM4, hR4, hK4, hs4⟩ : ∃ w3, w3 = w2.setCell ⟨w.heap.size, 1, none⟩ (.slice (some ⟨g2, 0, none⟩) (m + 1) c2) ∧ w3.heap[w.heap.size]? = some (Obj.cells #[.int .i64 n, .slice (some ⟨g2, 0, none⟩) (m + 1) c2, .bool e, .slice pw k cw, .bool wl, .bool bt] 40) ∧ w3.heap[w.heap.size + 1]? = some (Obj.cells #[.slice none 0 0] 44) ∧ w3.heap[w.heap.size + 1 + 1]? = some (Obj.cells #[.int .i64 0, .slice none 0 0, .bool false, .slice none 0 0, .bool false, .bool false] 40) ∧ Kp [] w w3 ∧ w3.heap.size = w2.heap.size :=
    ⟨_, rfl, heap_set hB2 1 _, (heap_set_other (by omega) _ _).trans hM2, (heap_set_other (by omega) _ _).trans hR2, (hK3.trans hK2 (by simp)).setCell (Or.inr (by simp)) _, by simp [World.setCell]⟩
  have hk4 : RowOk w3 base (.slice pw k cw) k := by
    refine hk.keep hK4 (by intro k h; simp at h)
  -- the other two
  obtain ⟨v5, w5, hr5, hrow5, hK5⟩ := run_app_row w3 base (.slice pw k cw) k 38 hk4 (by omega)
  obtain ⟨p5, c5, rfl⟩ := hrow5.form
  have hB5 := hK5.heap hB4 (by simp)
  have hM5 := hK5.heap hM4 (by simp)
  have hR5 := hK5.heap hR4 (by simp)
  have hs5 := hK5.size
  obtain ⟨v6, w6, hr6, hrow6, hgr6⟩ := run_app_one (w5.alloc (Obj.cells #[.slice none 0 0] 44)) w3.heap.size w5.heap.size (.slice p5 k c5) k 38 (hrow5.alloc _) (by omega) (heap_new _ _) (by simp; omega)
  obtain ⟨g6, c6, rfl⟩ := hrow6.form1
  have hK6 : Kp [] w3 w6 := (hK5.alloc _).grown hgr6 (fun k hk => Or.inr (hrow5.below k hk))
  have hB6 := hK6.heap hB4 (by simp)
  have hR6 := hK6.heap hR4 (by simp)
  have hK6' : Kp [] w w6 := hK4.trans hK6 (by simp)
  have hs6 := hK4.size
  have x1 := cell_of hB3 1
  have y0 := cell_of hM1 0
  have z1 := cell_of hB2 1
  have z1f := frozen_of hB2 1
  have u3 := cell_of hB4 3
  have t0 := cell_of hM5 0
  have q0 := cell_of hB6 0
  have q1 := cell_of hB6 1
  have q2 := cell_of hB6 2
  have q3 := cell_of hB6 3
  have q4 := cell_of hB6 4
  have q5 := cell_of hB6 5
  have r0 := cell_of hR6 0
  have r1 := cell_of hR6 1
  have r2 := cell_of hR6 2
  have r3 := cell_of hR6 3
  have r4 := cell_of hR6 4
  have r5 := cell_of hR6 5
  have r0f := frozen_of hR6 0
  have r1f := frozen_of hR6 1
  have r2f := frozen_of hR6 2
  have r3f := frozen_of hR6 3
  have r4f := frozen_of hR6 4
  have r5f := frozen_of hR6 5
  have q3f := frozen_of hB6 3
  simp only [List.getElem?_toArray, List.getElem?_cons_zero, List.getElem?_cons_succ] at x1 y0 z1 u3 t0 q0 q1 q2 q3 q4 q5 r0 r1 r2 r3 r4 r5
  rw [hw3] at hr5 u3
  rw [hW3] at hr1 x1
  clear hm hk hm3 hk3 hk2 hk4 hrow1 hrow2 hrow5 hK1 hK2 hK3 hK5 hgr2 hgr6 hB1 hM1 hR1 hB2 hM2 hR2 hB3 hM3 hR3 hB4 hM4 hR4 hB5 hM5 hR5 hs1 hs3 hs4 hs5 hW3 hw3
  go_enter Tryz.func33, Tryz.ntmps33
  go_wp2_with (at_builtin; first | ((with_reducible refine wpList_appR ?_ ?_ hr1 ?_); rfl; rfl) | ((with_reducible refine wpList_appR ?_ ?_ hr2 ?_); rfl; rfl) | ((with_reducible refine wpList_appR ?_ ?_ hr5 ?_); rfl; rfl) | ((with_reducible refine wpList_appR ?_ ?_ hr6 ?_); rfl; rfl))
  have hR7 := (heap_set_other (w := w6) (b := w.heap.size) (k := w.heap.size + 1 + 1) (by omega) 3 (.slice (some ⟨g6, 0, none⟩) (k + 1) c6)).trans hR6
  refine bodyPost_ret (results_cell_row Tryz.results33 _ _ (w.heap.size + 1 + 1) 40 #[.int .i64 n, .slice (some ⟨g2, 0, none⟩) (m + 1) c2, .bool e, .slice (some ⟨g6, 0, none⟩) (k + 1) c6, .bool wl, .bool bt] (0, 0) _ rfl (heap_set (heap_set (heap_set (heap_set (heap_set (heap_set hR7 0 _) 1 _) 2 _) 3 _) 4 _) 5 _) Tryz.underlying40 rfl (by kernel_rfl)) rfl ⟨g2, c2, g6, c6, rfl, ?_, ?_⟩
  · refine (hrow6.le hs6).keep (S := [w.heap.size, w.heap.size + 1 + 1]) (((((((((Kp.refl _ w6).setCell (by simp) _).setCell (by simp) _).setCell (by simp) _).setCell (by simp) _).setCell (by simp) _).setCell (by simp) _).setCell (by simp) _)) ?_
    intro k hk
    rcases List.mem_cons.1 hk with rfl | hk
    · exact ⟨_, _, _, hB6, by decide⟩
    · rw [List.mem_singleton.1 hk]
      exact ⟨_, _, _, hR6, by decide⟩
  · exact ((((((hK6'.setCell (Or.inr (by simp)) _).setCell (Or.inr (by simp; omega)) _).setCell (Or.inr (by simp; omega)) _).setCell (Or.inr (by simp; omega)) _).setCell (Or.inr (by simp; omega)) _).setCell (Or.inr (by simp; omega)) _).setCell (Or.inr (by simp; omega)) _

set_option maxHeartbeats 2000000 in
set_option maxRecDepth 10000 in
theorem only_ok (base m cm k cw : Nat) (pm pw : Option Addr) (n : Int) (e wl bt : Bool) (w : World) (hm : RowOk w base (.slice pm m cm) m) (hk : RowOk w base (.slice pw k cw) k) (hm1 : m ≤ 100000) (hk1 : k ≤ 100000) :
    Calls Tryz.prog 32 #[.agg #[.int .i64 n, .slice pm m cm, .bool e, .slice pw k cw, .bool wl, .bool bt], .agg #[.slice none 0 0]] w fun r w' => ∃ gm gw cw', r = .returned (.agg #[.int .i64 n, .slice (some ⟨gm, 0, none⟩) 1 1, .bool false, .slice (some ⟨gw, 0, none⟩) (k + 1) cw', .bool wl, .bool bt]) ∧
      RowOk w' w.heap.size (.slice (some ⟨gm, 0, none⟩) 1 1) 1 ∧ RowOk w' w.heap.size (.slice (some ⟨gw, 0, none⟩) (k + 1) cw') (k + 1) ∧ Kp [] w w' := by
  obtain ⟨W3, hW3, hB3, hM3, hR3, hK3, hs3⟩ : ∃ W3, W3 = ((w.alloc (Obj.cells #[.int .i64 n, .slice pm m cm, .bool e, .slice pw k cw, .bool wl, .bool bt] 40)).alloc (Obj.cells #[.slice none 0 0] 44)).alloc (Obj.cells #[.int .i64 0, .slice none 0 0, .bool false, .slice none 0 0, .bool false, .bool false] 40) ∧
      W3.heap[w.heap.size]? = some (Obj.cells #[.int .i64 n, .slice pm m cm, .bool e, .slice pw k cw, .bool wl, .bool bt] 40) ∧ W3.heap[w.heap.size + 1]? = some (Obj.cells #[.slice none 0 0] 44) ∧ W3.heap[w.heap.size + 1 + 1]? = some (Obj.cells #[.int .i64 0, .slice none 0 0, .bool false, .slice none 0 0, .bool false, .bool false] 40) ∧ Kp [] w W3 ∧ W3.heap.size = w.heap.size + 3 := by
    refine ⟨_, rfl, heap_old _ (heap_old _ (heap_new _ _)), heap_old _ ?_, ?_, (((Kp.refl _ _).alloc _).alloc _).alloc _, by simp⟩
    · have e := heap_new (w.alloc (Obj.cells #[.int .i64 n, .slice pm m cm, .bool e, .slice pw k cw, .bool wl, .bool bt] 40)) (Obj.cells #[.slice none 0 0] 44)
      simpa using e
    · have e := heap_new ((w.alloc (Obj.cells #[.int .i64 n, .slice pm m cm, .bool e, .slice pw k cw, .bool wl, .bool bt] 40)).alloc (Obj.cells #[.slice none 0 0] 44)) (Obj.cells #[.int .i64 0, .slice none 0 0, .bool false, .slice none 0 0, .bool false, .bool false] 40)
      simpa using e
  have hm3 : RowOk W3 base (.slice pm m cm) m := hm.keep hK3 (by intro k h; simp at h)
  have hk3 : RowOk W3 base (.slice pw k cw) k := hk.keep hK3 (by intro k h; simp at h)
  clear hm hk
  go_enter Tryz.func32, Tryz.ntmps32
  go_wp2_with fail
  rw [← hW3]
  clear hW3
  refine (too_ok base m cm k cw pm pw n e wl bt W3 hm3 hk3 hm1 hk1).mono ?_
  rintro r w1 ⟨gm, cm', gw, cw', rfl, hrow1, hK1⟩
  have hM1 := hK1.heap hM3 (by simp)
  have hR1 := hK1.heap hR3 (by simp)
  have hK1' : Kp [] w w1 := hK3.trans hK1 (by simp)
  have HS1 : Hid (W3.heap.size ≤ w1.heap.size) := hK1.size
  have HS3 : Hid (W3.heap.size = w.heap.size + 3) := hs3
  clear hm3 hk3 hK1 hB3 hM3 hR3 hs3
  have y0 := cell_of hM1 0
  have r0 := cell_of hR1 0
  have r1 := cell_of hR1 1
  have r2 := cell_of hR1 2
  have r3 := cell_of hR1 3
  have r4 := cell_of hR1 4
  have r5 := cell_of hR1 5
  simp only [List.getElem?_toArray, List.getElem?_cons_zero, List.getElem?_cons_succ] at y0 r0 r1 r2 r3 r4 r5
  have hl1 : w.heap.size + 1 < w1.heap.size := lt_of_heap hM1
  have hl2 : w.heap.size + 1 + 1 < w1.heap.size := lt_of_heap hR1
  have r0f := frozen_of hR1 0
  have r1f := frozen_of hR1 1
  have r2f := frozen_of hR1 2
  have r3f := frozen_of hR1 3
  have r4f := frozen_of hR1 4
  have r5f := frozen_of hR1 5
  go_wp2
  obtain ⟨w2, hw2, hR2, hK2, hs2⟩ : ∃ w2, w2 = (((((w1.setCell { block := w.heap.size + 1 + 1, off := 0 } (Value.int IntKind.i64 n)).setCell { block := w.heap.size + 1 + 1, off := 1 } (Value.slice (some { block := w1.heap.size + 1, off := 0 }) 1 1)).setCell { block := w.heap.size + 1 + 1, off := 2 } (Value.bool false)).setCell { block := w.heap.size + 1 + 1, off := 3 } (Value.slice (some { block := gw, off := 0 }) (k + 1) cw')).setCell { block := w.heap.size + 1 + 1, off := 4 } (Value.bool wl)).setCell { block := w.heap.size + 1 + 1, off := 5 } (Value.bool bt) ∧ w2.heap[w.heap.size + 1 + 1]? = some (Obj.cells #[.int .i64 n, .slice (some ⟨w1.heap.size + 1, 0, none⟩) 1 1, .bool false, .slice (some ⟨gw, 0, none⟩) (k + 1) cw', .bool wl, .bool bt] 40) ∧ Kp [w.heap.size + 1 + 1] w1 w2 ∧ w2.heap.size = w1.heap.size :=
    ⟨_, rfl, heap_set (heap_set (heap_set (heap_set (heap_set (heap_set hR1 0 _) 1 _) 2 _) 3 _) 4 _) 5 _, ((((((Kp.refl _ w1).setCell (by simp) _).setCell (by simp) _).setCell (by simp) _).setCell (by simp) _).setCell (by simp) _).setCell (by simp) _, by simp [World.setCell]⟩
  rw [← hw2]
  clear hw2
  have hrow2 : RowOk w2 W3.heap.size (.slice (some ⟨gw, 0, none⟩) (k + 1) cw') (k + 1) := hrow1.keep hK2 (fun k hk => by rw [List.mem_singleton.1 hk]; exact ⟨_, _, _, hR1, by decide⟩)
  have hK2' : Kp [] w w2 := hK1'.trans hK2 (fun i hi hlt => by simp at hi; omega)
  refine bodyPost_ret (results_cell_row Tryz.results32 _ _ (w.heap.size + 1 + 1) 40 #[.int .i64 n, .slice (some ⟨w1.heap.size + 1, 0, none⟩) 1 1, .bool false, .slice (some ⟨gw, 0, none⟩) (k + 1) cw', .bool wl, .bool bt] (0, 0) _ rfl (heap_old _ (heap_old _ hR2)) Tryz.underlying40 rfl (by kernel_rfl)) rfl ⟨w1.heap.size + 1, gw, cw', rfl, ?_, ((hrow2.alloc _).alloc _).le (by have := HS3.out; omega), (hK2'.alloc _).alloc _⟩
  refine ⟨by simp, .inr ⟨w1.heap.size + 1, 1, #[.slice none 0 0], rfl, by omega, ?_, Nat.le_refl _, by unfold maxLen; omega, rfl, rfl⟩⟩
  have e := heap_new (w2.alloc (Obj.cells #[Value.int IntKind.i64 n, Value.slice (some { block := w1.heap.size + 1, off := 0 }) 1 1, Value.bool false, Value.slice (some { block := gw, off := 0 }) (k + 1) cw', Value.bool wl, Value.bool bt] 40)) (Obj.cells #[Value.slice none 0 0] 44)
  simpa [hs2] using e

set_option maxHeartbeats 1000000 in
theorem fits_yes (may were : Value) (n : Nat) (e wl bt : Bool) (w : World) (h8 : 8 ≤ n) (h400 : n ≤ 400) :
    Calls Tryz.prog 31 #[.agg #[.int .i64 n, may, .bool e, were, .bool wl, .bool bt]] w fun r w' => r = .returned (.bool true) ∧ Kp [] w w' := by
  go_enter Tryz.func31, Tryz.ntmps31
  go_wp2
  go_ret
  exact ⟨by show Ending.returned (Value.bool (decide ((n : Int) ≤ 400))) = _; rw [decide_eq_true (by omega)], (Kp.refl _ _).alloc _⟩
set_option maxHeartbeats 1000000 in
theorem fits_no (may were : Value) (n : Nat) (e wl bt : Bool) (w : World) (hb : n < 8 ∨ 400 < n) :
    Calls Tryz.prog 31 #[.agg #[.int .i64 n, may, .bool e, were, .bool wl, .bool bt]] w fun r w' => r = .returned (.bool false) ∧ Kp [] w w' := by
  by_cases h8 : n < 8
  · clear hb
    go_enter Tryz.func31, Tryz.ntmps31
    go_wp2
    go_ret
    exact ⟨rfl, (Kp.refl _ _).alloc _⟩
  · have h400 : 400 < n := by omega
    clear hb
    go_enter Tryz.func31, Tryz.ntmps31
    go_wp2
    go_ret
    exact ⟨by show Ending.returned (Value.bool (decide ((n : Int) ≤ 400))) = _; rw [decide_eq_false (by omega)], (Kp.refl _ _).alloc _⟩

set_option maxHeartbeats 1000000 in
set_option maxRecDepth 10000 in
theorem has_ok (base g : Nat) (were : Value) (n : Int) (e wl bt : Bool) (w : World) (hm : RowOk w base (.slice (some ⟨g, 0, none⟩) 1 1) 1) :
    Calls Tryz.prog 56 #[.agg #[.int .i64 n, .slice (some ⟨g, 0, none⟩) 1 1, .bool e, were, .bool wl, .bool bt], .slice none 0 0] w fun r w' => r = .returned (.bool true) ∧ Kp [] w w' := by
  have c0 : w.cell? ⟨g, 0, none⟩ = some (.slice none 0 0) := by
    have := World.ownsRow.cells hm (g := g) rfl 0 (.slice none 0 0) rfl
    rwa [add_none] at this
  have hg : g < w.heap.size := (World.ownsRow.lt hm g rfl).2
  go_enter Tryz.func56, Tryz.ntmps56
  go_wp2_with fail
  refine wp_loop_rounds 1 ?_
  rw [rounds_succ]
  go_wp2_with (go_at_call 73; refine (same_nil _).mono ?_; rintro r w' ⟨rfl, rfl⟩)
  go_ret
  exact ⟨rfl, (Kp.refl _ _).alloc _⟩
end Go.Proofs.YtilapcegpjjlfaaGreatDoor
